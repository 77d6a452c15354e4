import PyProof.Rows.All
import Wide.All
import OpenK.AllK
import Wide.FinOn
import PyProof.EqAt
import PyProof.EqKinds
import PyProof.TupleCall
import KE.KOpsOwn
import HandS.ForMost
import HandS.OwnEq
import HandS.Star
import HandS.ClsMeth
import HandS.IsInst
import HandS.Codes
import HandS.Flow
import HandS.Wide
import HandS.ForExc
import KE.KTab
import HandS.TupAny
import PyProof.ReprRoads
import PyProof.CallFns
import HandS.Ends
import KE.KExcIs
import HandS.ExcInit
import HandS.ExcField
import HandS.ExcIs
import HandS.ExcOwn
import HandS.MakeKw
import HandS.MakeKwOnly
import HandS.Defaults
import HandS.Property
import HandS.WordsExc
import HandS.Zip
import KE.GoesMore
import PyProof.Draws
import HandS.NoneIn
import HandS.Dict
import HandS.DictComp
import HandS.SortKw
import HandS.SortInts
import HandS.Style
import HandS.SetFor
import HandS.TupLe
import HandS.Conv
import KE.KUnpackStar
import HandS.DictEq
import HandS.ListEq
import HandS.Strs
import PyProof.DictUpdate
import HandS.Iter
import PyProof.ExcBaseAll.LookupError
import PyProof.Rows.FactsExc_KeyError
import HandS.RevRange
import PySem.Challenge.RW_trustedpages_k72_texts_of_books
import Open.Row
import KE.RegKIsAll
set_option Elab.async false
set_option linter.all false
set_option maxRecDepth 100000
set_option maxHeartbeats 4000000
namespace DX
open PySem PySem.Spec PyProof.Rows L2
/-! values as data: what is frozen is told by its content, what may change by its number in the memory -/
inductive D where
  | non | bl (b : Bool) | int (i : Int) | str (x : Str) | byt (b : Array UInt8)
  | lst (xs : List D) | tup (xs : List D) | kt (xs : List D) | kl (xs : List D)
  | ins (C : Addr) (fs : List (Str × D))
  | dic (kvs : List (Key × D))
  | kd (kvs : List (Key × D))
  | fd (kvs : List (Key × D))
  | val (v : V)
  | ob (k : Nat)
  | exc (a C : Addr) (d : Option Addr) (fs : List (Str × D))
/-- an object of the memory -/
inductive M where
  | lst (xs : List D)
  | ins (C : Addr) (fs : List (Str × D))
  | dic (kvs : List (Key × D))
abbrev Rho := List (Option D)
abbrev Mem := List M
/-- a dict of the kit, its keys texts -/
def KDic (K : PySem.W.Frag) (a : Addr) (ks : List (Key × V)) : Prop := ∃ D : List (Str × V), ks = D.map (fun p => (.inr p.1, p.2)) ∧ ∀ h, K.In h → PyProof.Rows.KTD.TabOf (fun v u => RelV v u) h a D
mutual
inductive Rep (K : PySem.W.Frag) (as : List Addr) (F : Hp) : V → D → Prop
  | non : Rep K as F .non .non
  | bl (b : Bool) : Rep K as F (.bl b) (.bl b)
  | int (i : Int) : Rep K as F (.int i) (.int i)
  | str (x : Str) : Rep K as F (.str x) (.str x)
  | byt (b : Array UInt8) : Rep K as F (.byt b) (.byt b)
  | lst {a : Addr} {vs : List V} {ds : List D} : F a = some (.lst vs) → RepL K as F vs ds → Rep K as F (.ref a) (.lst ds)
  | kl {a : Addr} {vs : List V} {ds : List D} : SqL K F a vs → RepL K as F vs ds → Rep K as F (.ref a) (.kl ds)
  | tup {a : Addr} {vs : List V} {ds : List D} : F a = some (.tup vs) → RepL K as F vs ds → Rep K as F (.ref a) (.tup ds)
  | kt {a : Addr} {vs : List V} {ds : List D} : SqT K F a vs → RepL K as F vs ds → Rep K as F (.ref a) (.kt ds)
  | ins {a C dx : Addr} {fs : List (Str × V)} {gs : List (Str × D)} : F a = some (.ins C dx fs) → RepF K as F fs gs → Rep K as F (.ref a) (.ins C gs)
  | dic {a : Addr} {vs : List (Key × V)} {ds : List (Key × D)} : F a = some (.dK vs) → RepK K as F vs ds → Rep K as F (.ref a) (.dic ds)
  | kd {a : Addr} {vs : List (Key × V)} {ds : List (Key × D)} : KDic K a vs → RepK K as F vs ds → Rep K as F (.ref a) (.kd ds)
  | fd {a : Addr} {o : Obj} {vs : List (Key × V)} {ds : List (Key × D)} : F a = some (.frz o (.dK vs)) → RepK K as F vs ds → Rep K as F (.ref a) (.fd ds)
  | val (v : V) : Rep K as F v (.val v)
  | ob {k : Nat} {a : Addr} : as[k]? = some a → Rep K as F (.ref a) (.ob k)
  | exc0 {a C : Addr} {d : Option Addr} : Rep K as F (.ref a) (.exc a C d [])
  | exc {a C dd : Addr} {fs : List (Str × V)} {gs : List (Str × D)} : F dd = some (.xd fs) → RepF K as F fs gs → Rep K as F (.ref a) (.exc a C (some dd) gs)
inductive RepL (K : PySem.W.Frag) (as : List Addr) (F : Hp) : List V → List D → Prop
  | nil : RepL K as F [] []
  | cons {v : V} {vs : List V} {d : D} {ds : List D} : Rep K as F v d → RepL K as F vs ds → RepL K as F (v :: vs) (d :: ds)
inductive RepF (K : PySem.W.Frag) (as : List Addr) (F : Hp) : List (Str × V) → List (Str × D) → Prop
  | nil : RepF K as F [] []
  | cons {n : Str} {v : V} {vs : List (Str × V)} {d : D} {ds : List (Str × D)} : Rep K as F v d → RepF K as F vs ds → RepF K as F ((n, v) :: vs) ((n, d) :: ds)
/-- a dict's entries -/
inductive RepK (K : PySem.W.Frag) (as : List Addr) (F : Hp) : List (Key × V) → List (Key × D) → Prop
  | nil : RepK K as F [] []
  | cons {n : Key} {v : V} {vs : List (Key × V)} {d : D} {ds : List (Key × D)} : Rep K as F v d → RepK K as F vs ds → RepK K as F ((n, v) :: vs) ((n, d) :: ds)
end
/-- what is known grows -/
structure Gr (as : List Addr) (F : Hp) (as' : List Addr) (F' : Hp) : Prop where
  f : Same F F'
  p : ∀ (k : Nat) (a : Addr), as[k]? = some a → as'[k]? = some a
theorem Gr.refl {as : List Addr} {F : Hp} : Gr as F as F := ⟨Same.refl F, fun _ _ h => h⟩
theorem Gr.trans {as as1 as2 : List Addr} {F F1 F2 : Hp} (a : Gr as F as1 F1) (b : Gr as1 F1 as2 F2) : Gr as F as2 F2 := ⟨a.f.trans b.f, fun k x h => b.p k x (a.p k x h)⟩
theorem same_upd {H : Hp} {p : Addr} {o : HO} (h : H p = none) : Same H (upd H p o) := fun b x e => by
  rw [upd_ne (ne_of_none e h)]
  exact e
theorem Rd.up {H H' : Hp} {a : Addr} {u : HO} (s : Same H H') (h : Rd H a u) : Rd H' a u := h.elim (fun e => .inl (s _ _ e)) fun ⟨o, e⟩ => .inr ⟨o, s _ _ e⟩
section
variable {K : PySem.W.Frag} {as as' : List Addr} {F F' H H' : Hp}
mutual
theorem Rep.up (g : Gr as F as' F') : ∀ {v : V} {d : D}, Rep K as F v d → Rep K as' F' v d
  | _, _, .non => .non
  | _, _, .bl b => .bl b
  | _, _, .int b => .int b
  | _, _, .str b => .str b
  | _, _, .byt b => .byt b
  | _, _, .lst h r => .lst (g.f _ _ h) (RepL.up g r)
  | _, _, .kl h r => .kl (g.f.seq h) (RepL.up g r)
  | _, _, .tup h r => .tup (g.f _ _ h) (RepL.up g r)
  | _, _, .kt h r => .kt (SqT.ext h g.f) (RepL.up g r)
  | _, _, .ins h r => .ins (g.f _ _ h) (RepF.up g r)
  | _, _, .dic h r => .dic (g.f _ _ h) (RepK.up g r)
  | _, _, .kd h r => .kd h (RepK.up g r)
  | _, _, .fd h r => .fd (g.f _ _ h) (RepK.up g r)
  | _, _, .val v => .val v
  | _, _, .ob h => .ob (g.p _ _ h)
  | _, _, .exc0 => .exc0
  | _, _, .exc h r => .exc (g.f _ _ h) (RepF.up g r)
theorem RepL.up (g : Gr as F as' F') : ∀ {vs : List V} {ds : List D}, RepL K as F vs ds → RepL K as' F' vs ds
  | _, _, .nil => .nil
  | _, _, .cons h r => .cons (Rep.up g h) (RepL.up g r)
theorem RepF.up (g : Gr as F as' F') : ∀ {vs : List (Str × V)} {ds : List (Str × D)}, RepF K as F vs ds → RepF K as' F' vs ds
  | _, _, .nil => .nil
  | _, _, .cons h r => .cons (Rep.up g h) (RepF.up g r)
theorem RepK.up (g : Gr as F as' F') : ∀ {vs : List (Key × V)} {ds : List (Key × D)}, RepK K as F vs ds → RepK K as' F' vs ds
  | _, _, .nil => .nil
  | _, _, .cons h r => .cons (Rep.up g h) (RepK.up g r)
end
theorem RepL.len : ∀ {vs : List V} {ds : List D}, RepL K as F vs ds → vs.length = ds.length
  | _, _, .nil => rfl
  | _, _, .cons _ r => congrArg Nat.succ (RepL.len r)
theorem RepL.get : ∀ {vs : List V} {ds : List D} {i : Nat} {d : D}, RepL K as F vs ds → ds[i]? = some d → ∃ v, vs[i]? = some v ∧ Rep K as F v d
  | _, _, _, _, .nil, e => by simp at e
  | _, _, 0, _, .cons h _, e => by simp at e; subst e; exact ⟨_, rfl, h⟩
  | _, _, i + 1, d, .cons _ r, e => by
    obtain ⟨v, h1, h2⟩ := RepL.get (i := i) (d := d) r (by simpa using e)
    exact ⟨v, by simpa using h1, h2⟩
theorem RepL.get' : ∀ {vs : List V} {ds : List D} {i : Nat} {v : V}, RepL K as F vs ds → vs[i]? = some v → ∃ d, ds[i]? = some d ∧ Rep K as F v d
  | _, _, _, _, .nil, e => by simp at e
  | _, _, 0, _, .cons h _, e => by simp at e; subst e; exact ⟨_, rfl, h⟩
  | _, _, i + 1, d, .cons _ r, e => by
    obtain ⟨v, h1, h2⟩ := RepL.get' (i := i) (v := d) r (by simpa using e)
    exact ⟨v, by simpa using h1, h2⟩
theorem RepL.append : ∀ {vs us : List V} {ds es : List D}, RepL K as F vs ds → RepL K as F us es → RepL K as F (vs ++ us) (ds ++ es)
  | _, _, _, _, .nil, s => s
  | _, _, _, _, .cons r t, s => .cons r (RepL.append t s)
theorem RepL.take : ∀ {vs : List V} {ds : List D} (n : Nat), RepL K as F vs ds → RepL K as F (vs.take n) (ds.take n)
  | _, _, 0, _ => .nil
  | _, _, _ + 1, .nil => .nil
  | _, _, n + 1, .cons r t => .cons r (RepL.take n t)
theorem RepL.drop : ∀ {vs : List V} {ds : List D} (n : Nat), RepL K as F vs ds → RepL K as F (vs.drop n) (ds.drop n)
  | _, _, 0, r => r
  | _, _, _ + 1, .nil => .nil
  | _, _, n + 1, .cons _ t => RepL.drop n t
theorem RepL.set {v : V} {d : D} (h : Rep K as F v d) : ∀ {vs : List V} {ds : List D} (i : Nat), RepL K as F vs ds → RepL K as F (vs.set i v) (ds.set i d)
  | _, _, _, .nil => .nil
  | _, _, 0, .cons _ t => .cons h t
  | _, _, i + 1, .cons q t => .cons q (RepL.set h i t)
theorem RepL.reverse : ∀ {vs : List V} {ds : List D}, RepL K as F vs ds → RepL K as F vs.reverse ds.reverse
  | _, _, .nil => .nil
  | _, _, .cons h r => by
    rw [List.reverse_cons, List.reverse_cons]
    exact RepL.append (RepL.reverse r) (.cons h .nil)
theorem RepL.eraseIdx : ∀ {vs : List V} {ds : List D} (i : Nat), RepL K as F vs ds → RepL K as F (vs.eraseIdx i) (ds.eraseIdx i)
  | _, _, _, .nil => .nil
  | _, _, 0, .cons _ t => t
  | _, _, i + 1, .cons q t => .cons q (RepL.eraseIdx i t)
theorem RepF.look {n : Str} : ∀ {vs : List (Str × V)} {ds : List (Str × D)} {d : D}, RepF K as F vs ds → ds.lookup n = some d → ∃ v, vs.lookup n = some v ∧ Rep K as F v d
  | _, _, _, .nil, e => by cases e
  | _, _, _, .cons (n := m) h r, e => by
    rw [List.lookup_cons] at e ⊢
    cases q : n == m with
    | true => rw [q] at e; cases e; exact ⟨_, rfl, h⟩
    | false => rw [q] at e; exact RepF.look r e
theorem RepF.lookN {n : Str} : ∀ {vs : List (Str × V)} {ds : List (Str × D)}, RepF K as F vs ds → ds.lookup n = none → vs.lookup n = none
  | _, _, .nil, _ => rfl
  | _, _, .cons (n := m) h r, e => by
    rw [List.lookup_cons] at e ⊢
    cases q : n == m with
    | true => rw [q] at e; cases e
    | false => rw [q] at e; exact RepF.lookN r e
/-- the fields with one put in (as putF does) -/
def putD (f : Str) (d : D) : List (Str × D) → List (Str × D)
  | [] => [(f, d)]
  | (n, e) :: r => if n = f then (n, d) :: r else (n, e) :: putD f d r
theorem RepF.put {f : Str} {v : V} {d : D} (h : Rep K as F v d) : ∀ {vs : List (Str × V)} {ds : List (Str × D)}, RepF K as F vs ds → RepF K as F (putF f v vs) (putD f d ds)
  | _, _, .nil => .cons h .nil
  | _, _, .cons (n := n) (v := x) (vs := vs) (d := e) (ds := ds) q r => by
    show RepF K as F (if n = f then (n, v) :: vs else (n, x) :: putF f v vs) (if n = f then (n, d) :: ds else (n, e) :: putD f d ds)
    by_cases z : n = f
    · rw [if_pos z, if_pos z]; exact .cons h r
    · rw [if_neg z, if_neg z]; exact .cons q (RepF.put h r)
theorem RepF.len : ∀ {vs : List (Str × V)} {ds : List (Str × D)}, RepF K as F vs ds → vs.length = ds.length
  | _, _, .nil => rfl
  | _, _, .cons _ r => congrArg Nat.succ (RepF.len r)
end
end DX
set_option Elab.async false
set_option linter.all false
set_option maxRecDepth 100000
set_option maxHeartbeats 4000000
namespace DX
open PySem PySem.Spec PyProof.Rows L2
section
variable {K : PySem.W.Frag} {Z : Hp} {as as' : List Addr} {F F' H H' : Hp}
/-- what stands at a place of the memory -/
def MAt (K : PySem.W.Frag) (as : List Addr) (F H : Hp) (a : Addr) : M → Prop
  | .lst ds => ∃ vs, H a = some (.lst vs) ∧ RepL K as F vs ds
  | .ins C gs => ∃ dx fs, H a = some (.ins C dx fs) ∧ RepF K as F fs gs
  | .dic kvs => ∃ ks, H a = some (.dK ks) ∧ RepK K as F ks kvs
theorem MAt.some {a : Addr} {m : M} (h : MAt K as F H a m) : ∃ o, H a = some o := by
  cases m with
  | lst ds => obtain ⟨vs, e, _⟩ := h; exact ⟨_, e⟩
  | ins C gs => obtain ⟨dx, fs, e, _⟩ := h; exact ⟨_, e⟩
  | dic kvs => obtain ⟨ks, e, _⟩ := h; exact ⟨_, e⟩
theorem MAt.up {a : Addr} {m : M} (h : MAt K as F H a m) (g : Gr as F as' F') (e : H' a = H a) : MAt K as' F' H' a m := by
  cases m with
  | lst ds => obtain ⟨vs, q, r⟩ := h; exact ⟨vs, e.trans q, r.up g⟩
  | ins C gs => obtain ⟨dx, fs, q, r⟩ := h; exact ⟨dx, fs, e.trans q, r.up g⟩
  | dic kvs => obtain ⟨ks, q, r⟩ := h; exact ⟨ks, e.trans q, r.up g⟩
/-- the memory, in the heap H, over what is frozen -/
structure Mm (K : PySem.W.Frag) (Z : Hp) (as : List Addr) (F H : Hp) (μ : Mem) : Prop where
  same : Same F H
  len : as.length = μ.length
  nd : as.Nodup
  fr : ∀ a ∈ as, F a = none
  at_ : ∀ (k : Nat) (m : M), μ[k]? = some m → ∃ a, as[k]? = some a ∧ MAt K as F H a m
  hid : ∀ a o, Z a = some o → H a = some o ∧ F a = none ∧ a ∉ as
theorem Mm.there {μ : Mem} (h : Mm K Z as F H μ) {a : Addr} (ha : a ∈ as) : ∃ o, H a = some o := by
  obtain ⟨k, hk⟩ := List.getElem?_of_mem ha
  have hl : k < μ.length := by rw [← h.len]; exact (List.getElem?_eq_some_iff.mp hk).1
  obtain ⟨b, hb, m⟩ := h.at_ k _ (List.getElem?_eq_getElem hl)
  obtain rfl := Option.some.inj (hk.symm.trans hb)
  exact m.some
theorem Mm.new {μ : Mem} (h : Mm K Z as F H μ) {p : Addr} (n : H p = none) : p ∉ as := fun hp => by
  obtain ⟨o, e⟩ := h.there hp
  rw [n] at e; cases e
theorem Mm.newF {μ : Mem} (h : Mm K Z as F H μ) {p : Addr} (n : H p = none) : F p = none := h.same.free n
/-- the heap grows by what nobody looks at -/
theorem Mm.ext {μ : Mem} (h : Mm K Z as F H μ) (s : Same H H') : Mm K Z as F H' μ :=
  ⟨h.same.trans s, h.len, h.nd, h.fr, fun k m e => by
    obtain ⟨a, ha, x⟩ := h.at_ k m e
    obtain ⟨o, q⟩ := x.some
    exact ⟨a, ha, x.up Gr.refl ((s _ _ q).trans q.symm)⟩, fun a o e => ⟨s _ _ (h.hid a o e).1, (h.hid a o e).2⟩⟩
theorem Gr.upd {p : Addr} {o : HO} (n : F p = none) : Gr as F as (upd F p o) := ⟨same_upd n, fun _ _ e => e⟩
/-- a new frozen thing -/
theorem Mm.addF {μ : Mem} (h : Mm K Z as F H μ) {p : Addr} {o : HO} (n : H p = none) : Mm K Z as (upd F p o) (upd H p o) μ := by
  refine ⟨fun b u e => ?_, h.len, h.nd, fun a ha => ?_, fun k m e => ?_, fun a o' e => ?_⟩
  · by_cases z : b = p
    · subst z; rw [upd_same] at e ⊢; exact e
    · rw [upd_ne z] at e ⊢; exact h.same _ _ e
  · rw [upd_ne (fun z : a = p => h.new n (by rw [← z]; exact ha))]; exact h.fr a ha
  · obtain ⟨a, ha, x⟩ := h.at_ k m e
    exact ⟨a, ha, x.up (Gr.upd (h.newF n)) (upd_ne (fun z : a = p => h.new n (by rw [← z]; exact List.mem_of_getElem? ha)))⟩
  · obtain ⟨e1, e2, e3⟩ := h.hid a o' e
    have ne : a ≠ p := ne_of_none e1 n
    exact ⟨by rw [upd_ne ne]; exact e1, by rw [upd_ne ne]; exact e2, e3⟩
theorem Gr.add {p : Addr} : Gr as F (as ++ [p]) F := ⟨Same.refl F, fun k a e => by rw [List.getElem?_append_left (List.getElem?_eq_some_iff.mp e).1]; exact e⟩
/-- a new thing that may change -/
theorem Mm.addM {μ : Mem} (h : Mm K Z as F H μ) {p : Addr} {o : HO} {m : M} (n : H p = none) (x : MAt K (as ++ [p]) F (upd H p o) p m) : Mm K Z (as ++ [p]) F (upd H p o) (μ ++ [m]) := by
  refine ⟨h.same.trans (same_upd n), by rw [List.length_append, List.length_append, h.len]; rfl, List.nodup_append.mpr ⟨h.nd, List.nodup_cons.mpr ⟨List.not_mem_nil, List.nodup_nil⟩, fun a ha b hb => ?_⟩, fun a ha => ?_, fun k m' e => ?_, fun a o' e => ?_⟩
  · rw [List.mem_singleton.mp hb]
    exact fun z => h.new n (by rw [← z]; exact ha)
  · rcases List.mem_append.mp ha with z | z
    · exact h.fr a z
    · rw [List.mem_singleton.mp z]; exact h.newF n
  · by_cases hk : k < μ.length
    · rw [List.getElem?_append_left hk] at e
      obtain ⟨a, ha, y⟩ := h.at_ k m' e
      exact ⟨a, (Gr.add (F := F)).p k a ha, y.up Gr.add (upd_ne (fun z : a = p => h.new n (by rw [← z]; exact List.mem_of_getElem? ha)))⟩
    · rw [List.getElem?_append_right (by omega)] at e
      have hz : k - μ.length = 0 := by
        have := (List.getElem?_eq_some_iff.mp e).1
        simp at this
        omega
      rw [hz] at e
      cases e
      refine ⟨p, ?_, x⟩
      rw [List.getElem?_append_right (by have := h.len; omega), h.len, hz]
      rfl
  · obtain ⟨e1, e2, e3⟩ := h.hid a o' e
    have ne : a ≠ p := ne_of_none e1 n
    exact ⟨by rw [upd_ne ne]; exact e1, e2, fun z => (List.mem_append.mp z).elim e3 fun z => ne (List.mem_singleton.mp z)⟩
/-- a thing changed -/
theorem Mm.put {μ : Mem} (h : Mm K Z as F H μ) {k : Nat} {a : Addr} {o : HO} {m : M} (ha : as[k]? = some a) (x : MAt K as F (upd H a o) a m) : Mm K Z as F (upd H a o) (μ.set k m) := by
  refine ⟨fun b u e => ?_, by rw [List.length_set]; exact h.len, h.nd, h.fr, fun j m' e => ?_, fun b o' e => ?_⟩
  · rw [upd_ne fun z => ?_]
    · exact h.same _ _ e
    · rw [z, h.fr a (List.mem_of_getElem? ha)] at e; cases e
  · by_cases hj : j = k
    · subst hj
      have hl : j < μ.length := by
        have := (List.getElem?_eq_some_iff.mp e).1
        rwa [List.length_set] at this
      rw [List.getElem?_set_self hl] at e
      cases e
      exact ⟨a, ha, x⟩
    · rw [List.getElem?_set_ne (Ne.symm hj)] at e
      obtain ⟨b, hb, y⟩ := h.at_ j m' e
      refine ⟨b, hb, y.up Gr.refl (upd_ne fun z => hj ?_)⟩
      subst z
      exact (List.getElem?_inj (List.getElem?_eq_some_iff.mp hb).1 h.nd).mp (hb.trans ha.symm)
  · obtain ⟨e1, e2, e3⟩ := h.hid b o' e
    exact ⟨by rw [upd_ne (fun z : b = a => e3 (by rw [z]; exact List.mem_of_getElem? ha))]; exact e1, e2, e3⟩
/-- the slots hold what ρ says -/
structure EnvR (K : PySem.W.Frag) (as : List Addr) (F : Hp) (σ : L2.St) (ρ : Rho) : Prop where
  len : σ.length = ρ.length
  get : ∀ (i : Nat) (d : D), ρ[i]? = some (some d) → ∃ v, σ[i]? = some (some v) ∧ Rep K as F v d
theorem EnvR.up {σ : L2.St} {ρ : Rho} (h : EnvR K as F σ ρ) (g : Gr as F as' F') : EnvR K as' F' σ ρ := ⟨h.len, fun i d e => by
  obtain ⟨v, h1, h2⟩ := h.get i d e
  exact ⟨v, h1, h2.up g⟩⟩
theorem EnvR.set {σ : L2.St} {ρ : Rho} (h : EnvR K as F σ ρ) {v : V} {d : D} (r : Rep K as F v d) (i : Nat) : EnvR K as F (σ.set i (some v)) (ρ.set i (some d)) := by
  refine ⟨by rw [List.length_set, List.length_set]; exact h.len, fun j e q => ?_⟩
  by_cases hj : j = i
  · subst hj
    have hl : j < ρ.length := by
      have := (List.getElem?_eq_some_iff.mp q).1
      rwa [List.length_set] at this
    rw [List.getElem?_set_self hl] at q
    cases q
    exact ⟨v, List.getElem?_set_self (by rw [h.len]; exact hl), r⟩
  · rw [List.getElem?_set_ne (Ne.symm hj)] at q ⊢
    exact h.get j e q
theorem EnvR.unset {σ : L2.St} {ρ : Rho} (h : EnvR K as F σ ρ) (i : Nat) : EnvR K as F (σ.set i none) (ρ.set i none) := by
  refine ⟨by rw [List.length_set, List.length_set]; exact h.len, fun j e q => ?_⟩
  by_cases hj : j = i
  · subst hj
    have hl : j < ρ.length := by
      have := (List.getElem?_eq_some_iff.mp q).1
      rwa [List.length_set] at this
    rw [List.getElem?_set_self hl] at q
    cases q
  · rw [List.getElem?_set_ne (Ne.symm hj)] at q ⊢
    exact h.get j e q
/-- the state -/
structure Rp (K : PySem.W.Frag) (Z : Hp) (as : List Addr) (F H : Hp) (σ : L2.St) (ρ : Rho) (μ : Mem) : Prop where
  mm : Mm K Z as F H μ
  env : EnvR K as F σ ρ
/-! ### what is read: frozen or in the memory -/
def view (μ : Mem) : D → D
  | .ob k => match μ[k]? with
    | some (.lst ds) => .lst ds
    | some (.ins C fs) => .ins C fs
    | _ => .ob k
  | .kt ds => .tup ds
  | .kl ds => .lst ds
  | d => d
theorem view_lst {μ : Mem} (h : Mm K Z as F H μ) {v : V} {d : D} (r : Rep K as F v d) {ds : List D} (e : view μ d = .lst ds) : ∃ a vs, v = .ref a ∧ SqL K H a vs ∧ RepL K as F vs ds := by
  cases r with
  | lst q x => cases e; exact ⟨_, _, rfl, SqL.of (h.same _ _ q), x⟩
  | kl q x => cases e; exact ⟨_, _, rfl, h.same.seq q, x⟩
  | ob q =>
    rename_i k a
    have e : (match μ[k]? with | some (M.lst ds) => D.lst ds | some (.ins C fs) => .ins C fs | _ => .ob k) = .lst ds := e
    cases z : μ[k]? with
    | none => rw [z] at e; cases e
    | some m =>
      rw [z] at e
      obtain ⟨b, hb, y⟩ := h.at_ k m z
      obtain rfl := Option.some.inj (q.symm.trans hb)
      cases m with
      | lst es => cases e; obtain ⟨vs, e1, e2⟩ := y; exact ⟨_, vs, rfl, SqL.of e1, e2⟩
      | ins C fs => cases e
      | dic kv => cases e
  | _ => cases e
theorem view_ins {μ : Mem} (h : Mm K Z as F H μ) {v : V} {d : D} (r : Rep K as F v d) {C : Addr} {gs : List (Str × D)} (e : view μ d = .ins C gs) : ∃ a dx fs, v = .ref a ∧ H a = some (.ins C dx fs) ∧ RepF K as F fs gs := by
  cases r with
  | ins q x => cases e; exact ⟨_, _, _, rfl, h.same _ _ q, x⟩
  | ob q =>
    rename_i k a
    have e : (match μ[k]? with | some (M.lst ds) => D.lst ds | some (.ins C fs) => .ins C fs | _ => .ob k) = .ins C gs := e
    cases z : μ[k]? with
    | none => rw [z] at e; cases e
    | some m =>
      rw [z] at e
      obtain ⟨b, hb, y⟩ := h.at_ k m z
      obtain rfl := Option.some.inj (q.symm.trans hb)
      cases m with
      | lst es => cases e
      | ins C fs => cases e; obtain ⟨dx, vs, e1, e2⟩ := y; exact ⟨_, dx, vs, rfl, e1, e2⟩
      | dic kv => cases e
  | _ => cases e
theorem view_tup {μ : Mem} (h : Mm K Z as F H μ) {v : V} {d : D} (r : Rep K as F v d) {ds : List D} (e : view μ d = .tup ds) : ∃ a vs, v = .ref a ∧ SqT K H a vs ∧ RepL K as F vs ds := by
  cases r with
  | tup q x => cases e; exact ⟨_, _, rfl, SqT.of (h.same _ _ q), x⟩
  | kt q x => cases e; exact ⟨_, _, rfl, SqT.ext q h.same, x⟩
  | ob q =>
    rename_i k a
    have e : (match μ[k]? with | some (M.lst ds) => D.lst ds | some (.ins C fs) => .ins C fs | _ => .ob k) = .tup ds := e
    cases z : μ[k]? with
    | none => rw [z] at e; cases e
    | some m =>
      rw [z] at e
      cases m with
      | lst es => cases e
      | ins C fs => cases e
      | dic kv => cases e
  | _ => cases e
/-- what is tracked -/
def viewT (μ : Mem) : D → D
  | .ob k => match μ[k]? with
    | some (.lst ds) => .lst ds
    | some (.ins C fs) => .ins C fs
    | _ => .ob k
  | d => d
theorem viewT_lst {μ : Mem} (h : Mm K Z as F H μ) {v : V} {d : D} (r : Rep K as F v d) {ds : List D} (e : viewT μ d = .lst ds) : ∃ a vs, v = .ref a ∧ H a = some (.lst vs) ∧ RepL K as F vs ds := by
  cases r with
  | lst q x => cases e; exact ⟨_, _, rfl, h.same _ _ q, x⟩
  | ob q =>
    rename_i k a
    have e : (match μ[k]? with | some (M.lst ds) => D.lst ds | some (.ins C fs) => .ins C fs | _ => .ob k) = .lst ds := e
    cases z : μ[k]? with
    | none => rw [z] at e; cases e
    | some m =>
      rw [z] at e
      obtain ⟨b, hb, y⟩ := h.at_ k m z
      obtain rfl := Option.some.inj (q.symm.trans hb)
      cases m with
      | lst es => cases e; obtain ⟨vs, e1, e2⟩ := y; exact ⟨_, vs, rfl, e1, e2⟩
      | ins C fs => cases e
      | dic kv => cases e
  | _ => cases e
end
end DX
set_option Elab.async false
set_option linter.all false
set_option maxRecDepth 100000
set_option maxHeartbeats 4000000
namespace DX
open PySem PySem.Spec PyProof.Rows L2
/-! readings by data -/
abbrev XD := Rho → Addr → List (Str × D) → Mem → Prop
abbrev DTE := Rho → Mem → (D → Mem → Prop) → XD → Prop
abbrev DTT := Rho → Mem → (Bool → Mem → Prop) → XD → Prop
abbrev DTA := Rho → Mem → (List D → Mem → Prop) → XD → Prop
structure DEnds where
  nx : Rho → Mem → Prop
  rt : D → Mem → Prop
  bk : Rho → Mem → Prop := fun _ _ => False
  ct : Rho → Mem → Prop := fun _ _ => False
abbrev DTS := DEnds → XD → Rho → Mem → Prop
/-- how an exception's fields stand -/
def ExcR (K : PySem.W.Frag) (as : List Addr) (F : Hp) (dx : Option Addr) (gs : List (Str × D)) : Prop := gs = [] ∨ ∃ dd fs, dx = some dd ∧ F dd = some (.xd fs) ∧ RepF K as F fs gs
section
variable {K : PySem.W.Frag} {Z : Hp} {as as' as1 : List Addr} {F F' F1 H H' H1 : Hp}
def XL (K : PySem.W.Frag) (Ex : L2.St → XK) (Z : Hp) (as : List Addr) (F : Hp) (E : XD) : Prop :=
  ∀ (σ : L2.St) (ρ : Rho) (μ : Mem) (as' : List Addr) (F' H : Hp) (C : Addr) (gs : List (Str × D)) (dx : Option Addr), Gr as F as' F' → Rp K Z as' F' H σ ρ μ → ExcR K as' F' dx gs → E ρ C gs μ → Ex σ (.ref C) dx H
theorem XL.up {Ex : L2.St → XK} {E : XD} (h : XL K Ex Z as F E) (g : Gr as F as1 F1) : XL K Ex Z as1 F1 E := fun σ ρ μ as' F' H C gs dx g' => h σ ρ μ as' F' H C gs dx (g.trans g')
abbrev X0 : L2.St → XK := fun _ => E0
abbrev XN : XD := fun _ _ _ _ => False
theorem XL.no {Ex : L2.St → XK} : XL K Ex Z as F XN := fun _ _ _ _ _ _ _ _ _ _ _ _ z => z.elim
theorem Rp.up {σ : L2.St} {ρ : Rho} {μ μ' : Mem} (h : Rp K Z as F H σ ρ μ) (g : Gr as F as' F') (m : Mm K Z as' F' H' μ') : Rp K Z as' F' H' σ ρ μ' := ⟨m, h.env.up g⟩
def Sim (K : PySem.W.Frag) (Ex : L2.St → XK) (t : TE) (u : DTE) : Prop :=
  ∀ (Z : Hp) (as : List Addr) (F H : Hp) (σ : L2.St) (ρ : Rho) (μ : Mem) (Q : D → Mem → Prop) (E : XD) (Q' : VK), Rp K Z as F H σ ρ μ → XL K Ex Z as F E → u ρ μ Q E →
    (∀ v d μ' as' F' H', Gr as F as' F' → Rp K Z as' F' H' σ ρ μ' → Rep K as' F' v d → Q d μ' → Q' v H') → t σ H Q'
def SimT (K : PySem.W.Frag) (Ex : L2.St → XK) (t : TT) (u : DTT) : Prop :=
  ∀ (Z : Hp) (as : List Addr) (F H : Hp) (σ : L2.St) (ρ : Rho) (μ : Mem) (Q : Bool → Mem → Prop) (E : XD) (Q' : Bool → Hp → Prop), Rp K Z as F H σ ρ μ → XL K Ex Z as F E → u ρ μ Q E →
    (∀ b μ' as' F' H', Gr as F as' F' → Rp K Z as' F' H' σ ρ μ' → Q b μ' → Q' b H') → t σ H Q'
def SimA (K : PySem.W.Frag) (Ex : L2.St → XK) (t : TA) (u : DTA) : Prop :=
  ∀ (Z : Hp) (as : List Addr) (F H : Hp) (σ : L2.St) (ρ : Rho) (μ : Mem) (Q : List D → Mem → Prop) (E : XD) (Q' : List V → Hp → Prop), Rp K Z as F H σ ρ μ → XL K Ex Z as F E → u ρ μ Q E →
    (∀ vs ds μ' as' F' H', Gr as F as' F' → Rp K Z as' F' H' σ ρ μ' → RepL K as' F' vs ds → Q ds μ' → Q' vs H') → t σ H Q'
def SimS (K : PySem.W.Frag) (Ex : L2.St → XK) (t : TS) (u : DTS) : Prop :=
  ∀ (Z : Hp) (as : List Addr) (F H : Hp) (σ : L2.St) (ρ : Rho) (μ : Mem) (De : DEnds) (E : XD) (D' : Ends), Rp K Z as F H σ ρ μ → XL K Ex Z as F E → u De E ρ μ →
    (∀ σ' ρ' μ' as' F' H', Gr as F as' F' → Rp K Z as' F' H' σ' ρ' μ' → De.nx ρ' μ' → D'.nx σ' H') →
    (∀ v d μ' as' F' H', Gr as F as' F' → Mm K Z as' F' H' μ' → Rep K as' F' v d → De.rt d μ' → D'.rt v H') →
    (∀ σ' ρ' μ' as' F' H', Gr as F as' F' → Rp K Z as' F' H' σ' ρ' μ' → De.bk ρ' μ' → D'.bk σ' H') →
    (∀ σ' ρ' μ' as' F' H', Gr as F as' F' → Rp K Z as' F' H' σ' ρ' μ' → De.ct ρ' μ' → D'.ct σ' H') → t D' σ H
structure PD (X : Cx) (K : PySem.W.Frag) (Ex : L2.St → XK) (e : Expr) (t : TE) (u : DTE) : Prop where
  pe : PE X e t
  sim : Sim K Ex t u
structure TD (X : Cx) (K : PySem.W.Frag) (Ex : L2.St → XK) (e : Expr) (t : TT) (u : DTT) : Prop where
  pe : PT X e t
  sim : SimT K Ex t u
structure WD (X : Cx) (K : PySem.W.Frag) (Ex : L2.St → XK) (e : Expr) (t : TT) (u : DTT) : Prop where
  pe : PW X e t
  sim : SimT K Ex t u
structure AD (X : Cx) (K : PySem.W.Frag) (Ex : L2.St → XK) (es : List Expr) (t : TA) (u : DTA) : Prop where
  pe : PA X es t
  sim : SimA K Ex t u
structure SD (X : Cx) (K : PySem.W.Frag) (Ex : L2.St → XK) (s : Stmt) (t : TS) (u : DTS) : Prop where
  pe : PS X s t
  sim : SimS K Ex t u
structure BD (X : Cx) (K : PySem.W.Frag) (Ex : L2.St → XK) (s : List Stmt) (t : TS) (u : DTS) : Prop where
  pe : PSs X s t
  sim : SimS K Ex t u
variable {Ex : L2.St → XK}
/-! ### names, constants -/
def uVar (i : Nat) : DTE := fun ρ μ Q _ => match ρ[i]? with
  | some (some d) => Q d μ
  | _ => False
theorem sim_var (i : Nat) : Sim K Ex (tVar i) (uVar i) := fun Z as F H σ ρ μ Q E Q' R X h k => by
  have h : (match ρ[i]? with | some (some d) => Q d μ | _ => False) := h
  cases e : ρ[i]? with
  | none => rw [e] at h; exact h.elim
  | some o =>
    rw [e] at h
    cases o with
    | none => exact h.elim
    | some d =>
      obtain ⟨v, h1, h2⟩ := R.env.get i d e
      exact ⟨v, h1, k v d μ as F H Gr.refl R h2 h⟩
def uC (d : D) : DTE := fun _ μ Q _ => Q d μ
theorem sim_c {v : V} {d : D} (r : ∀ as F, Rep K as F v d) : Sim K Ex (tC v) (uC d) := fun Z as F H σ ρ μ Q E Q' R X h k => k v d μ as F H Gr.refl R (r as F) h
/-! ### lists of expressions -/
def uNil : DTA := fun _ μ Q _ => Q [] μ
def uCons (u : DTE) (w : DTA) : DTA := fun ρ μ Q E => u ρ μ (fun d μ1 => w ρ μ1 (fun ds μ2 => Q (d :: ds) μ2) E) E
theorem sim_nil : SimA K Ex tNil uNil := fun Z as F H σ ρ μ Q E Q' R X h k => k [] [] μ as F H Gr.refl R .nil h
theorem sim_cons {t : TE} {u : DTE} {s : TA} {w : DTA} (a : Sim K Ex t u) (b : SimA K Ex s w) : SimA K Ex (tCons t s) (uCons u w) := fun Z as F H σ ρ μ Q E Q' R X h k =>
  a Z as F H σ ρ μ _ E _ R X h fun v d μ1 as1 F1 H1 g1 R1 r1 h1 => b Z as1 F1 H1 σ ρ μ1 _ E _ R1 (X.up g1) h1 fun vs ds μ2 as2 F2 H2 g2 R2 r2 h2 =>
    k (v :: vs) (d :: ds) μ2 as2 F2 H2 (g1.trans g2) R2 (.cons (r1.up g2) r2) h2
/-! ### displays -/
def uTup (w : DTA) : DTE := fun ρ μ Q E => w ρ μ (fun ds μ1 => ds.length ≤ 1000 ∧ Q (.tup ds) μ1) E
def uLst (w : DTA) : DTE := fun ρ μ Q E => w ρ μ (fun ds μ1 => ds.length ≤ 1000 ∧ Q (.lst ds) μ1) E
def uLstM (w : DTA) : DTE := fun ρ μ Q E => w ρ μ (fun ds μ1 => ds.length ≤ 1000 ∧ Q (.ob μ1.length) (μ1 ++ [.lst ds])) E
theorem le_line {n : Nat} (h : n ≤ 1000) : n ≤ sizeLine := Nat.le_trans h (by decide)
theorem sim_tup {t : TA} {w : DTA} (a : SimA K Ex t w) : Sim K Ex (tTup t) (uTup w) := fun Z as F H σ ρ μ Q E Q' R X h k =>
  a Z as F H σ ρ μ _ E _ R X h fun vs ds μ1 as1 F1 H1 g1 R1 r1 h1 => ⟨by rw [r1.len]; exact le_line h1.1, fun p np =>
    have g2 := Gr.upd (as := as1) (o := .tup vs) (R1.mm.newF np)
    k _ _ μ1 as1 _ _ (g1.trans g2) (R1.up g2 (R1.mm.addF np)) (.tup upd_same (r1.up g2)) h1.2⟩
theorem sim_lst {t : TA} {w : DTA} (a : SimA K Ex t w) : Sim K Ex (tLst t) (uLst w) := fun Z as F H σ ρ μ Q E Q' R X h k =>
  a Z as F H σ ρ μ _ E _ R X h fun vs ds μ1 as1 F1 H1 g1 R1 r1 h1 => ⟨by rw [r1.len]; exact le_line h1.1, fun p np =>
    have g2 := Gr.upd (as := as1) (o := .lst vs) (R1.mm.newF np)
    k _ _ μ1 as1 _ _ (g1.trans g2) (R1.up g2 (R1.mm.addF np)) (.lst upd_same (r1.up g2)) h1.2⟩
theorem rep_ob {as : List Addr} {n : Nat} {p : Addr} (e : as.length = n) : Rep K (as ++ [p]) F (.ref p) (.ob n) := .ob (by rw [List.getElem?_append_right (by omega), e, Nat.sub_self]; rfl)
theorem sim_lstM {t : TA} {w : DTA} (a : SimA K Ex t w) : Sim K Ex (tLst t) (uLstM w) := fun Z as F H σ ρ μ Q E Q' R X h k =>
  a Z as F H σ ρ μ _ E _ R X h fun vs ds μ1 as1 F1 H1 g1 R1 r1 h1 => ⟨by rw [r1.len]; exact le_line h1.1, fun p np =>
    k _ _ _ (as1 ++ [p]) F1 _ (g1.trans Gr.add) (R1.up Gr.add (R1.mm.addM (m := .lst ds) np ⟨vs, upd_same, r1.up Gr.add⟩)) (rep_ob R1.mm.len) h1.2⟩
/-! ### operators by values -/
abbrev DR2 := D → D → Mem → (D → Mem → Prop) → Prop
def SimR (K : PySem.W.Frag) (r : R2) (dr : DR2) : Prop := ∀ (Z : Hp) (as : List Addr) (F H : Hp) (μ : Mem) (x y : V) (d e : D) (Q : D → Mem → Prop) (Q' : VK), Mm K Z as F H μ → Rep K as F x d → Rep K as F y e → dr d e μ Q →
  (∀ v d' μ' as' F' H', Gr as F as' F' → Mm K Z as' F' H' μ' → Rep K as' F' v d' → Q d' μ' → Q' v H') → r x y H Q'
def uOp (dr : DR2) (ua ub : DTE) : DTE := fun ρ μ Q E => ua ρ μ (fun x μ1 => ub ρ μ1 (fun y μ2 => dr x y μ2 Q) E) E
theorem sim_op {r : R2} {dr : DR2} {ta tb : TE} {ua ub : DTE} (s : SimR K r dr) (a : Sim K Ex ta ua) (b : Sim K Ex tb ub) : Sim K Ex (tOp r ta tb) (uOp dr ua ub) := fun Z as F H σ ρ μ Q E Q' R X h k =>
  a Z as F H σ ρ μ _ E _ R X h fun v d μ1 as1 F1 H1 g1 R1 r1 h1 => b Z as1 F1 H1 σ ρ μ1 _ E _ R1 (X.up g1) h1 fun v2 d2 μ2 as2 F2 H2 g2 R2 r2 h2 =>
    s Z as2 F2 H2 μ2 v v2 d d2 Q Q' R2.mm (r1.up g2) r2 h2 fun v' d' μ' as' F' H' g3 M3 r3 q => k v' d' μ' as' F' H' ((g1.trans g2).trans g3) (R2.up g3 M3) r3 q
def rOr (r s : R2) : R2 := fun x y H Q => r x y H Q ∨ s x y H Q
theorem opr_or {X : Cx} {f : Value → Value → Sem Value} {r s : R2} (a : OpR X f r) (b : OpR X f s) : OpR X f (rOr r s) := fun pins s σ H x y v u Q I rx ry h =>
  h.elim (fun z => a pins s σ H x y v u Q I rx ry z) fun z => b pins s σ H x y v u Q I rx ry z
theorem simR_or {r s : R2} {a b : DR2} (h1 : SimR K r a) (h2 : SimR K s b) : SimR K (rOr r s) (fun x y μ Q => a x y μ Q ∨ b x y μ Q) := fun Z as F H μ x y d e Q Q' M rx ry h k =>
  h.elim (fun z => .inl (h1 Z as F H μ x y d e Q Q' M rx ry z k)) fun z => .inr (h2 Z as F H μ x y d e Q Q' M rx ry z k)
theorem SimR.imp {r : R2} {a b : DR2} (h : SimR K r a) (i : ∀ x y μ Q, b x y μ Q → a x y μ Q) : SimR K r b := fun Z as F H μ x y d e Q Q' M rx ry z k => h Z as F H μ x y d e Q Q' M rx ry (i _ _ _ _ z) k
/-- ints -/
def dI (g : Int → Int → D) : DR2 := fun x y μ Q => match x, y with
  | .int i, .int j => Q (g i j) μ
  | _, _ => False
def dIC (C : Int → Int → Prop) (g : Int → Int → D) : DR2 := fun x y μ Q => match x, y with
  | .int i, .int j => C i j ∧ Q (g i j) μ
  | _, _ => False
theorem simR_int {g : Int → Int → D} {v : Int → Int → V} (h : ∀ i j as F, Rep K as F (v i j) (g i j)) : SimR K (rI0 v) (dI g) := fun Z as F H μ x y d e Q Q' M rx ry z k => by
  cases rx <;> try exact z.elim
  cases ry <;> try exact z.elim
  exact ⟨_, _, rfl, rfl, k _ _ μ as F H Gr.refl M (h _ _ as F) z⟩
theorem simR_intC {C : Int → Int → Prop} {g : Int → Int → D} {v : Int → Int → V} (h : ∀ i j as F, Rep K as F (v i j) (g i j)) : SimR K (rI C v) (dIC C g) := fun Z as F H μ x y d e Q Q' M rx ry z k => by
  cases rx <;> try exact z.elim
  cases ry <;> try exact z.elim
  exact ⟨_, _, rfl, rfl, z.1, k _ _ μ as F H Gr.refl M (h _ _ as F) z.2⟩
end
end DX
set_option Elab.async false
set_option linter.all false
set_option maxRecDepth 100000
set_option maxHeartbeats 4000000
namespace DX
open PySem PySem.Spec PyProof.Rows L2
/-! data: equality, what repr and == may be asked of -/
mutual
def deqv : D → D → Bool
  | .non, .non => true
  | .bl a, .bl b => a == b
  | .bl a, .int j => (if a then 1 else 0) == j
  | .int i, .bl b => i == (if b then 1 else 0)
  | .int i, .int j => i == j
  | .str x, .str y => x == y
  | .byt x, .byt y => x.toList == y.toList
  | .lst xs, .lst ys => deqvL xs ys
  | .tup xs, .tup ys => deqvL xs ys
  | _, _ => false
def deqvL : List D → List D → Bool
  | [], [] => true
  | x :: xs, y :: ys => deqv x y && deqvL xs ys
  | _, _ => false
end
mutual
def toP : D → Option PyData
  | .non => some .none
  | .bl b => some (.bool b)
  | .int i => some (.int i)
  | .str x => some (.str x)
  | .lst xs => (toPL xs).map .list
  | .tup xs => (toPL xs).map .tuple
  | _ => none
def toPL : List D → Option (List PyData)
  | [] => some []
  | x :: xs => match toP x, toPL xs with
    | some p, some ps => some (p :: ps)
    | _, _ => none
end
mutual
/-- pure data whose texts are well-formed -/
def dlay : D → Bool
  | .non => true
  | .bl _ => true
  | .int _ => true
  | .str x => PyData.strOk x
  | .lst xs => dlayL xs
  | .tup xs => dlayL xs
  | _ => false
def dlayL : List D → Bool
  | [] => true
  | x :: xs => dlay x && dlayL xs
end
mutual
def ddep : D → Nat
  | .lst xs => ddepL xs + 1
  | .tup xs => ddepL xs + 1
  | _ => 0
def ddepL : List D → Nat
  | [] => 0
  | x :: xs => max (ddep x) (ddepL xs)
end
def dok (d : D) : Bool := dlay d && decide (ddep d ≤ 60)
section
variable {K : PySem.W.Frag} {Z : Hp} {as as' as1 : List Addr} {F F' F1 H H' H1 : Hp}
mutual
theorem lay_toP : ∀ {d : D}, dlay d = true → ∃ p, toP d = some p ∧ PyData.canLay0 p = true ∧ p.depth = ddep d
  | .non, _ => ⟨_, rfl, rfl, rfl⟩
  | .bl _, _ => ⟨_, rfl, rfl, rfl⟩
  | .int _, _ => ⟨_, rfl, rfl, rfl⟩
  | .str x, h => ⟨.str x, rfl, h, rfl⟩
  | .lst xs, h => by
    obtain ⟨ps, h1, h2, h3⟩ := lay_toPL (ds := xs) h
    exact ⟨.list ps, (by show (toPL xs).map _ = _; rw [h1]; rfl), h2, (by show PyData.depthAll ps + 1 = ddepL xs + 1; rw [h3])⟩
  | .tup xs, h => by
    obtain ⟨ps, h1, h2, h3⟩ := lay_toPL (ds := xs) h
    exact ⟨.tuple ps, (by show (toPL xs).map _ = _; rw [h1]; rfl), h2, (by show PyData.depthAll ps + 1 = ddepL xs + 1; rw [h3])⟩
  | .byt _, h => nomatch h
  | .kt _, h => nomatch h
  | .kl _, h => nomatch h
  | .ins _ _, h => nomatch h
  | .dic _, h => nomatch h
  | .kd _, h => nomatch h
  | .fd _, h => nomatch h
  | .val _, h => nomatch h
  | .ob _, h => nomatch h
  | .exc _ _ _ _, h => nomatch h
theorem lay_toPL : ∀ {ds : List D}, dlayL ds = true → ∃ ps, toPL ds = some ps ∧ PyData.canLayAll0 ps = true ∧ PyData.depthAll ps = ddepL ds
  | [], _ => ⟨[], rfl, rfl, rfl⟩
  | d :: ds, h => by
    have h : (dlay d && dlayL ds) = true := h
    rw [Bool.and_eq_true] at h
    obtain ⟨p, h1, h2, h3⟩ := lay_toP (d := d) h.1
    obtain ⟨ps, g1, g2, g3⟩ := lay_toPL (ds := ds) h.2
    refine ⟨p :: ps, ?_, ?_, ?_⟩
    · show (match toP d, toPL ds with | some p, some ps => some (p :: ps) | _, _ => none) = _
      rw [h1, g1]
    · show (PyData.canLay0 p && PyData.canLayAll0 ps) = true
      rw [h2, g2]; rfl
    · show max p.depth (PyData.depthAll ps) = max (ddep d) (ddepL ds)
      rw [h3, g3]
end
theorem toP_lst {xs : List D} {p : PyData} (h : toP (.lst xs) = some p) : ∃ ps, toPL xs = some ps ∧ p = .list ps := by
  have h : (toPL xs).map PyData.list = some p := h
  cases e : toPL xs with
  | none => rw [e] at h; cases h
  | some ps => rw [e] at h; exact ⟨ps, rfl, (Option.some.inj h).symm⟩
theorem toP_tup {xs : List D} {p : PyData} (h : toP (.tup xs) = some p) : ∃ ps, toPL xs = some ps ∧ p = .tuple ps := by
  have h : (toPL xs).map PyData.tuple = some p := h
  cases e : toPL xs with
  | none => rw [e] at h; cases h
  | some ps => rw [e] at h; exact ⟨ps, rfl, (Option.some.inj h).symm⟩
theorem toPL_cons {d : D} {ds : List D} {ps : List PyData} (h : toPL (d :: ds) = some ps) : ∃ p qs, toP d = some p ∧ toPL ds = some qs ∧ ps = p :: qs := by
  have h : (match toP d, toPL ds with | some p, some ps => some (p :: ps) | _, _ => none) = some ps := h
  cases e : toP d with
  | none => rw [e] at h; cases h
  | some p =>
    cases e2 : toPL ds with
    | none => rw [e, e2] at h; cases h
    | some qs => rw [e, e2] at h; exact ⟨p, qs, rfl, rfl, (Option.some.inj h).symm⟩
mutual
theorem toP_eqv : ∀ {d e : D} {p q : PyData}, toP d = some p → toP e = some q → PyData.eqv p q = deqv d e
  | .lst xs, e, p, q, h, g => by
    obtain ⟨ps, hp, rfl⟩ := toP_lst h
    cases e with
    | lst ys => obtain ⟨qs, hq, rfl⟩ := toP_lst g; exact toPL_eqv hp hq
    | tup ys => obtain ⟨qs, hq, rfl⟩ := toP_tup g; rfl
    | _ => first | (cases g; rfl) | cases g
  | .tup xs, e, p, q, h, g => by
    obtain ⟨ps, hp, rfl⟩ := toP_tup h
    cases e with
    | lst ys => obtain ⟨qs, hq, rfl⟩ := toP_lst g; rfl
    | tup ys => obtain ⟨qs, hq, rfl⟩ := toP_tup g; exact toPL_eqv hp hq
    | _ => first | (cases g; rfl) | cases g
  | .non, e, p, q, h, g => by
    cases h
    cases e with
    | lst ys => obtain ⟨qs, hq, rfl⟩ := toP_lst g; rfl
    | tup ys => obtain ⟨qs, hq, rfl⟩ := toP_tup g; rfl
    | _ => first | (cases g; rfl) | cases g
  | .bl _, e, p, q, h, g => by
    cases h
    cases e with
    | lst ys => obtain ⟨qs, hq, rfl⟩ := toP_lst g; rfl
    | tup ys => obtain ⟨qs, hq, rfl⟩ := toP_tup g; rfl
    | _ => first | (cases g; rfl) | cases g
  | .int _, e, p, q, h, g => by
    cases h
    cases e with
    | lst ys => obtain ⟨qs, hq, rfl⟩ := toP_lst g; rfl
    | tup ys => obtain ⟨qs, hq, rfl⟩ := toP_tup g; rfl
    | _ => first | (cases g; rfl) | cases g
  | .str _, e, p, q, h, g => by
    cases h
    cases e with
    | lst ys => obtain ⟨qs, hq, rfl⟩ := toP_lst g; rfl
    | tup ys => obtain ⟨qs, hq, rfl⟩ := toP_tup g; rfl
    | _ => first | (cases g; rfl) | cases g
  | .byt _, _, _, _, h, _ => nomatch h
  | .kt _, _, _, _, h, _ => nomatch h
  | .kl _, _, _, _, h, _ => nomatch h
  | .ins _ _, _, _, _, h, _ => nomatch h
  | .dic _, _, _, _, h, _ => nomatch h
  | .kd _, _, _, _, h, _ => nomatch h
  | .fd _, _, _, _, h, _ => nomatch h
  | .val _, _, _, _, h, _ => nomatch h
  | .ob _, _, _, _, h, _ => nomatch h
  | .exc _ _ _ _, _, _, _, h, _ => nomatch h
theorem toPL_eqv : ∀ {ds es : List D} {ps qs : List PyData}, toPL ds = some ps → toPL es = some qs → PyData.eqvAll ps qs = deqvL ds es
  | [], [], _, _, h, g => by cases h; cases g; rfl
  | [], e :: es, _, _, h, g => by
    cases h
    obtain ⟨q, qs, g1, g2, rfl⟩ := toPL_cons g
    rfl
  | d :: ds, [], _, _, h, g => by
    cases g
    obtain ⟨q, qs, g1, g2, rfl⟩ := toPL_cons h
    rfl
  | d :: ds, e :: es, _, _, h, g => by
    obtain ⟨p, ps, h1, h2, rfl⟩ := toPL_cons h
    obtain ⟨q, qs, g1, g2, rfl⟩ := toPL_cons g
    show (PyData.eqv p q && PyData.eqvAll ps qs) = (deqv d e && deqvL ds es)
    rw [toP_eqv h1 g1, toPL_eqv h2 g2]
end
mutual
theorem Rep.dp (s : Same F H) : ∀ {v : V} {d : D} {p : PyData}, Rep K as F v d → toP d = some p → Dp K H v p
  | _, _, _, .non, h => by cases h; exact .non
  | _, _, _, .bl b, h => by cases h; exact .bl b
  | _, _, _, .int b, h => by cases h; exact .int b
  | _, _, _, .str b, h => by cases h; exact .str b
  | _, _, _, .lst e r, h => by obtain ⟨ps, hp, rfl⟩ := toP_lst h; exact .lst (SqL.of (s _ _ e)) (RepL.dp s r hp)
  | _, _, _, .tup e r, h => by obtain ⟨ps, hp, rfl⟩ := toP_tup h; exact .tup (SqT.of (s _ _ e)) (RepL.dp s r hp)
  | _, _, _, .byt _, h => nomatch h
  | _, _, _, .kl _ _, h => nomatch h
  | _, _, _, .kt _ _, h => nomatch h
  | _, _, _, .ins _ _, h => nomatch h
  | _, _, _, .dic _ _, h => nomatch h
  | _, _, _, .kd _ _, h => nomatch h
  | _, _, _, .fd _ _, h => nomatch h
  | _, _, _, .val _, h => nomatch h
  | _, _, _, .ob _, h => nomatch h
  | _, _, _, .exc0, h => nomatch h
  | _, _, _, .exc _ _, h => nomatch h
theorem RepL.dp (s : Same F H) : ∀ {vs : List V} {ds : List D} {ps : List PyData}, RepL K as F vs ds → toPL ds = some ps → DpAll K H vs ps
  | _, _, _, .nil, h => by cases h; exact .nil
  | _, _, _, .cons r rs, h => by
    obtain ⟨p, ps, h1, h2, rfl⟩ := toPL_cons h
    exact .cons (Rep.dp s r h1) (RepL.dp s rs h2)
end
theorem view_cases (μ : Mem) (d : D) : (∃ ds, view μ d = .lst ds) ∨ (∃ ds, view μ d = .tup ds) ∨ (∃ C fs, view μ d = .ins C fs) ∨ view μ d = d := by
  cases d with
  | ob k =>
    show (∃ ds, (match μ[k]? with | some (M.lst ds) => D.lst ds | some (.ins C fs) => .ins C fs | _ => .ob k) = _) ∨ (∃ ds, (match μ[k]? with | some (M.lst ds) => D.lst ds | some (.ins C fs) => .ins C fs | _ => .ob k) = _) ∨ (∃ C fs, (match μ[k]? with | some (M.lst ds) => D.lst ds | some (.ins C fs) => .ins C fs | _ => .ob k) = _) ∨ (match μ[k]? with | some (M.lst ds) => D.lst ds | some (.ins C fs) => .ins C fs | _ => .ob k) = _
    cases μ[k]? with
    | none => exact .inr (.inr (.inr rfl))
    | some m => cases m with
      | lst ds => exact .inl ⟨ds, rfl⟩
      | ins C fs => exact .inr (.inr (.inl ⟨C, fs, rfl⟩))
      | dic kv => exact .inr (.inr (.inr rfl))
  | kt ds => exact .inr (.inl ⟨ds, rfl⟩)
  | kl ds => exact .inl ⟨ds, rfl⟩
  | _ => exact .inr (.inr (.inr rfl))
/-- what is read as data: its own or the memory's list -/
theorem view_dp {μ : Mem} (M : Mm K Z as F H μ) {v : V} {d : D} {p : PyData} (r : Rep K as F v d) (h : toP (view μ d) = some p) : Dp K H v p := by
  rcases view_cases μ d with ⟨ds, z⟩ | ⟨ds, z⟩ | ⟨C, fs, z⟩ | z
  · rw [z] at h
    obtain ⟨ps, hp, rfl⟩ := toP_lst h
    obtain ⟨a, vs, rfl, e, x⟩ := view_lst M r z
    exact .lst e (RepL.dp M.same x hp)
  · rw [z] at h
    obtain ⟨ps, hp, rfl⟩ := toP_tup h
    obtain ⟨a, vs, rfl, e, x⟩ := view_tup M r z
    exact .tup e (RepL.dp M.same x hp)
  · rw [z] at h; cases h
  · rw [z] at h; exact Rep.dp M.same r h
/-- flat -/
def dflat : D → Bool
  | .non => true
  | .bl _ => true
  | .int _ => true
  | .str _ => true
  | _ => false
theorem flat_rep {v : V} {d : D} (r : Rep K as F v d) (h : dflat d = true) : flatV v = true := by
  cases r <;> first | rfl | cases h
theorem flat_eqV {v w' : V} {d e : D} (r : Rep K as F v d) (s : Rep K as F w' e) (h : dflat d = true) (g : dflat e = true) : eqV v w' = deqv d e := by
  cases r <;> first | (cases h; done) | (cases s <;> first | rfl | (cases g; done))
theorem flat_lay {d : D} (h : dflat d = true) : view [] d = d := by cases d <;> first | rfl | cases h
theorem view_flat {μ : Mem} {d : D} (h : dflat (view μ d) = true) : view μ d = d := by
  cases d with
  | ob k =>
    exfalso
    have h : dflat (match μ[k]? with | some (M.lst ds) => D.lst ds | some (.ins C fs) => .ins C fs | _ => .ob k) = true := h
    split at h <;> cases h
  | kt ds => cases h
  | kl ds => cases h
  | _ => rfl
def dEqOk (x y : D) : Bool := (dflat x && dflat y) || (dok x && dok y)
def dEq : DR2 := fun x y μ Q => dEqOk (view μ x) (view μ y) = true ∧ Q (.bl (deqv (view μ x) (view μ y))) μ
def dNe : DR2 := fun x y μ Q => dEqOk (view μ x) (view μ y) = true ∧ Q (.bl (!deqv (view μ x) (view μ y))) μ
theorem dok_shaped {d : D} (h : dok d = true) : ∃ p, toP d = some p ∧ SeqAt.shaped p = true := by
  unfold dok at h
  rw [Bool.and_eq_true, decide_eq_true_iff] at h
  obtain ⟨p, h1, h2, h3⟩ := lay_toP h.1
  refine ⟨p, h1, ?_⟩
  unfold SeqAt.shaped
  rw [h2, h3, Bool.true_and, decide_eq_true_iff]
  omega
theorem flat_cases {x y : V} {d e : D} (rx : Rep K as F x d) (ry : Rep K as F y e) (h1 : dflat d = true) (h2 : dflat e = true) :
    (scal x y = true ∧ decide (x = y) = deqv d e) ∨ (dok d = true ∧ dok e = true) := by
  cases rx <;> first | (cases h1; done) | skip
  all_goals (cases ry <;> first | (cases h2; done) | skip)
  all_goals first
    | exact .inl ⟨rfl, rfl⟩
    | exact .inr ⟨rfl, rfl⟩
    | exact .inl ⟨rfl, dec_int⟩
    | exact .inl ⟨rfl, dec_bl⟩
    | exact .inl ⟨rfl, dec_str⟩
theorem sim_eq : SimR K (rOr rEq (rEqD K)) dEq := fun Z as F H μ x y d e Q Q' M rx ry z k => by
  obtain ⟨ok, q⟩ := z
  have data : dok (view μ d) = true → dok (view μ e) = true → rEqD K x y H Q' := fun h1 h2 => by
    obtain ⟨p, p1, p2⟩ := dok_shaped h1
    obtain ⟨r, r1, r2⟩ := dok_shaped h2
    exact ⟨p, r, view_dp M rx p1, view_dp M ry r1, p2, r2, k _ _ μ as F H Gr.refl M (.bl _) (by rw [toP_eqv p1 r1]; exact q)⟩
  unfold dEqOk at ok
  rw [Bool.or_eq_true, Bool.and_eq_true, Bool.and_eq_true] at ok
  rcases ok with ⟨h1, h2⟩ | ⟨h1, h2⟩
  · have e1 := view_flat h1
    have e2 := view_flat h2
    rw [e1, e2] at q
    rw [e1] at h1 data
    rw [e2] at h2 data
    rcases flat_cases rx ry h1 h2 with ⟨s1, s2⟩ | ⟨s1, s2⟩
    · exact .inl ⟨s1, k _ _ μ as F H Gr.refl M (.bl _) (by rw [s2]; exact q)⟩
    · exact .inr (data s1 s2)
  · exact .inr (data h1 h2)
theorem sim_ne : SimR K (rOr rNe (rNeD K)) dNe := fun Z as F H μ x y d e Q Q' M rx ry z k => by
  obtain ⟨ok, q⟩ := z
  have data : dok (view μ d) = true → dok (view μ e) = true → rNeD K x y H Q' := fun h1 h2 => by
    obtain ⟨p, p1, p2⟩ := dok_shaped h1
    obtain ⟨r, r1, r2⟩ := dok_shaped h2
    exact ⟨p, r, view_dp M rx p1, view_dp M ry r1, p2, r2, k _ _ μ as F H Gr.refl M (.bl _) (by rw [toP_eqv p1 r1]; exact q)⟩
  unfold dEqOk at ok
  rw [Bool.or_eq_true, Bool.and_eq_true, Bool.and_eq_true] at ok
  rcases ok with ⟨h1, h2⟩ | ⟨h1, h2⟩
  · have e1 := view_flat h1
    have e2 := view_flat h2
    rw [e1, e2] at q
    rw [e1] at h1 data
    rw [e2] at h2 data
    rcases flat_cases rx ry h1 h2 with ⟨s1, s2⟩ | ⟨s1, s2⟩
    · exact .inl ⟨s1, k _ _ μ as F H Gr.refl M (.bl _) (by rw [s2]; exact q)⟩
    · exact .inr (data s1 s2)
  · exact .inr (data h1 h2)
theorem op_eqA {X : Cx} (hu : X.A.units + 64 < cLine) (hK : X.K = K) : OpR X (compareOp .Eq) (rOr rEq (rEqD K)) := hK ▸ opr_or op_eq (op_eqD hu)
theorem op_neA {X : Cx} (hu : X.A.units + 64 < cLine) (hK : X.K = K) : OpR X (compareOp .NotEq) (rOr rNe (rNeD K)) := hK ▸ opr_or op_ne (op_neD hu)
end
end DX
set_option Elab.async false
set_option linter.all false
set_option maxRecDepth 100000
set_option maxHeartbeats 4000000
namespace DX
open PySem PySem.Spec PyProof.Rows L2
section
variable {K : PySem.W.Frag} {Z : Hp} {as as' as1 : List Addr} {F F' F1 H H' H1 : Hp} {Ex : L2.St → XK}
/-! ### arithmetic -/
theorem rI_int (f : Int → Int → Int) : ∀ i j as F, Rep K as F (V.int (f i j)) (D.int (f i j)) := fun _ _ _ _ => .int _
theorem rI_bl (f : Int → Int → Bool) : ∀ i j as F, Rep K as F (V.bl (f i j)) (D.bl (f i j)) := fun _ _ _ _ => .bl _
theorem sim_sub : SimR K (rI0 fun i j => .int (i - j)) (dI fun i j => .int (i - j)) := simR_int (rI_int _)
theorem sim_mul : SimR K (rI CMul fun i j => .int (i * j)) (dIC CMul fun i j => .int (i * j)) := simR_intC (rI_int _)
theorem sim_fdiv : SimR K (rI CDiv fun i j => .int (i / j)) (dIC CDiv fun i j => .int (i / j)) := simR_intC (rI_int _)
theorem sim_fdivW : SimR K (rI CDivW fun i j => .int (i / j)) (dIC CDivW fun i j => .int (i / j)) := simR_intC (rI_int _)
theorem sim_mulW : SimR K (rI CMulW fun i j => .int (i * j)) (dIC CMulW fun i j => .int (i * j)) := simR_intC (rI_int _)
theorem sim_mod : SimR K (rI (fun _ j => 0 < j) fun i j => .int (i % j)) (dIC (fun _ j => 0 < j) fun i j => .int (i % j)) := simR_intC (rI_int _)
theorem sim_pow : SimR K (rI CPow fun i j => .int (i ^ j.toNat)) (dIC CPow fun i j => .int (i ^ j.toNat)) := simR_intC (rI_int _)
theorem sim_shl : SimR K (rI CPow fun i j => .int (i * 2 ^ j.toNat)) (dIC CPow fun i j => .int (i * 2 ^ j.toNat)) := simR_intC (rI_int _)
theorem sim_shr : SimR K (rI (fun _ j => 0 ≤ j) fun i j => .int (i / 2 ^ j.toNat)) (dIC (fun _ j => 0 ≤ j) fun i j => .int (i / 2 ^ j.toNat)) := simR_intC (rI_int _)
theorem sim_band : SimR K (rI0 fun i j => .int (Builtin.bitAnd i j)) (dI fun i j => .int (Builtin.bitAnd i j)) := simR_int (rI_int _)
theorem sim_bor : SimR K (rI0 fun i j => .int (Builtin.bitOr i j)) (dI fun i j => .int (Builtin.bitOr i j)) := simR_int (rI_int _)
theorem sim_lt : SimR K (rI0 fun i j => .bl (decide (i < j))) (dI fun i j => .bl (decide (i < j))) := simR_int (rI_bl _)
theorem sim_le : SimR K (rI0 fun i j => .bl (decide (i ≤ j))) (dI fun i j => .bl (decide (i ≤ j))) := simR_int (rI_bl _)
theorem sim_gt : SimR K (rI0 fun i j => .bl (decide (j < i))) (dI fun i j => .bl (decide (j < i))) := simR_int (rI_bl _)
theorem sim_ge : SimR K (rI0 fun i j => .bl (decide (j ≤ i))) (dI fun i j => .bl (decide (j ≤ i))) := simR_int (rI_bl _)
/-! ### + -/
def rAddStr : R2 := fun x y H Q => ∃ i j, x = .str i ∧ y = .str j ∧ i.length + j.length ≤ sizeLine ∧ Q (.str (i ++ j)) H
def dAdd : DR2 := fun x y μ Q => match viewT μ x, viewT μ y with
  | .int i, .int j => Q (.int (i + j)) μ
  | .str i, .str j => i.length + j.length ≤ sizeLine ∧ Q (.str (i ++ j)) μ
  | .lst xs, .lst ys => xs.length + ys.length ≤ sizeLine ∧ Q (.lst (xs ++ ys)) μ
  | .tup xs, .tup ys => xs.length + ys.length ≤ sizeLine ∧ Q (.tup (xs ++ ys)) μ
  | _, _ => False
theorem viewT_cases (μ : Mem) (d : D) : (∃ ds, viewT μ d = .lst ds) ∨ (∃ C fs, viewT μ d = .ins C fs) ∨ viewT μ d = d := by
  cases d with
  | ob k =>
    show (∃ ds, (match μ[k]? with | some (M.lst ds) => D.lst ds | some (.ins C fs) => .ins C fs | _ => .ob k) = _) ∨ (∃ C fs, (match μ[k]? with | some (M.lst ds) => D.lst ds | some (.ins C fs) => .ins C fs | _ => .ob k) = _) ∨ (match μ[k]? with | some (M.lst ds) => D.lst ds | some (.ins C fs) => .ins C fs | _ => .ob k) = _
    cases μ[k]? with
    | none => exact .inr (.inr rfl)
    | some m => cases m with
      | lst ds => exact .inl ⟨ds, rfl⟩
      | ins C fs => exact .inr (.inl ⟨C, fs, rfl⟩)
      | dic kv => exact .inr (.inr rfl)
  | _ => exact .inr (.inr rfl)
theorem viewT_int {μ : Mem} {d : D} {i : Int} (h : viewT μ d = .int i) : d = .int i := by
  rcases viewT_cases μ d with ⟨ds, z⟩ | ⟨C, fs, z⟩ | z <;> rw [z] at h
  · cases h
  · cases h
  · exact h
theorem viewT_str {μ : Mem} {d : D} {i : Str} (h : viewT μ d = .str i) : d = .str i := by
  rcases viewT_cases μ d with ⟨ds, z⟩ | ⟨C, fs, z⟩ | z <;> rw [z] at h
  · cases h
  · cases h
  · exact h
theorem viewT_tup {μ : Mem} {d : D} {i : List D} (h : viewT μ d = .tup i) : d = .tup i := by
  rcases viewT_cases μ d with ⟨ds, z⟩ | ⟨C, fs, z⟩ | z <;> rw [z] at h
  · cases h
  · cases h
  · exact h
def rAddAll (K : PySem.W.Frag) : R2 := rOr (rI0 fun i j => .int (i + j)) (rOr rAddStr (rOr rCat (rCatA K)))
theorem op_addA {X : Cx} (hK : X.K = K) : OpR X (binaryOp .Add) (rAddAll K) := hK ▸ opr_or op_add (opr_or op_add_str (opr_or op_cat op_catA))
theorem sim_add : SimR K (rAddAll K) dAdd := fun Z as F H μ x y d e Q Q' M rx ry z k => by
  unfold dAdd at z
  split at z
  · rename_i i j h1 h2
    cases viewT_int h1; cases viewT_int h2
    cases rx; cases ry
    exact .inl ⟨_, _, rfl, rfl, k _ _ μ as F H Gr.refl M (.int _) z⟩
  · rename_i i j h1 h2
    cases viewT_str h1; cases viewT_str h2
    cases rx; cases ry
    exact .inr (.inl ⟨_, _, rfl, rfl, z.1, k _ _ μ as F H Gr.refl M (.str _) z.2⟩)
  · rename_i xs ys h1 h2
    obtain ⟨a, vs, rfl, e1, r1⟩ := viewT_lst M rx h1
    obtain ⟨b, us, rfl, e2, r2⟩ := viewT_lst M ry h2
    refine .inr (.inr (.inl ⟨a, b, vs, us, rfl, rfl, e1, e2, by rw [r1.len, r2.len]; exact z.1, fun p np => ?_⟩))
    have g := Gr.upd (as := as) (o := .lst (vs ++ us)) (M.newF np)
    exact k _ _ μ as _ _ g (M.addF np) (.lst upd_same ((r1.append r2).up g)) z.2
  · rename_i xs ys h1 h2
    cases viewT_tup h1; cases viewT_tup h2
    cases rx with
    | tup e1 r1 =>
      cases ry with
      | tup e2 r2 =>
        rename_i a vs b us
        have same : ∀ {c : Addr} {ws : List V} {ds : List D}, F c = some (.tup ws) → RepL K as F ws ds → ds = xs ++ ys → Q' (.ref c) H := fun e r q => k _ _ μ as F H Gr.refl M (.tup e r) (by rw [q]; exact z.2)
        refine .inr (.inr (.inr ⟨a, b, vs, us, rfl, rfl, SqT.of (M.same _ _ e1), SqT.of (M.same _ _ e2), by rw [r1.len, r2.len]; exact z.1, fun z0 => ?_, fun _ z0 => ?_, fun _ _ p np => ?_⟩))
        · subst z0
          cases r1
          exact same e2 r2 rfl
        · subst z0
          cases r2
          exact same e1 r1 (List.append_nil _).symm
        · have g := Gr.upd (as := as) (o := .tup (vs ++ us)) (M.newF np)
          exact k _ _ μ as _ _ g (M.addF np) (.tup upd_same ((r1.append r2).up g)) z.2
  · exact z.elim
/-! ### unary -/
def uUn (f : Int → D) (ua : DTE) : DTE := fun ρ μ Q E => ua ρ μ (fun x μ1 => match x with
  | .int i => Q (f i) μ1
  | _ => False) E
theorem sim_un {f : Int → Int} {t : TE} {u : DTE} (a : Sim K Ex t u) : Sim K Ex (tUn (rU fun i => .int (f i)) t) (uUn (fun i => .int (f i)) u) := fun Z as F H σ ρ μ Q E Q' R X h k =>
  a Z as F H σ ρ μ _ E _ R X h fun v d μ1 as1 F1 H1 g1 R1 r1 h1 => by
    cases r1 <;> try exact h1.elim
    exact ⟨_, rfl, k _ _ _ _ _ _ g1 R1 (.int _) h1⟩
/-! ### is None -/
def isNon : D → Bool
  | .non => true
  | .val v => decide (v = .non)
  | _ => false
theorem isNon_eq {v : V} {d : D} (r : Rep K as F v d) : decide (v = .non) = isNon d := by cases r <;> rfl
def uIsN (neg : Bool) (ua : DTE) : DTE := fun ρ μ Q E => ua ρ μ (fun x μ1 => Q (.bl (if neg then !isNon x else isNon x)) μ1) E
theorem sim_isN {t : TE} {u : DTE} (a : Sim K Ex t u) : Sim K Ex (tOp (fun x y H Q => y = .non ∧ Q (.bl (decide (x = .non))) H) t (tC .non)) (uIsN false u) := fun Z as F H σ ρ μ Q E Q' R X h k =>
  a Z as F H σ ρ μ _ E _ R X h fun v d μ1 as1 F1 H1 g1 R1 r1 h1 => ⟨rfl, by rw [isNon_eq r1]; exact k _ _ _ _ _ _ g1 R1 (.bl _) h1⟩
theorem sim_notN {t : TE} {u : DTE} (a : Sim K Ex t u) : Sim K Ex (tOp (fun x y H Q => y = .non ∧ Q (.bl (!decide (x = .non))) H) t (tC .non)) (uIsN true u) := fun Z as F H σ ρ μ Q E Q' R X h k =>
  a Z as F H σ ρ μ _ E _ R X h fun v d μ1 as1 F1 H1 g1 R1 r1 h1 => ⟨rfl, by rw [isNon_eq r1]; exact k _ _ _ _ _ _ g1 R1 (.bl _) h1⟩
/-! ### truth -/
def dTru (μ : Mem) (d : D) (k : Bool → Prop) : Prop := match view μ d with
  | .non => k false
  | .bl b => k b
  | .int i => k (i != 0)
  | .str x => x.length ≤ sizeLine ∧ k ((x.length : Int) != 0)
  | .lst xs => k (!xs.isEmpty)
  | .tup xs => k (!xs.isEmpty)
  | _ => False
theorem isEmpty_rep {vs : List V} {ds : List D} (r : RepL K as F vs ds) : vs.isEmpty = ds.isEmpty := by cases r <;> rfl
theorem view_non {μ : Mem} {d : D} {e : D} (h : view μ d = e) (h1 : ∀ ds, e ≠ .lst ds) (h2 : ∀ ds, e ≠ .tup ds) (h3 : ∀ C fs, e ≠ .ins C fs) : d = e := by
  rcases view_cases μ d with ⟨ds, z⟩ | ⟨ds, z⟩ | ⟨C, fs, z⟩ | z <;> rw [z] at h
  · exact absurd h.symm (h1 _)
  · exact absurd h.symm (h2 _)
  · exact absurd h.symm (h3 _ _)
  · exact h
theorem tru_of {μ : Mem} (M : Mm K Z as F H μ) {v : V} {d : D} (r : Rep K as F v d) {k : Bool → Prop} (h : dTru μ d k) : ∃ b, TruV K v H b ∧ k b := by
  unfold dTru at h
  split at h
  · rename_i e; cases view_non e (by intro _ z; cases z) (by intro _ z; cases z) (by intro _ _ z; cases z); cases r; exact ⟨_, rfl, h⟩
  · rename_i e; cases view_non e (by intro _ z; cases z) (by intro _ z; cases z) (by intro _ _ z; cases z); cases r; exact ⟨_, rfl, h⟩
  · rename_i e; cases view_non e (by intro _ z; cases z) (by intro _ z; cases z) (by intro _ _ z; cases z); cases r; exact ⟨_, rfl, h⟩
  · rename_i e; cases view_non e (by intro _ z; cases z) (by intro _ z; cases z) (by intro _ _ z; cases z); cases r; exact ⟨_, ⟨h.1, rfl⟩, h.2⟩
  · rename_i e
    obtain ⟨a, vs, rfl, q, x⟩ := view_lst M r e
    exact ⟨_, .inl ⟨vs, q, rfl⟩, by rw [isEmpty_rep x]; exact h⟩
  · rename_i e
    obtain ⟨a, vs, rfl, q, x⟩ := view_tup M r e
    exact ⟨_, .inr (.inl ⟨vs, q, rfl⟩), by rw [isEmpty_rep x]; exact h⟩
  · exact h.elim
def uTru (u : DTE) : DTT := fun ρ μ Q E => u ρ μ (fun d μ' => dTru μ' d fun b => Q b μ') E
theorem sim_tru {t : TE} {u : DTE} (a : Sim K Ex t u) : SimT K Ex (fun σ H Q => t σ H fun x H' => ∃ k, TruV K x H' k ∧ Q k H') (uTru u) := fun Z as F H σ ρ μ Q E Q' R X h k =>
  a Z as F H σ ρ μ _ E _ R X h fun v d μ1 as1 F1 H1 g1 R1 r1 h1 => by
    obtain ⟨b, h2, h3⟩ := tru_of R1.mm r1 h1
    exact ⟨b, h2, k b μ1 as1 F1 H1 g1 R1 h3⟩
def uTest (u : DTE) : DTT := fun ρ μ Q E => u ρ μ (fun d μ' => match d with
  | .bl b => Q b μ'
  | _ => False) E
theorem sim_test {t : TE} {u : DTE} (a : Sim K Ex t u) : SimT K Ex (tTest t) (uTest u) := fun Z as F H σ ρ μ Q E Q' R X h k =>
  a Z as F H σ ρ μ _ E _ R X h fun v d μ1 as1 F1 H1 g1 R1 r1 h1 => by
    cases r1 <;> try exact h1.elim
    exact ⟨_, rfl, k _ μ1 as1 F1 H1 g1 R1 h1⟩
/-! ### and, or, not -/
def uAndB (a b : DTT) : DTT := fun ρ μ Q E => a ρ μ (fun c μ1 => if c = true then b ρ μ1 Q E else Q false μ1) E
def uOrB (a b : DTT) : DTT := fun ρ μ Q E => a ρ μ (fun c μ1 => if c = true then Q true μ1 else b ρ μ1 Q E) E
def uNotB (a : DTT) : DTT := fun ρ μ Q E => a ρ μ (fun c μ1 => Q (!c) μ1) E
theorem sim_andB {t s : TT} {u w : DTT} (a : SimT K Ex t u) (b : SimT K Ex s w) : SimT K Ex (tAnd t s) (uAndB u w) := fun Z as F H σ ρ μ Q E Q' R X h k =>
  a Z as F H σ ρ μ _ E _ R X h fun c μ1 as1 F1 H1 g1 R1 h1 => by
    cases c with
    | true => rw [if_pos rfl] at h1 ⊢; exact b Z as1 F1 H1 σ ρ μ1 Q E Q' R1 (X.up g1) h1 fun c μ2 as2 F2 H2 g2 => k c μ2 as2 F2 H2 (g1.trans g2)
    | false => rw [if_neg Bool.false_ne_true] at h1 ⊢; exact k false μ1 as1 F1 H1 g1 R1 h1
theorem sim_orB {t s : TT} {u w : DTT} (a : SimT K Ex t u) (b : SimT K Ex s w) : SimT K Ex (tOr t s) (uOrB u w) := fun Z as F H σ ρ μ Q E Q' R X h k =>
  a Z as F H σ ρ μ _ E _ R X h fun c μ1 as1 F1 H1 g1 R1 h1 => by
    cases c with
    | false => rw [if_neg Bool.false_ne_true] at h1 ⊢; exact b Z as1 F1 H1 σ ρ μ1 Q E Q' R1 (X.up g1) h1 fun c μ2 as2 F2 H2 g2 => k c μ2 as2 F2 H2 (g1.trans g2)
    | true => rw [if_pos rfl] at h1 ⊢; exact k true μ1 as1 F1 H1 g1 R1 h1
theorem sim_notB {t : TT} {u : DTT} (a : SimT K Ex t u) : SimT K Ex (tNot t) (uNotB u) := fun Z as F H σ ρ μ Q E Q' R X h k =>
  a Z as F H σ ρ μ _ E _ R X h fun c μ1 as1 F1 H1 g1 R1 h1 => k _ μ1 as1 F1 H1 g1 R1 h1
def uAnd (a b : DTE) : DTE := fun ρ μ Q E => a ρ μ (fun x μ1 => dTru μ1 x fun c => if c = true then b ρ μ1 Q E else Q x μ1) E
def uOr (a b : DTE) : DTE := fun ρ μ Q E => a ρ μ (fun x μ1 => dTru μ1 x fun c => if c = true then Q x μ1 else b ρ μ1 Q E) E
def uNot (a : DTE) : DTE := fun ρ μ Q E => a ρ μ (fun x μ1 => dTru μ1 x fun c => Q (.bl (!c)) μ1) E
theorem sim_and {t s : TE} {u w : DTE} (a : Sim K Ex t u) (b : Sim K Ex s w) : Sim K Ex (tAndT K t s) (uAnd u w) := fun Z as F H σ ρ μ Q E Q' R X h k =>
  a Z as F H σ ρ μ _ E _ R X h fun v d μ1 as1 F1 H1 g1 R1 r1 h1 => by
    obtain ⟨c, h2, h3⟩ := tru_of R1.mm r1 h1
    refine ⟨c, h2, ?_⟩
    cases c with
    | true => rw [if_pos rfl] at h3 ⊢; exact b Z as1 F1 H1 σ ρ μ1 Q E Q' R1 (X.up g1) h3 fun c d' μ2 as2 F2 H2 g2 => k c d' μ2 as2 F2 H2 (g1.trans g2)
    | false => rw [if_neg Bool.false_ne_true] at h3 ⊢; exact k v d μ1 as1 F1 H1 g1 R1 r1 h3
theorem sim_or {t s : TE} {u w : DTE} (a : Sim K Ex t u) (b : Sim K Ex s w) : Sim K Ex (tOrT K t s) (uOr u w) := fun Z as F H σ ρ μ Q E Q' R X h k =>
  a Z as F H σ ρ μ _ E _ R X h fun v d μ1 as1 F1 H1 g1 R1 r1 h1 => by
    obtain ⟨c, h2, h3⟩ := tru_of R1.mm r1 h1
    refine ⟨c, h2, ?_⟩
    cases c with
    | false => rw [if_neg Bool.false_ne_true] at h3 ⊢; exact b Z as1 F1 H1 σ ρ μ1 Q E Q' R1 (X.up g1) h3 fun c d' μ2 as2 F2 H2 g2 => k c d' μ2 as2 F2 H2 (g1.trans g2)
    | true => rw [if_pos rfl] at h3 ⊢; exact k v d μ1 as1 F1 H1 g1 R1 r1 h3
theorem sim_not {t : TE} {u : DTE} (a : Sim K Ex t u) : Sim K Ex (tNotT K t) (uNot u) := fun Z as F H σ ρ μ Q E Q' R X h k =>
  a Z as F H σ ρ μ _ E _ R X h fun v d μ1 as1 F1 H1 g1 R1 r1 h1 => by
    obtain ⟨c, h2, h3⟩ := tru_of R1.mm r1 h1
    exact ⟨c, h2, k _ _ μ1 as1 F1 H1 g1 R1 (.bl _) h3⟩
def uIf (c : DTT) (a b : DTE) : DTE := fun ρ μ Q E => c ρ μ (fun c μ1 => if c = true then a ρ μ1 Q E else b ρ μ1 Q E) E
theorem sim_if {tc : TT} {uc : DTT} {t s : TE} {u w : DTE} (c : SimT K Ex tc uc) (a : Sim K Ex t u) (b : Sim K Ex s w) : Sim K Ex (tIf tc t s) (uIf uc u w) := fun Z as F H σ ρ μ Q E Q' R X h k =>
  c Z as F H σ ρ μ _ E _ R X h fun c μ1 as1 F1 H1 g1 R1 h1 => by
    cases c with
    | true => rw [if_pos rfl] at h1 ⊢; exact a Z as1 F1 H1 σ ρ μ1 Q E Q' R1 (X.up g1) h1 fun c d' μ2 as2 F2 H2 g2 => k c d' μ2 as2 F2 H2 (g1.trans g2)
    | false => rw [if_neg Bool.false_ne_true] at h1 ⊢; exact b Z as1 F1 H1 σ ρ μ1 Q E Q' R1 (X.up g1) h1 fun c d' μ2 as2 F2 H2 g2 => k c d' μ2 as2 F2 H2 (g1.trans g2)
/-- a chain of two comparisons -/
def uChain (dr dr' : DR2) (ua ub uc : DTE) : DTE := fun ρ μ Q E => ua ρ μ (fun x μ1 => ub ρ μ1 (fun y μ2 => dr x y μ2 fun z μ3 => match z with
  | .bl c => if c = true then uc ρ μ3 (fun w μ4 => dr' y w μ4 Q) E else Q (.bl false) μ3
  | _ => False) E) E
theorem sim_chain {r r' : R2} {dr dr' : DR2} {ta tb tc : TE} {ua ub uc : DTE} (s : SimR K r dr) (s' : SimR K r' dr') (a : Sim K Ex ta ua) (b : Sim K Ex tb ub) (c : Sim K Ex tc uc) : Sim K Ex (tChain r r' ta tb tc) (uChain dr dr' ua ub uc) := fun Z as F H σ ρ μ Q E Q' R X h k =>
  a Z as F H σ ρ μ _ E _ R X h fun v d μ1 as1 F1 H1 g1 R1 r1 h1 => b Z as1 F1 H1 σ ρ μ1 _ E _ R1 (X.up g1) h1 fun v2 d2 μ2 as2 F2 H2 g2 R2 r2 h2 =>
    s Z as2 F2 H2 μ2 v v2 d d2 _ _ R2.mm (r1.up g2) r2 h2 fun v3 d3 μ3 as3 F3 H3 g3 M3 r3 q => by
      cases r3 <;> try exact q.elim
      rename_i kb
      refine ⟨kb, rfl, ?_⟩
      have g123 := (g1.trans g2).trans g3
      have R3 := R2.up g3 M3
      cases kb with
      | true =>
        have q : (if true = true then uc ρ μ3 (fun w μ4 => dr' d2 w μ4 Q) E else Q (.bl false) μ3) := q
        rw [if_pos rfl] at q ⊢
        exact c Z as3 F3 H3 σ ρ μ3 _ E _ R3 (X.up g123) q fun v4 d4 μ4 as4 F4 H4 g4 R4 r4 q4 =>
          s' Z as4 F4 H4 μ4 v2 v4 d2 d4 Q Q' R4.mm ((r2.up g3).up g4) r4 q4 fun v5 d5 μ5 as5 F5 H5 g5 M5 r5 q5 => k v5 d5 μ5 as5 F5 H5 ((g123.trans g4).trans g5) (R4.up g5 M5) r5 q5
      | false =>
        have q : (if false = true then uc ρ μ3 (fun w μ4 => dr' d2 w μ4 Q) E else Q (.bl false) μ3) := q
        rw [if_neg Bool.false_ne_true] at q ⊢
        exact k _ _ μ3 as3 F3 H3 g123 R3 (.bl false) q
end
end DX
set_option Elab.async false
set_option linter.all false
set_option maxRecDepth 100000
set_option maxHeartbeats 4000000
namespace DX
open PySem PySem.Spec PyProof.Rows L2
section
variable {K : PySem.W.Frag} {Z : Hp} {as as' as1 : List Addr} {F F' F1 H H' H1 : Hp} {Ex : L2.St → XK}
/-! ### subscripts -/
theorem atI_rep {vs : List V} {ds : List D} {i : Int} {d : D} (r : RepL K as F vs ds) (h : atI ds i = some d) : ∃ v, atI vs i = some v ∧ Rep K as F v d := by
  unfold atI at h ⊢
  rw [r.len]
  cases e : ixN ds.length i with
  | none => rw [e] at h; cases h
  | some j => rw [e] at h; exact r.get h
def dIx : DR2 := fun x y μ Q => match view μ x, y with
  | .lst xs, .int i => match atI xs i with
    | some d => Q d μ
    | none => False
  | .tup xs, .int i => match atI xs i with
    | some d => Q d μ
    | none => False
  | .str z, .int i => match atI z.cps.toList i with
    | some c => z.length ≤ sizeLine ∧ Q (.str ⟨#[c]⟩) μ
    | none => False
  | _, _ => False
theorem ix_A {X : Cx} (hK : X.K = K) : IxR X (rIx K) := hK ▸ ix_seq
theorem view_str {μ : Mem} {d : D} {z : Str} (h : view μ d = .str z) : d = .str z := view_non h (by intro _ z; cases z) (by intro _ z; cases z) (by intro _ _ z; cases z)
theorem view_int {μ : Mem} {d : D} {z : Int} (h : view μ d = .int z) : d = .int z := view_non h (by intro _ z; cases z) (by intro _ z; cases z) (by intro _ _ z; cases z)
theorem sim_ix : SimR K (rIx K) dIx := fun Z as F H μ x y d e Q Q' M rx ry z k => by
  unfold dIx at z
  split at z
  · rename_i xs i h1
    cases ry
    obtain ⟨a, vs, rfl, q, r⟩ := view_lst M rx h1
    split at z
    · rename_i d' h2
      obtain ⟨v, h3, h4⟩ := atI_rep r h2
      exact .inl ⟨a, vs, _, v, rfl, rfl, q, h3, k v d' μ as F H Gr.refl M h4 z⟩
    · exact z.elim
  · rename_i xs i h1
    cases ry
    obtain ⟨a, vs, rfl, q, r⟩ := view_tup M rx h1
    split at z
    · rename_i d' h2
      obtain ⟨v, h3, h4⟩ := atI_rep r h2
      exact .inr (.inl ⟨a, vs, _, v, rfl, rfl, q, h3, k v d' μ as F H Gr.refl M h4 z⟩)
    · exact z.elim
  · rename_i w i h1
    cases ry
    cases view_str h1
    cases rx
    split at z
    · rename_i c h2
      exact .inr (.inr ⟨_, _, c, rfl, rfl, z.1, h2, k _ _ μ as F H Gr.refl M (.str _) z.2⟩)
    · exact z.elim
  · exact z.elim
/-! ### slices -/
def dcut (xs : List D) (lo hi : Option Int) : List D := (xs.drop (HT.sIx xs.length 0 lo)).take (HT.sIx xs.length xs.length hi - HT.sIx xs.length 0 lo)
theorem cut_rep {vs : List V} {ds : List D} (r : RepL K as F vs ds) (lo hi : Option Int) : RepL K as F (cutV vs lo hi) (dcut ds lo hi) := by
  unfold cutV dcut
  rw [r.len]
  exact (r.drop _).take _
abbrev DTO := Rho → Mem → (Option Int → Mem → Prop) → XD → Prop
def SimO (K : PySem.W.Frag) (Ex : L2.St → XK) (t : TO) (u : DTO) : Prop :=
  ∀ (Z : Hp) (as : List Addr) (F H : Hp) (σ : L2.St) (ρ : Rho) (μ : Mem) (Q : Option Int → Mem → Prop) (E : XD) (Q' : Option Int → Hp → Prop), Rp K Z as F H σ ρ μ → XL K Ex Z as F E → u ρ μ Q E →
    (∀ b μ' as' F' H', Gr as F as' F' → Rp K Z as' F' H' σ ρ μ' → Q b μ' → Q' b H') → t σ H Q'
def uNoPart : DTO := fun _ μ Q _ => Q none μ
def uPart (u : DTE) : DTO := fun ρ μ Q E => u ρ μ (fun d μ1 => match d with
  | .int i => Q (some i) μ1
  | _ => False) E
theorem sim_noPart : SimO K Ex tNoPart uNoPart := fun Z as F H σ ρ μ Q E Q' R X h k => k none μ as F H Gr.refl R h
theorem sim_part {t : TE} {u : DTE} (a : Sim K Ex t u) : SimO K Ex (tPart t) (uPart u) := fun Z as F H σ ρ μ Q E Q' R X h k =>
  a Z as F H σ ρ μ _ E _ R X h fun v d μ1 as1 F1 H1 g1 R1 r1 h1 => by
    cases r1 <;> try exact h1.elim
    exact ⟨_, rfl, k _ μ1 as1 F1 H1 g1 R1 h1⟩
/-- frozen (m = false) or a new list of the memory -/
def uSl (m : Bool) (ue : DTE) (ul uh : DTO) : DTE := fun ρ μ Q E => ue ρ μ (fun x μ1 => ul ρ μ1 (fun lo μ2 => uh ρ μ2 (fun hi μ3 => match view μ3 x with
  | .lst xs => if m = true then Q (.ob μ3.length) (μ3 ++ [.lst (dcut xs lo hi)]) else Q (.lst (dcut xs lo hi)) μ3
  | .tup xs => Q (.tup (dcut xs lo hi)) μ3 ∧ ∃ ys, x = .tup ys
  | .str z => z.length ≤ sizeLine ∧ Q (.str (cutS z lo hi)) μ3
  | _ => False) E) E) E
def rSlAll (K : PySem.W.Frag) : V → Option Int → Option Int → Hp → VK → Prop := fun x lo hi H Q => rSlL K x lo hi H Q ∨ (rSlA K x lo hi H Q ∨ rSlS x lo hi H Q)
theorem sl_A {X : Cx} (hK : X.K = K) : SlR X (rSlAll K) := hK ▸ sl_list.or (sl_tupA.or sl_str)
theorem cut_whole {xs : List D} {lo hi : Option Int} (h : HT.sIx xs.length 0 lo = 0 ∧ HT.sIx xs.length xs.length hi = xs.length) : dcut xs lo hi = xs := by
  unfold dcut
  rw [h.1, h.2]
  simp
theorem sim_sl (m : Bool) {te : TE} {tl th : TO} {ue : DTE} {ul uh : DTO} (a : Sim K Ex te ue) (b : SimO K Ex tl ul) (c : SimO K Ex th uh) : Sim K Ex (tSl (rSlAll K) te tl th) (uSl m ue ul uh) := fun Z as F H σ ρ μ Q E Q' R X h k =>
  a Z as F H σ ρ μ _ E _ R X h fun v d μ1 as1 F1 H1 g1 R1 r1 h1 => b Z as1 F1 H1 σ ρ μ1 _ E _ R1 (X.up g1) h1 fun lo μ2 as2 F2 H2 g2 R2 h2 =>
    c Z as2 F2 H2 σ ρ μ2 _ E _ R2 (X.up (g1.trans g2)) h2 fun hi μ3 as3 F3 H3 g3 R3 h3 => by
      have g := (g1.trans g2).trans g3
      have r3 := (r1.up g2).up g3
      have h3 : (match view μ3 d with
        | .lst xs => if m = true then Q (.ob μ3.length) (μ3 ++ [.lst (dcut xs lo hi)]) else Q (.lst (dcut xs lo hi)) μ3
        | .tup xs => Q (.tup (dcut xs lo hi)) μ3 ∧ ∃ ys, d = .tup ys
        | .str z => z.length ≤ sizeLine ∧ Q (.str (cutS z lo hi)) μ3
        | _ => False) := h3
      split at h3
      · rename_i xs e
        obtain ⟨p, vs, rfl, q, r⟩ := view_lst R3.mm r3 e
        refine .inl ⟨p, vs, rfl, q, fun n nn => ?_⟩
        cases m with
        | true =>
          rw [if_pos rfl] at h3
          exact k _ _ _ (as3 ++ [n]) F3 _ (g.trans Gr.add) (R3.up Gr.add (R3.mm.addM (m := .lst _) nn ⟨_, upd_same, (cut_rep r lo hi).up Gr.add⟩)) (rep_ob R3.mm.len) h3
        | false =>
          rw [if_neg Bool.false_ne_true] at h3
          have g4 := Gr.upd (as := as3) (o := .lst (cutV vs lo hi)) (R3.mm.newF nn)
          exact k _ _ μ3 as3 _ _ (g.trans g4) (R3.up g4 (R3.mm.addF nn)) (.lst upd_same ((cut_rep r lo hi).up g4)) h3
      · rename_i xs e
        obtain ⟨h4, ys, rfl⟩ := h3
        cases e
        cases r3 with
        | tup e1 r =>
          rename_i p vs
          refine .inr (.inl ⟨p, vs, rfl, SqT.of (R3.mm.same _ _ e1), fun w => ?_, fun _ n nn => ?_⟩)
          · rw [r.len] at w
            exact k _ _ μ3 as3 F3 H3 g R3 (.tup e1 r) (by rw [← cut_whole w]; exact h4)
          · have g4 := Gr.upd (as := as3) (o := .tup (cutV vs lo hi)) (R3.mm.newF nn)
            exact k _ _ μ3 as3 _ _ (g.trans g4) (R3.up g4 (R3.mm.addF nn)) (.tup upd_same ((cut_rep r lo hi).up g4)) h4
      · rename_i z e
        cases view_str e
        cases r3
        exact .inr (.inr ⟨_, rfl, h3.1, k _ _ μ3 as3 F3 H3 g R3 (.str _) h3.2⟩)
      · exact h3.elim
/-! ### in -/
def dInOk (x c : D) (ds : List D) : Bool := (dflat x && ds.all dflat) || (dok x && dok c)
def dIn (neg : Bool) : DR2 := fun x y μ Q => match view μ y with
  | .lst ds => dInOk (view μ x) (.lst ds) ds = true ∧ Q (.bl (if neg then !(ds.any fun e => deqv e (view μ x)) else ds.any fun e => deqv e (view μ x))) μ
  | .tup ds => dInOk (view μ x) (.tup ds) ds = true ∧ Q (.bl (if neg then !(ds.any fun e => deqv e (view μ x)) else ds.any fun e => deqv e (view μ x))) μ
  | _ => False
def rInD (K : PySem.W.Frag) (neg : Bool) : R2 := fun x y H Q => ∃ d ds, Dp K H x d ∧ (Dp K H y (.list ds) ∨ Dp K H y (.tuple ds)) ∧ d.canLay0 = true ∧ PyData.canLayAll0 ds = true ∧ d.depth ≤ 60 ∧ Q (.bl (if neg then !(ds.any fun e => PyData.eqv e d) else ds.any fun e => PyData.eqv e d)) H
theorem op_inD {X : Cx} (hu : X.A.units + 64 < cLine) : OpR X (compareOp .In) (rInD X.K false) := by
  intro pins s σ H x y v u Q I rx ry h
  obtain ⟨d, ds, hd, he, c1, c2, hz, q⟩ := h
  obtain ⟨as, r1⟩ := Dp.reads I d x v hd rx
  have hm : min (PyData.depthAll ds) d.depth ≤ d.depth := Nat.min_le_right _ _
  rcases he with he | he
  · obtain ⟨bs, r2⟩ := Dp.reads I _ y u he ry
    exact SeqAt.in_list_reads r2 r1 c2 c1 (by omega) ⟨.bl _, H, I, rfl, q⟩
  · obtain ⟨bs, r2⟩ := Dp.reads I _ y u he ry
    exact SeqAt.in_tuple_reads r2 r1 c2 c1 (by omega) ⟨.bl _, H, I, rfl, q⟩
theorem op_notInD {X : Cx} (hu : X.A.units + 64 < cLine) : OpR X (compareOp .NotIn) (rInD X.K true) := by
  intro pins s σ H x y v u Q I rx ry h
  obtain ⟨d, ds, hd, he, c1, c2, hz, q⟩ := h
  obtain ⟨as, r1⟩ := Dp.reads I d x v hd rx
  have hm : min (PyData.depthAll ds) d.depth ≤ d.depth := Nat.min_le_right _ _
  rcases he with he | he
  · obtain ⟨bs, r2⟩ := Dp.reads I _ y u he ry
    exact SeqAt.notIn_list_reads r2 r1 c2 c1 (by omega) ⟨.bl _, H, I, rfl, q⟩
  · obtain ⟨bs, r2⟩ := Dp.reads I _ y u he ry
    exact SeqAt.notIn_tuple_reads r2 r1 c2 c1 (by omega) ⟨.bl _, H, I, rfl, q⟩
theorem op_inA {X : Cx} (hu : X.A.units + 64 < cLine) (hK : X.K = K) : OpR X (compareOp .In) (rOr (rIn K false) (rInD K false)) := hK ▸ opr_or op_in_seq (op_inD hu)
theorem op_notInA {X : Cx} (hu : X.A.units + 64 < cLine) (hK : X.K = K) : OpR X (compareOp .NotIn) (rOr (rIn K true) (rInD K true)) := hK ▸ opr_or op_notIn_seq (op_notInD hu)
theorem flat_all : ∀ {vs : List V} {ds : List D}, RepL K as F vs ds → ds.all dflat = true → vs.all flatV = true
  | _, _, .nil, _ => rfl
  | _, _, .cons q r, h => by
    rw [List.all_cons, Bool.and_eq_true] at h ⊢
    exact ⟨flat_rep q h.1, flat_all r h.2⟩
theorem flat_any {x : V} {d : D} (rx : Rep K as F x d) (hx : dflat d = true) : ∀ {vs : List V} {ds : List D}, RepL K as F vs ds → ds.all dflat = true → inV x vs = ds.any fun e => deqv e d
  | _, _, .nil, _ => rfl
  | _, _, .cons (v := v) (vs := vs) q r, h => by
    rw [List.all_cons, Bool.and_eq_true] at h
    have ih := flat_any rx hx r h.2
    show (eqV v x || inV x vs) = _
    rw [List.any_cons, ih, flat_eqV q rx h.1 hx]
theorem lay_all {ds : List D} {ps : List PyData} {d : D} {p : PyData} (h : toPL ds = some ps) (hd : toP d = some p) : (ps.any fun e => PyData.eqv e p) = ds.any fun e => deqv e d := by
  induction ds generalizing ps with
  | nil => cases h; rfl
  | cons a r ih =>
    obtain ⟨q, qs, h1, h2, rfl⟩ := toPL_cons h
    rw [List.any_cons, List.any_cons, ih h2, toP_eqv h1 hd]
theorem sim_in (neg : Bool) : SimR K (rOr (rIn K neg) (rInD K neg)) (dIn neg) := fun Z as F H μ x y d e Q Q' M rx ry z k => by
  have go : ∀ (c : D) (ds : List D) (p : Addr) (vs : List V), (c = .lst ds ∧ SqL K H p vs ∨ c = .tup ds ∧ SqT K H p vs) → view μ e = c → y = .ref p → RepL K as F vs ds → dInOk (view μ d) c ds = true →
      Q (.bl (if neg then !(ds.any fun e => deqv e (view μ d)) else ds.any fun e => deqv e (view μ d))) μ → rOr (rIn K neg) (rInD K neg) x y H Q' := by
    rintro c ds p vs hc hv rfl r ok q
    unfold dInOk at ok
    rw [Bool.or_eq_true, Bool.and_eq_true, Bool.and_eq_true] at ok
    rcases ok with ⟨h1, h2⟩ | ⟨h1, h2⟩
    · have e1 := view_flat h1
      rw [e1] at h1 q
      refine .inl ⟨p, vs, rfl, hc.elim (fun w => .inl w.2) (fun w => .inr w.2), flat_rep rx h1, flat_all r h2, ?_⟩
      rw [flat_any rx h1 r h2]
      exact k _ _ μ as F H Gr.refl M (.bl _) q
    · obtain ⟨a, a1, a2⟩ := dok_shaped h1
      unfold dok at h1 h2
      rw [Bool.and_eq_true, decide_eq_true_iff] at h1 h2
      obtain ⟨a', a3, a4, a5⟩ := lay_toP h1.1
      obtain rfl := Option.some.inj (a1.symm.trans a3)
      obtain ⟨b, b1, b2, b3⟩ := lay_toP h2.1
      have hd := view_dp M rx a1
      have he := view_dp M ry (p := b) (by rw [hv]; exact b1)
      rcases hc with ⟨rfl, hq⟩ | ⟨rfl, hq⟩
      · obtain ⟨ps, p1, rfl⟩ := toP_lst b1
        refine .inr ⟨a, ps, hd, .inl he, a4, b2, by rw [a5]; exact h1.2, ?_⟩
        rw [lay_all p1 a1]
        exact k _ _ μ as F H Gr.refl M (.bl _) q
      · obtain ⟨ps, p1, rfl⟩ := toP_tup b1
        refine .inr ⟨a, ps, hd, .inr he, a4, b2, by rw [a5]; exact h1.2, ?_⟩
        rw [lay_all p1 a1]
        exact k _ _ μ as F H Gr.refl M (.bl _) q
  unfold dIn at z
  split at z
  · rename_i ds hv
    obtain ⟨p, vs, ep, q, r⟩ := view_lst M ry hv
    exact go _ ds p vs (.inl ⟨rfl, q⟩) hv ep r z.1 z.2
  · rename_i ds hv
    obtain ⟨p, vs, ep, q, r⟩ := view_tup M ry hv
    exact go _ ds p vs (.inr ⟨rfl, q⟩) hv ep r z.1 z.2
  · exact z.elim
/-! ### fields -/
def uFld (C : Addr) (f : Str) (ua : DTE) : DTE := fun ρ μ Q E => ua ρ μ (fun x μ1 => match view μ1 x with
  | .ins C' gs => C' = C ∧ (match gs.lookup f with
    | some d => Q d μ1
    | none => False)
  | _ => False) E
theorem sim_fld {C : Addr} {f : Str} {t : TE} {u : DTE} (c : Cls K C) (n : NoAttr K C f) (a : Sim K Ex t u) : Sim K Ex (tFld K t f) (uFld C f u) := fun Z as F H σ ρ μ Q E Q' R X h k =>
  a Z as F H σ ρ μ _ E _ R X h fun v d μ1 as1 F1 H1 g1 R1 r1 h1 => by
    have h1 : (match view μ1 d with | .ins C' gs => C' = C ∧ (match gs.lookup f with | some d => Q d μ1 | none => False) | _ => False) := h1
    cases e : view μ1 d with
    | ins C' gs =>
      rw [e] at h1
      obtain ⟨hc, h2⟩ := h1
      subst hc
      obtain ⟨p, dx, fs, rfl, q, r⟩ := view_ins R1.mm r1 e
      cases l : gs.lookup f with
      | some d' =>
        rw [l] at h2
        obtain ⟨v', l', rr⟩ := r.look l
        exact ⟨p, _, dx, fs, v', rfl, q, c, n, l', k _ _ μ1 as1 F1 H1 g1 R1 rr h2⟩
      | none => rw [l] at h2; exact h2.elim
    | _ => rw [e] at h1; exact h1.elim
end
end DX
set_option Elab.async false
set_option linter.all false
set_option maxRecDepth 100000
set_option maxHeartbeats 4000000
namespace Gd
open PySem PySem.Spec PyProof.Rows L2
/-! promises that are kept where no repr is under way: what repr of a list or a tuple asks -/
abbrev Calm0 (A : Around) : Prop := A.guards = some []
def FnG (P : Program) (w : World) (K : PySem.W.Frag) (mg : Str → Option Value) (base : Heap) (CX : CXT) (k : Nat) (f : Addr) (sp : Sp) : Prop :=
  ∀ (A : Around) (outer : List Env) (s : Shared) (H : Hp) (us : List Value) (vs : List V) (Q : VK) (E : XK), Calm0 A → Room k A → Env0 P w K mg base A outer s H → Vals vs us → sp vs H Q E →
    codeAny (model P w) A (.call (.ref f) ⟨us, []⟩) (CR CX outer P w H s Q E) s
section
variable {P : Program} {w : World} {K : PySem.W.Frag} {mg : Str → Option Value} {base : Heap} {k : Nat} {f : Addr} {fd : FuncData} {x qual : Str} {st : Stmt} {N ps : List Str} {sp : Sp}
theorem FnG.of {CX : CXT} (F : FnR P w K mg base CX k f sp) : FnG P w K mg base CX k f sp := fun A o s H us vs Q E _ hr e r h => F A o s H us vs Q E hr e r h
/-- a def by its body, run where no repr is under way -/
theorem fnG_ok (F : Fun K x qual st f fd) (S : FnScope N ps (defScope st)) (B : L2.Binds K fd ps []) (len : ∀ vs H Q E, sp vs H Q E → vs.length = ps.length)
    (body : ∀ (cdv : Value) (A : Around) (outer : List Env) (s : Shared) (H : Hp) (vs : List V) (Q : VK) (E : XK), Calm0 A → Room k (A.deeper (envOfC qual (defScope st) s.heap.objs.size f cdv)) → sp vs H Q E →
      ∃ t, PSs (cxOf CX0 P w K mg base N qual (defScope st) f cdv A outer s H E).nox (defBody st) t ∧ t { nx := fun _ G => Q .non G, rt := Q } (start N vs) H) : FnG P w K mg base CX0 (k + 1) f sp := by
  obtain ⟨oc, od, kV, doc, pm, an, cdv, ct, osl, rfl, lk, hcd⟩ := F.ex
  intro A outer s H us vs Q E g room e r h
  have n1 : vs.length = ps.length := len vs H Q E h
  have inH : K.In s.heap := e.mod.kin.keeps (fun b o z => (e.bs b o z).left)
  have nolim : s.heap.NoLimit := e.mod.nolimit.keeps (fun b o z => (e.bs b o z).left)
  have bd := B s us inH (by rw [List.append_nil, ← r.length]; exact n1)
  rw [List.append_nil] at bd
  have kinds : ∀ q ∈ ps.zip us, (defScope st).names.lookup q.1 = some .local ∨ ((defScope st).names.lookup q.1 = some .cell ∧ ((cellsFrom (s.heap.objs.size + 1) (defScope st).names []).lookup q.1).isSome = true) := by
    rintro ⟨n, v⟩ hq
    cases S.par n (List.of_mem_zip hq).1 with
    | inl z => exact Or.inl z
    | inr z => exact Or.inr ⟨z, PySem.W.cellsFrom_some _ _ _ (Or.inl z)⟩
  obtain ⟨t, ht, q⟩ := body cdv A outer s H vs Q E g (room.deeper _) h
  apply codeAny_call_function room.depth (inH _ _ lk) rfl S.co S.gen rfl (PySem.W.codeRec_of inH hcd) (bd _ _ _ _ _)
  apply wpAny_newFunctionEnv_cells S.kind kinds
  intro env he s1 z
  subst he
  refine And.intro (nolim.keeps z.toInCall.keep) (codeAny_func ?_)
  have I := inv_start (CX := CX0) (E := E) S room.hd e n1 r z
  apply wpAny_mono (ht.nox.run [] s1 (start N vs) H _ I q) (fun fl s2 hs => ?_) (fun _ _ hs => hs)
  cases fl with
  | ret u => obtain ⟨v, σ2, H2, J, rv, z2⟩ := hs; exact ⟨v, H2, J.os, J.bare, J.base, J.hok, rv, z2⟩
  | next => obtain ⟨σ2, H2, J, z2⟩ := hs; exact ⟨V.non, H2, J.os, J.bare, J.base, J.hok, rfl, z2⟩
  | brk => exact hs.elim fun _ z2 => z2.elim fun _ z3 => z3.2.elim
  | cont => exact hs.elim fun _ z2 => z2.elim fun _ z3 => z3.2.elim
end
section
variable {X : Cx} {CX : CXT} {k : Nat} {f : Addr} {sp : Sp} {E : XK} {x : Str} {p pos : Pos} {e : Expr} {es : List Expr} {t : TA}
theorem pe_callG (F : FnG X.prog X.w X.K X.mg X.base CX k f sp) (g : Calm0 X.A) (hr : Room k X.A) (hg : Gl X x) (hm : X.mg x = some (.ref f)) (hk : PySem.W.keepIn X.K (.ref f) = true) (hx : Passes CX X E)
    (ha : PA X (e :: es) t) (hdb : (x == ("__debug__" : Str)) = false := by decide) (he : starEach (e :: es) X.env = (false, eval e X.env) :: starEach es X.env := by rfl) (hpl : (backTo pos (starEach es X.env)).any (·.1) = false := by rfl) :
    PE X (.Call (.Name x p) (e :: es) [] pos) (tCall sp [] E t) := by
  constructor
  intro pins s σ H Q I h
  apply wpAny_Call_Name_kw (ld_glob I hg hm ?_ hdb)
  apply PySem.W.callWith_K (h₀ := X.base) I.ok.mod.kin hk (thn (ha.run pos pins s σ H _ I h) fun us s1 ⟨vs, H1, I1, r, q⟩ => ⟨I1.kIn, ?_⟩) he hpl
  have q : sp vs H1 Q E := by
    have z : sp (vs ++ []) H1 Q E := q
    rwa [List.append_nil] at z
  refine wpAny_call (codeAny_mono (F _ _ _ _ _ _ _ _ g hr I1.env0 r q) fun z s2 hq => ?_)
  match z, hq with
  | .error u, hq => exact hx pins σ H1 s1 u s2 I1 hq
  | .ok (.ret u), hq => exact I1.after hq
end
/-! repr of data -/
def okShow : PyData → Bool
  | .int i => decide (i.natAbs.log2 < 1920)
  | d => d.showable && !d.hasDict && decide (d.depth ≤ 8) && decide (d.shown.length ≤ 1000000)
theorem show_of {d : PyData} (n : ∀ i, d ≠ .int i) (h : okShow d = true) : d.showable = true ∧ d.hasDict = false ∧ d.depth ≤ 8 ∧ d.shown.length ≤ sizeLine := by
  cases d with
  | int i => exact (n i rfl).elim
  | _ =>
    simp only [okShow, Bool.and_eq_true, decide_eq_true_eq, Bool.not_eq_true'] at h
    exact ⟨h.1.1.1, h.1.1.2, h.1.2, Nat.le_trans h.2 (by decide)⟩
theorem call_reprD {X : Cx} (g : Calm0 X.A) (hu : X.A.units + 64 < cLine) : CallR X (.builtin "repr") (fun xs H Q => ∃ v d, xs = [v] ∧ Dp X.K H v d ∧ okShow d = true ∧ Q (.str d.shown) H) := by
  intro pins s σ H xs us Q I r ⟨v, d, e, hd, ok, q⟩
  subst e
  obtain ⟨u, rfl, ru⟩ := vals1 r
  cases hd with
  | non => cases ru; exact PySem.P.repr_of_none ⟨.str _, H, I.tok _, ⟨_, rfl⟩, q⟩
  | bl b => cases ru; exact PySem.P.repr_of_bool ⟨.str _, H, I.tok _, ⟨_, rfl⟩, q⟩
  | int i => obtain ⟨t, rfl⟩ := ru; exact PySem.P.repr_of_int (of_decide_eq_true ok) ⟨.str _, H, I.tok _, ⟨_, rfl⟩, q⟩
  | str z => obtain ⟨t, rfl⟩ := ru; exact PySem.P.repr_of_str ⟨.str _, H, I.tok _, ⟨_, rfl⟩, q⟩ (show_of (by intro i e; cases e) ok).2.2.2
  | lst h1 h2 =>
    obtain ⟨o1, o2, o3, o5⟩ := show_of (by intro i e; cases e) ok
    obtain ⟨as, rd⟩ := Dp.reads I _ _ _ (Dp.lst h1 h2) ru
    cases ru
    exact repr_of_reads' rd o1 (fun z => by rw [o2] at z; cases z) g (by omega) (fun _ _ z => z) (fun h' u tk hk => ⟨.str _, H, I.kept hk, ⟨_, rfl⟩, q⟩) o5
  | tup h1 h2 =>
    obtain ⟨o1, o2, o3, o5⟩ := show_of (by intro i e; cases e) ok
    obtain ⟨as, rd⟩ := Dp.reads I _ _ _ (Dp.tup h1 h2) ru
    cases ru
    exact repr_of_reads' rd o1 (fun z => by rw [o2] at z; cases z) g (by omega) (fun _ _ z => z) (fun h' u tk hk => ⟨.str _, H, I.kept hk, ⟨_, rfl⟩, q⟩) o5
/-! the head of a law that is kept where no repr is under way -/
section
variable {P : Program} {w : World} {K : PySem.W.Frag} {mg mb : Str → Option Value} {k : Nat} {fa a : Addr} {sp : Sp} {s : Shared} {vs : List Value} {ns : List Int}
/-- what the law's run is to give -/
abbrev Gives (s : Shared) (r : Result) (s2 : Shared) : Prop := r = .ok (.ret (.bool true)) ∧ OldK s.heap s2.heap ∧ s2.os = s.os ∧ AllBare s2.gens
/-- the ground of a heap H that tracks at most the script -/
theorem ground_of {H : Hp} (inH : K.In s.heap) (g : s.heap.Ns mainGlobals mg) (b : s.heap.Ns builtinsNs mb) (bb : ∀ x : Str, x ≠ "__name__" → mb x = bootBuiltins x) (nl : s.heap.NoLimit) (ng : s.gens = #[])
    (sc : s.heap.get? a = some { cls := .type "list", data := .seq vs.toArray }) (ok : HOk P w H s.heap) (one : ∀ b u, H b = some u → b = a ∧ K.lookup a = none) :
    K.In (hidT s.heap H) ∧ (hidT s.heap H).Ns mainGlobals mg ∧ Env0 P w K mg (hidT s.heap H) callerA [] s H := by
  have open_ : ∀ {b : Addr} {o : Obj}, s.heap.get? b = some o → b ≠ a → (hidT s.heap H).get? b = some o := fun {b o} e n => hidT_get e (by
    cases z : H b with
    | none => rfl
    | some u => exact (n (one b u z).1).elim)
  have names : ∀ {b : Addr} {m : Str → Option Value}, s.heap.Ns b m → (hidT s.heap H).Ns b m := by
    rintro b m ⟨o, es, ep, e, d, r⟩
    refine ⟨o, es, ep, open_ e ?_, d, r⟩
    rintro rfl
    rw [e] at sc
    cases sc
    cases d
  have inG : K.In (hidT s.heap H) := fun b o e => by
    by_cases z : b = a
    · subst z
      refine hidT_get (inH b o e) ?_
      cases y : H b with
      | none => rfl
      | some u => rw [(one b u y).2] at e; cases e
    · exact open_ (inH b o e) z
  obtain ⟨mc, l1, l2⟩ := nl
  exact ⟨inG, names g, ⟨rfl, ⟨inG, names g, ⟨mb, names b, bb⟩, ⟨mc, names l1, l2⟩⟩, fun b o e => of_hidT e, Nat.le_of_eq (hidT_size _ _), trivial, fun b hb => (nomatch hb), ok, .of_eq ng⟩⟩
theorem law_runG (inH : K.In s.heap) (g : s.heap.Ns mainGlobals mg) (b : s.heap.Ns builtinsNs mb) (bb : ∀ x : Str, x ≠ "__name__" → mb x = bootBuiltins x) (nl : s.heap.NoLimit) (ng : s.gens = #[])
    (sc : s.heap.get? a = some { cls := .type "list", data := .seq vs.toArray }) (hi : IntsAre vs ns) (hl : ns.length ≤ sizeLine) (hr : Room k callerA)
    (F : ∀ base : Heap, K.In base → base.Ns mainGlobals mg → FnG P w K mg base CX0 k fa sp) (hsp : ∀ H : Hp, SqL K H a (ns.map V.int) → sp [.ref a] H (fun v _ => v = .bl true) fun _ _ _ => False) :
    codeAny (model P w) callerA (.call (.ref fa) ⟨[.ref a], []⟩) (Gives s) s := by
  have rv := vals_ints hi
  have small : (ns.map V.int).length ≤ sizeLine := by rw [List.length_map]; exact hl
  have way : ∀ H : Hp, (∀ b u, H b = some u → ∃ o xs, u = .frz o (.lst xs)) → SqL K H a (ns.map V.int) → HOk P w H s.heap → (∀ b u, H b = some u → b = a ∧ K.lookup a = none) → codeAny (model P w) callerA (.call (.ref fa) ⟨[.ref a], []⟩) (Gives s) s := by
    intro H fz S ok one
    obtain ⟨g1, g2, g3⟩ := ground_of inH g b bb nl ng sc ok one
    refine codeAny_mono (F _ g1 g2 callerA [] s H [.ref a] [V.ref a] _ _ rfl hr g3 (.cons rfl .nil) (hsp H S)) fun r s2 h => ?_
    match r, h with
    | .ok (.ret u), ⟨v, H2, os, bare, un, ok2, ru, q⟩ =>
      have q : v = .bl true := q
      subst q
      have ru : u = Value.bool true := ru
      subst ru
      refine ⟨rfl, OldK.of_keep fun c o e => ?_, os, bare⟩
      cases z : H c with
      | none => exact un.keep c o e z (by intro y; cases y) (by simp)
      | some u =>
        obtain ⟨ob, xs, rfl⟩ := fz c u z
        have e1 := (ok c _ z).1
        rw [e] at e1
        cases e1
        exact (ok2 c _ (un.frzs c o _ z)).1
  cases own : K.lookup a with
  | some o =>
    have e := inH a o own
    rw [sc] at e
    cases e
    exact way (fun _ => none) (fun _ _ z => nomatch z) (.inr ⟨_, vs.toArray, _, own, rfl, rfl, rfl, by rw [List.size_toArray, hi.length]; exact hl, by simpa using rv⟩) (fun _ _ z => nomatch z) (fun _ _ z => nomatch z)
  | none =>
    have at_ : ∀ b u, (if b = a then some (HO.frz { cls := .type "list", data := .seq vs.toArray } (.lst (ns.map V.int))) else none) = some u → b = a ∧ u = .frz { cls := .type "list", data := .seq vs.toArray } (.lst (ns.map V.int)) := fun b u z => by
      by_cases y : b = a
      · rw [if_pos y] at z; cases z; exact ⟨y, rfl⟩
      · rw [if_neg y] at z; cases z
    refine way (fun b => if b = a then some (.frz { cls := .type "list", data := .seq vs.toArray } (.lst (ns.map V.int))) else none) (fun b u z => ⟨_, _, (at_ b u z).2⟩) (.inl (.inr ⟨_, if_pos rfl⟩)) (fun b u z => ?_) (fun b u z => ⟨(at_ b u z).1, own⟩)
    obtain ⟨rfl, rfl⟩ := at_ b u z
    exact ⟨sc, small, vs, _, rv, sc⟩
end
theorem walkG {l : PySem.W.OpenLaw} {n k : Nat} {q : Program} {loose : List Str} {XP : (Str → Option Value) → Heap → Prop} {YP : World → Heap → Prop} {d : DefRec} {K : Params → PySem.W.Frag} {sp : PySem.W.Frag → Sp}
    (hn : l.most = some n) (n2 : n ≤ sizeLine) (hdf : d.params.defaults = []) (hr : Room k callerA) (hY : ∀ (w : World) (h : Heap), YP w h → (K w.params).In h)
    (F : ∀ (w : World) (mg : Str → Option Value) (fa : Addr) (h : Heap), (K w.params).In h → h.Ns mainGlobals mg → mg d.name = some (.ref fa) → ∀ base : Heap, (K w.params).In base → base.Ns mainGlobals mg → FnG l.prog w (K w.params) mg base CX0 k fa (sp (K w.params)))
    (hsp : ∀ (K : PySem.W.Frag) (H : Hp) (a : Addr) (ns : List Int), ns.length ≤ n → SqL K H a (ns.map V.int) → sp K [.ref a] H (fun v _ => v = .bl true) fun _ _ _ => False) :
    PySem.W.WalkO q loose XP YP l.row.toRowW d [] (fun f vs => PySem.call f vs) := by
  apply Att.attach_call hn hdf
  intro w s₀ s₁ mg mb fa o pm cd doc a vs ns G Y ho hd hcd hmg hobj hints hlen hg
  exact law_runG (hY w _ Y) G.T.g G.T.b G.T.builtins G.T.nolimit hg hobj hints (Nat.le_trans hlen n2) hr (F w mg fa _ (hY w _ Y) G.T.g hmg) (fun H S => hsp _ H a ns hlen S)
end Gd
set_option Elab.async false
set_option linter.all false
set_option maxRecDepth 100000
set_option maxHeartbeats 4000000
namespace DX
open PySem PySem.Spec PyProof.Rows L2
/-! ### built-in calls -/
abbrev DC := List D → Mem → (D → Mem → Prop) → Prop
section
variable {K : PySem.W.Frag} {Z : Hp} {as as' as1 : List Addr} {F F' F1 H H' H1 : Hp} {Ex : L2.St → XK}
def SimC (K : PySem.W.Frag) (r : List V → Hp → VK → Prop) (dc : DC) : Prop := ∀ (Z : Hp) (as : List Addr) (F H : Hp) (μ : Mem) (vs : List V) (ds : List D) (Q : D → Mem → Prop) (Q' : VK), Mm K Z as F H μ → RepL K as F vs ds → dc ds μ Q →
  (∀ v d' μ' as' F' H', Gr as F as' F' → Mm K Z as' F' H' μ' → Rep K as' F' v d' → Q d' μ' → Q' v H') → r vs H Q'
def uCB (dc : DC) (ua : DTA) : DTE := fun ρ μ Q E => ua ρ μ (fun ds μ1 => dc ds μ1 Q) E
theorem sim_cb {r : List V → Hp → VK → Prop} {dc : DC} {t : TA} {u : DTA} (s : SimC K r dc) (a : SimA K Ex t u) : Sim K Ex (tCB r t) (uCB dc u) := fun Z as F H σ ρ μ Q E Q' R X h k =>
  a Z as F H σ ρ μ _ E _ R X h fun vs ds μ1 as1 F1 H1 g1 R1 r1 h1 => s Z as1 F1 H1 μ1 vs ds Q Q' R1.mm r1 h1 fun v d' μ' as' F' H' g2 M2 r2 q => k v d' μ' as' F' H' (g1.trans g2) (R1.up g2 M2) r2 q
def one (f : D → Mem → (D → Mem → Prop) → Prop) : DC := fun ds μ Q => match ds with
  | [x] => f x μ Q
  | _ => False
theorem simC_one {r : List V → Hp → VK → Prop} {f : D → Mem → (D → Mem → Prop) → Prop}
    (h : ∀ (Z : Hp) (as : List Addr) (F H : Hp) (μ : Mem) (v : V) (d : D) (Q : D → Mem → Prop) (Q' : VK), Mm K Z as F H μ → Rep K as F v d → f d μ Q → (∀ v d' μ' as' F' H', Gr as F as' F' → Mm K Z as' F' H' μ' → Rep K as' F' v d' → Q d' μ' → Q' v H') → r [v] H Q') : SimC K r (one f) := fun Z as F H μ vs ds Q Q' M rs z k => by
  match vs, ds, rs, z with
  | _, _, .cons r1 .nil, z => exact h Z as F H μ _ _ Q Q' M r1 z k
  | _, _, .nil, z => exact z.elim
  | _, _, .cons _ (.cons _ _), z => exact z.elim
/-! len -/
def dLen : DC := one fun x μ Q => match view μ x with
  | .lst xs => Q (.int xs.length) μ
  | .tup xs => Q (.int xs.length) μ
  | .str z => z.length ≤ sizeLine ∧ Q (.int z.length) μ
  | .byt z => z.size ≤ sizeLine ∧ Q (.int z.size) μ
  | _ => False
def rLen (K : PySem.W.Frag) : List V → Hp → VK → Prop := fun xs H Q => ∃ x n, xs = [x] ∧ LenV K x H n ∧ Q (.int n) H
theorem call_lenA {X : Cx} (hK : X.K = K) : CallR X (.builtin "len") (rLen K) := hK ▸ call_len
theorem view_byt {μ : Mem} {d : D} {z : Array UInt8} (h : view μ d = .byt z) : d = .byt z := view_non h (by intro _ z; cases z) (by intro _ z; cases z) (by intro _ _ z; cases z)
theorem sim_len : SimC K (rLen K) dLen := simC_one fun Z as F H μ v d Q Q' M r z k => by
  cases e : view μ d with
  | lst xs =>
    rw [e] at z
    obtain ⟨a, vs, rfl, q, x⟩ := view_lst M r e
    exact ⟨_, _, rfl, .inl ⟨vs, q, rfl⟩, by rw [x.len]; exact k _ _ μ as F H Gr.refl M (.int _) z⟩
  | tup xs =>
    rw [e] at z
    obtain ⟨a, vs, rfl, q, x⟩ := view_tup M r e
    exact ⟨_, _, rfl, .inr ⟨vs, q, rfl⟩, by rw [x.len]; exact k _ _ μ as F H Gr.refl M (.int _) z⟩
  | str w =>
    rw [e] at z
    cases view_str e
    cases r
    exact ⟨_, _, rfl, ⟨z.1, rfl⟩, k _ _ μ as F H Gr.refl M (.int _) z.2⟩
  | byt w =>
    rw [e] at z
    cases view_byt e
    cases r
    exact ⟨_, _, rfl, ⟨z.1, rfl⟩, k _ _ μ as F H Gr.refl M (.int _) z.2⟩
  | _ => rw [e] at z; exact z.elim
/-! types -/
inductive Ty where
  | non | bl | int | str | byt | lst | tup | dic
  | own (C : Addr)
def tyOf (μ : Mem) : D → Option Ty
  | .non => some .non
  | .bl _ => some .bl
  | .int _ => some .int
  | .str _ => some .str
  | .byt _ => some .byt
  | .lst _ => some .lst
  | .kl _ => some .lst
  | .tup _ => some .tup
  | .kt _ => some .tup
  | .ins C _ => some (.own C)
  | .dic _ => some .dic
  | .ob k => match μ[k]? with
    | some (.lst _) => some .lst
    | some (.ins C _) => some (.own C)
    | some (.dic _) => some .dic
    | none => none
  | _ => none
def tyVal : Ty → Value
  | .non => .type "NoneType"
  | .bl => .type "bool"
  | .int => .type "int"
  | .str => .type "str"
  | .byt => .type "bytes"
  | .lst => .type "list"
  | .tup => .type "tuple"
  | .dic => .type "dict"
  | .own C => .ref C
/-- an own class's facts for isinstance -/
structure OwnT (K : PySem.W.Frag) (C : Addr) : Prop where
  cl : Cls K C
  cC : PySem.W.findIn K (.ref C) "__class__" = some (some (.builtin "object.__class__"))
  cG : PySem.W.specialIn K (.builtin "object.__class__") "__get__" = some (some (.builtin "getset_descriptor.__get__"))
  cT : PySem.W.takesIn K (.builtin "object.__class__") = some true
  cM : PySem.W.mroIn K C (.type "object") = some true
theorem sqL_ty {a : Addr} {xs : List V} (h : SqL K H a xs) : TyX K H (.ref a) (.type "list") := by
  rcases h with (h | ⟨o, h⟩) | ⟨o, its, n, h, c, _⟩
  · exact .base (.lst h)
  · exact .base (.frz h)
  · exact .kList h c
theorem sqT_ty {a : Addr} {xs : List V} (h : SqT K H a xs) : TyX K H (.ref a) (.type "tuple") := by
  rcases h with (h | ⟨o, h⟩) | ⟨o, its, n, h, c, _⟩
  · exact .base (.tup h)
  · exact .fTuple h
  · exact .kTuple h c
def TyOk (K : PySem.W.Frag) : Ty → Prop
  | .own C => OwnT K C
  | _ => True
theorem ty_of {μ : Mem} (M : Mm K Z as F H μ) {v : V} {d : D} (r : Rep K as F v d) {t : Ty} (h : tyOf μ d = some t) (ok : TyOk K t) : TyX K H v (tyVal t) := by
  cases r with
  | ob q =>
    rename_i k a
    have h : (match μ[k]? with | some (DX.M.lst _) => some Ty.lst | some (.ins C _) => some (.own C) | some (.dic _) => some .dic | none => none) = some t := h
    cases z : μ[k]? with
    | none => rw [z] at h; cases h
    | some m =>
      rw [z] at h
      obtain ⟨b, hb, y⟩ := M.at_ k m z
      obtain rfl := Option.some.inj (q.symm.trans hb)
      cases m with
      | lst es => cases h; obtain ⟨vs, e1, _⟩ := y; exact .base (.lst e1)
      | ins C fs => cases h; obtain ⟨dx, vs, e1, _⟩ := y; exact .base (.ins e1 ok.cl ok.cC ok.cG ok.cT ok.cM)
      | dic kv => cases h; obtain ⟨ks, e1, _⟩ := y; exact .base (.dK e1)
  | non => cases h; exact .base .non
  | bl b => cases h; exact .base (.bl b)
  | int b => cases h; exact .base (.int b)
  | str b => cases h; exact .base (.str b)
  | byt b => cases h; exact .byt b
  | lst q x => cases h; exact .base (.lst (M.same _ _ q))
  | kl q x => cases h; exact sqL_ty (M.same.seq q)
  | tup q x => cases h; exact .base (.tup (M.same _ _ q))
  | kt q x => cases h; exact sqT_ty (SqT.ext q M.same)
  | ins q x => cases h; exact .base (.ins (M.same _ _ q) ok.cl ok.cC ok.cG ok.cT ok.cM)
  | dic q x => cases h; exact .base (.dK (M.same _ _ q))
  | _ => cases h
/-- isinstance(x, T), T a built-in class -/
def tyIs : Ty → Ty → Bool
  | .non, .non => true
  | .bl, .bl => true
  | .bl, .int => true
  | .int, .int => true
  | .str, .str => true
  | .byt, .byt => true
  | .lst, .lst => true
  | .tup, .tup => true
  | .dic, .dic => true
  | _, _ => false
def tyName : Ty → String
  | .non => "NoneType" | .bl => "bool" | .int => "int" | .str => "str" | .byt => "bytes" | .lst => "list" | .tup => "tuple" | .dic => "dict" | .own _ => ""
/-- what an own class answers of a built-in one -/
def OwnB (K : PySem.W.Frag) (C : Addr) (T : Ty) : Prop := OwnT K C ∧ PySem.W.kitOne K (.ref C) (tyVal T) = some false
def dIsB (K : PySem.W.Frag) (T : Ty) (x : D) (μ : Mem) (Q : D → Mem → Prop) : Prop := match tyOf μ x with
  | some (.own C) => OwnB K C T ∧ Q (.bl false) μ
  | some t => Q (.bl (tyIs t T)) μ
  | none => False
def dIsiB (K : PySem.W.Frag) (T : Ty) : DC := fun ds μ Q => match ds with
  | [x, .val _] => dIsB K T x μ Q
  | _ => False
theorem kit_tab {t T : Ty} (h1 : ∀ C, t ≠ .own C) (h2 : ∀ C, T ≠ .own C) : PySem.W.kitOne K (tyVal t) (tyVal T) = some (tyIs t T) := by
  cases t <;> first | exact absurd rfl (h1 _) | (cases T <;> first | exact absurd rfl (h2 _) | exact kit_ty (by decide +kernel))
end
/-- a term that gives the class c -/
structure IsCls (c : V) (u : Value) : Prop where
  cls : ClsV c u
section
variable {K : PySem.W.Frag} {Z : Hp} {as as' as1 : List Addr} {F F' F1 H H' H1 : Hp} {Ex : L2.St → XK}
def uIs (f : D → Mem → (D → Mem → Prop) → Prop) (ua : DTE) : DTE := fun ρ μ Q E => ua ρ μ (fun x μ1 => f x μ1 Q) E
theorem sim_isB {T : Ty} {n : String} (hT : ∀ C, T ≠ .own C) (e : tyVal T = .type n) {t : TE} {u : DTE} (a : Sim K Ex t u) : Sim K Ex (tCB (rIsi K) (tCons t (tCons (tC (.ty n)) tNil))) (uIs (dIsB K T) u) := fun Z as F H σ ρ μ Q E Q' R X h k =>
  a Z as F H σ ρ μ _ E _ R X h fun v d μ1 as1 F1 H1 g1 R1 r1 h1 => by
    have h1 : dIsB K T d μ1 Q := h1
    unfold dIsB at h1
    cases z : tyOf μ1 d with
    | none => rw [z] at h1; exact h1.elim
    | some t =>
      rw [z] at h1
      have go : ∀ b, PySem.W.kitOne K (tyVal t) (tyVal T) = some b → TyOk K t → Q (.bl b) μ1 → rIsi K [v, .ty n] H1 Q' := fun b hb ok q => ⟨v, .ty n, tyVal t, .type n, b, rfl, .ty n, ty_of R1.mm r1 z ok, by rw [← e]; exact hb, k _ _ μ1 as1 F1 H1 g1 R1 (.bl _) q⟩
      cases t with
      | own C => exact go false h1.1.2 h1.1.1 h1.2
      | _ => exact go _ (kit_tab (by intro C z; cases z) hT) True.intro h1
/-- isinstance(x, C), C an own class -/
structure KitO (K : PySem.W.Frag) (C : Addr) : Prop where
  b : ∀ t : Ty, (∀ C, t ≠ .own C) → PySem.W.kitOne K (tyVal t) (.ref C) = some false
def dIsO (K : PySem.W.Frag) (C : Addr) (x : D) (μ : Mem) (Q : D → Mem → Prop) : Prop := match tyOf μ x with
  | some (.own C') => OwnT K C' ∧ ∃ b, PySem.W.kitOne K (.ref C') (.ref C) = some b ∧ Q (.bl b) μ
  | some _ => Q (.bl false) μ
  | none => False
theorem sim_isO {C : Addr} (kt : KitO K C) {t : TE} {u : DTE} (a : Sim K Ex t u) : Sim K Ex (tCB (rIsi K) (tCons t (tCons (tC (.ref C)) tNil))) (uIs (dIsO K C) u) := fun Z as F H σ ρ μ Q E Q' R X h k =>
  a Z as F H σ ρ μ _ E _ R X h fun v d μ1 as1 F1 H1 g1 R1 r1 h1 => by
    have h1 : dIsO K C d μ1 Q := h1
    unfold dIsO at h1
    cases z : tyOf μ1 d with
    | none => rw [z] at h1; exact h1.elim
    | some t =>
      rw [z] at h1
      have go : ∀ b, PySem.W.kitOne K (tyVal t) (.ref C) = some b → TyOk K t → Q (.bl b) μ1 → rIsi K [v, .ref C] H1 Q' := fun b hb ok q => ⟨v, .ref C, tyVal t, .ref C, b, rfl, .own C, ty_of R1.mm r1 z ok, hb, k _ _ μ1 as1 F1 H1 g1 R1 (.bl _) q⟩
      cases t with
      | own C' =>
        obtain ⟨o, b, hb, q⟩ := h1
        exact go b hb o q
      | _ => exact go false (kt.b _ (by intro C z; cases z)) True.intro h1
theorem call_isiA {X : Cx} (hK : X.K = K) : CallR X (.builtin "isinstance") (rIsi K) := hK ▸ call_isi
/-! int, bool -/
def dInt : DC := one fun x μ Q => match x with
  | .int i => Q (.int i) μ
  | .bl b => Q (.int (if b then 1 else 0)) μ
  | _ => False
theorem sim_int : SimC K (fun xs H Q => (∃ i, xs = [.int i] ∧ Q (.int i) H) ∨ ∃ k, xs = [.bl k] ∧ Q (.int (if k then 1 else 0)) H) dInt := simC_one fun Z as F H μ v d Q Q' M r z k => by
  cases r <;> try exact z.elim
  · exact .inr ⟨_, rfl, k _ _ μ as F H Gr.refl M (.int _) z⟩
  · exact .inl ⟨_, rfl, k _ _ μ as F H Gr.refl M (.int _) z⟩
/-! list(x), tuple(x) -/
def dList (m : Bool) : DC := one fun x μ Q => match view μ x with
  | .lst xs => if m = true then Q (.ob μ.length) (μ ++ [.lst xs]) else Q (.lst xs) μ
  | .tup xs => if m = true then Q (.ob μ.length) (μ ++ [.lst xs]) else Q (.lst xs) μ
  | _ => False
def rList (K : PySem.W.Frag) : List V → Hp → VK → Prop := fun xs H Q => ∃ p ys, xs = [.ref p] ∧ (SqL K H p ys ∨ SqT K H p ys) ∧ ∀ l, H l = none → Q (.ref l) (upd H l (.lst ys))
theorem call_listA {X : Cx} (hK : X.K = K) : CallR X (.type "list") (rList K) := hK ▸ call_list_of
theorem new_lst {μ : Mem} (M : Mm K Z as F H μ) {vs : List V} {ds : List D} (x : RepL K as F vs ds) {m : Bool} {Q : D → Mem → Prop} {Q' : VK} (q : if m = true then Q (.ob μ.length) (μ ++ [.lst ds]) else Q (.lst ds) μ)
    (k : ∀ v d' μ' as' F' H', Gr as F as' F' → Mm K Z as' F' H' μ' → Rep K as' F' v d' → Q d' μ' → Q' v H') : ∀ l, H l = none → Q' (.ref l) (upd H l (.lst vs)) := fun l nl => by
  cases m with
  | true =>
    rw [if_pos rfl] at q
    exact k _ _ _ _ F _ Gr.add (M.addM (m := .lst ds) nl ⟨vs, upd_same, x.up Gr.add⟩) (rep_ob M.len) q
  | false =>
    rw [if_neg Bool.false_ne_true] at q
    have g := Gr.upd (as := as) (o := .lst vs) (M.newF nl)
    exact k _ _ μ as _ _ g (M.addF nl) (.lst upd_same (x.up g)) q
theorem sim_list (m : Bool) : SimC K (rList K) (dList m) := simC_one fun Z as F H μ v d Q Q' M r z k => by
  cases e : view μ d with
  | lst xs =>
    rw [e] at z
    obtain ⟨a, vs, rfl, q, x⟩ := view_lst M r e
    exact ⟨a, vs, rfl, .inl q, new_lst M x z k⟩
  | tup xs =>
    rw [e] at z
    obtain ⟨a, vs, rfl, q, x⟩ := view_tup M r e
    exact ⟨a, vs, rfl, .inr q, new_lst M x z k⟩
  | _ => rw [e] at z; exact z.elim
def dTuple : DC := one fun x μ Q => match view μ x with
  | .lst xs => Q (.tup xs) μ
  | .tup _ => Q x μ
  | _ => False
def rTuple (K : PySem.W.Frag) : List V → Hp → VK → Prop := fun xs H Q => ∃ p ys, xs = [.ref p] ∧ ((SqL K H p ys ∧ ∀ l, H l = none → Q (.ref l) (upd H l (.tup ys))) ∨ (SqT K H p ys ∧ Q (.ref p) H))
theorem call_tupleA {X : Cx} (hK : X.K = K) : CallR X (.type "tuple") (rTuple K) := hK ▸ call_tuple_of
theorem sim_tuple : SimC K (rTuple K) dTuple := simC_one fun Z as F H μ v d Q Q' M r z k => by
  cases e : view μ d with
  | lst xs =>
    rw [e] at z
    obtain ⟨a, vs, rfl, q, x⟩ := view_lst M r e
    refine ⟨a, vs, rfl, .inl ⟨q, fun l nl => ?_⟩⟩
    have g := Gr.upd (as := as) (o := .tup vs) (M.newF nl)
    exact k _ _ μ as _ _ g (M.addF nl) (.tup upd_same (x.up g)) z
  | tup xs =>
    rw [e] at z
    obtain ⟨a, vs, rfl, q, x⟩ := view_tup M r e
    exact ⟨a, vs, rfl, .inr ⟨q, k _ _ μ as F H Gr.refl M r z⟩⟩
  | _ => rw [e] at z; exact z.elim
/-! sum, any, all -/
theorem ints_rep : ∀ {vs : List V} {ns : List Int}, RepL K as F vs (ns.map D.int) → vs = ns.map V.int
  | [], [], _ => rfl
  | _, _ :: _, .cons (.int _) r => by rw [ints_rep r]; rfl
theorem bls_rep : ∀ {vs : List V} {ns : List Bool}, RepL K as F vs (ns.map D.bl) → vs = ns.map V.bl
  | [], [], _ => rfl
  | _, _ :: _, .cons (.bl _) r => by rw [bls_rep r]; rfl
theorem strs_rep : ∀ {vs : List V} {ns : List Str}, RepL K as F vs (ns.map D.str) → vs = ns.map V.str
  | [], [], _ => rfl
  | _, _ :: _, .cons (.str _) r => by rw [strs_rep r]; rfl
theorem rep_strs : ∀ ns : List Str, RepL K as F (ns.map V.str) (ns.map D.str)
  | [] => .nil
  | _ :: r => .cons (.str _) (rep_strs r)
def dSum : DC := one fun x μ Q => ∃ ns : List Int, view μ x = .lst (ns.map .int) ∧ Q (.int ns.sum) μ
def dAny : DC := one fun x μ Q => ∃ bs : List Bool, view μ x = .lst (bs.map .bl) ∧ Q (.bl (bs.any id)) μ
def dAll : DC := one fun x μ Q => ∃ bs : List Bool, view μ x = .lst (bs.map .bl) ∧ Q (.bl (bs.all id)) μ
theorem sim_sum : SimC K (rSum K) dSum := simC_one fun Z as F H μ v d Q Q' M r z k => by
  obtain ⟨ns, e, z⟩ := z
  obtain ⟨a, vs, rfl, q, x⟩ := view_lst M r e
  cases ints_rep x
  exact ⟨a, ns, rfl, q, k _ _ μ as F H Gr.refl M (.int _) z⟩
theorem sim_any : SimC K (rAny K) dAny := simC_one fun Z as F H μ v d Q Q' M r z k => by
  obtain ⟨ns, e, z⟩ := z
  obtain ⟨a, vs, rfl, q, x⟩ := view_lst M r e
  cases bls_rep x
  exact ⟨a, ns, rfl, q, k _ _ μ as F H Gr.refl M (.bl _) z⟩
theorem sim_all : SimC K (rAll K) dAll := simC_one fun Z as F H μ v d Q Q' M r z k => by
  obtain ⟨ns, e, z⟩ := z
  obtain ⟨a, vs, rfl, q, x⟩ := view_lst M r e
  cases bls_rep x
  exact ⟨a, ns, rfl, q, k _ _ μ as F H Gr.refl M (.bl _) z⟩
theorem call_sumA {X : Cx} (hc : X.calm = true) (hK : X.K = K) : CallR X (.builtin "sum") (rSum K) := hK ▸ cr_sum hc
theorem call_anyA {X : Cx} (hc : X.calm = true) (hK : X.K = K) : CallR X (.builtin "any") (rAny K) := hK ▸ cr_any hc
theorem call_allA {X : Cx} (hc : X.calm = true) (hK : X.K = K) : CallR X (.builtin "all") (rAll K) := hK ▸ cr_all hc
/-! repr -/
def rRepr (K : PySem.W.Frag) : List V → Hp → VK → Prop := fun xs H Q => ∃ v d, xs = [v] ∧ Dp K H v d ∧ Gd.okShow d = true ∧ Q (.str d.shown) H
def dRepr : DC := one fun x μ Q => ∃ p, toP (view μ x) = some p ∧ Gd.okShow p = true ∧ Q (.str p.shown) μ
theorem sim_repr : SimC K (rRepr K) dRepr := simC_one fun Z as F H μ v d Q Q' M r z k => by
  obtain ⟨p, e, o, z⟩ := z
  exact ⟨v, p, rfl, view_dp M r e, o, k _ _ μ as F H Gr.refl M (.str _) z⟩
theorem call_reprA {X : Cx} (g : Gd.Calm0 X.A) (hu : X.A.units + 64 < cLine) (hK : X.K = K) : CallR X (.builtin "repr") (rRepr K) := hK ▸ Gd.call_reprD g hu
/-! ### methods of built-in types -/
abbrev DM := D → List D → Mem → (D → Mem → Prop) → Prop
def SimM (K : PySem.W.Frag) (r : V → List V → Hp → VK → Prop) (dm : DM) : Prop := ∀ (Z : Hp) (as : List Addr) (F H : Hp) (μ : Mem) (v : V) (d : D) (vs : List V) (ds : List D) (Q : D → Mem → Prop) (Q' : VK), Mm K Z as F H μ → Rep K as F v d → RepL K as F vs ds → dm d ds μ Q →
  (∀ v d' μ' as' F' H', Gr as F as' F' → Mm K Z as' F' H' μ' → Rep K as' F' v d' → Q d' μ' → Q' v H') → r v vs H Q'
/-- the receiver is a list -/
def isLst (μ : Mem) (d : D) : Prop := match view μ d with
  | .lst _ => True
  | _ => False
def uBM (dm : DM) (uo : DTE) (ua : DTA) : DTE := fun ρ μ Q E => uo ρ μ (fun x μ1 => isLst μ1 x ∧ ua ρ μ1 (fun ds μ2 => dm x ds μ2 Q) E) E
theorem lst_ty {μ : Mem} (M : Mm K Z as F H μ) {v : V} {d : D} (r : Rep K as F v d) (h : isLst μ d) : tyV K "list" v H := by
  unfold isLst at h
  cases e : view μ d with
  | lst xs =>
    obtain ⟨a, vs, rfl, q, x⟩ := view_lst M r e
    exact .inl ⟨rfl, vs, q⟩
  | _ => rw [e] at h; exact h.elim
theorem sim_bm {r : V → List V → Hp → VK → Prop} {dm : DM} {to : TE} {uo : DTE} {t : TA} {u : DTA} (s : SimM K r dm) (o : Sim K Ex to uo) (a : SimA K Ex t u) : Sim K Ex (tBM K "list" r to t) (uBM dm uo u) := fun Z as F H σ ρ μ Q E Q' R X h k =>
  o Z as F H σ ρ μ _ E _ R X h fun v d μ1 as1 F1 H1 g1 R1 r1 h1 => ⟨lst_ty R1.mm r1 h1.1, a Z as1 F1 H1 σ ρ μ1 _ E _ R1 (X.up g1) h1.2 fun vs ds μ2 as2 F2 H2 g2 R2 r2 h2 =>
    s Z as2 F2 H2 μ2 v d vs ds Q Q' R2.mm (r1.up g2) r2 h2 fun v d' μ' as' F' H' g3 M3 r3 q => k v d' μ' as' F' H' ((g1.trans g2).trans g3) (R2.up g3 M3) r3 q⟩
theorem sim_bm0 {r : V → List V → Hp → VK → Prop} {dm : DM} {to : TE} {uo : DTE} (s : SimM K r dm) (o : Sim K Ex to uo) : Sim K Ex (tBM0 K "list" r to) (uBM dm uo uNil) := fun Z as F H σ ρ μ Q E Q' R X h k =>
  o Z as F H σ ρ μ _ E _ R X h fun v d μ1 as1 F1 H1 g1 R1 r1 h1 => ⟨lst_ty R1.mm r1 h1.1, s Z as1 F1 H1 μ1 v d [] [] Q Q' R1.mm r1 .nil h1.2 fun v d' μ' as' F' H' g3 M3 r3 q => k v d' μ' as' F' H' (g1.trans g3) (R1.up g3 M3) r3 q⟩
def dAppend : DM := fun x ds μ Q => match x, ds with
  | .ob k, [y] => match μ[k]? with
    | some (.lst xs) => xs.length < sizeLine ∧ Q .non (μ.set k (.lst (xs ++ [y])))
    | _ => False
  | _, _ => False
theorem sim_append : SimM K rAppend dAppend := fun Z as F H μ v d vs ds Q Q' M r rs z k => by
  unfold dAppend at z
  split at z
  · rename_i n y
    cases r with
    | ob q =>
      rename_i a
      match vs, rs with
      | _, .cons ry .nil =>
        cases e : μ[n]? with
        | none => rw [e] at z; exact z.elim
        | some m =>
          rw [e] at z
          obtain ⟨b, hb, w⟩ := M.at_ n m e
          obtain rfl := Option.some.inj (q.symm.trans hb)
          cases m with
          | lst xs =>
            obtain ⟨us, e1, e2⟩ := w
            refine ⟨a, us, _, rfl, rfl, e1, by rw [e2.len]; exact z.1, ?_⟩
            exact k _ _ _ as F _ Gr.refl (M.put (m := .lst (xs ++ [y])) q ⟨_, upd_same, e2.append (.cons ry .nil)⟩) .non z.2
          | _ => exact z.elim
  · exact z.elim
def dExtend : DM := fun x ds μ Q => match x, ds with
  | .ob k, [y] => match μ[k]?, viewT μ y with
    | some (.lst xs), .lst ys => xs.length + ys.length ≤ sizeLine ∧ Q .non (μ.set k (.lst (xs ++ ys)))
    | _, _ => False
  | _, _ => False
theorem sim_extend : SimM K rExtend dExtend := fun Z as F H μ v d vs ds Q Q' M r rs z k => by
  unfold dExtend at z
  split at z
  · rename_i n y
    cases r with
    | ob q =>
      rename_i a
      match vs, rs with
      | _, .cons ry .nil =>
        cases e : μ[n]? with
        | none => rw [e] at z; exact z.elim
        | some m =>
          rw [e] at z
          obtain ⟨b, hb, w⟩ := M.at_ n m e
          obtain rfl := Option.some.inj (q.symm.trans hb)
          cases m with
          | lst xs =>
            obtain ⟨us, e1, e2⟩ := w
            cases ey : viewT μ y with
            | lst ys =>
              rw [ey] at z
              obtain ⟨c, ws, rfl, e3, e4⟩ := viewT_lst M ry ey
              refine ⟨a, c, us, ws, rfl, rfl, e1, e3, by rw [e2.len, e4.len]; exact z.1, ?_⟩
              exact k _ _ _ as F _ Gr.refl (M.put (m := .lst (xs ++ ys)) q ⟨_, upd_same, e2.append e4⟩) .non z.2
            | _ => rw [ey] at z; exact z.elim
          | _ => exact z.elim
  · exact z.elim
/-- the first place of y -/
def dindex (ds : List D) (y : D) : Option Nat := ds.findIdx? fun e => deqv e y
def dIndex : DM := fun x ds μ Q => match view μ x, ds with
  | .lst xs, [y] => (dflat y && xs.all dflat) = true ∧ (match dindex xs y with
    | some j => Q (.int (j : Nat)) μ
    | none => False)
  | _, _ => False
theorem mt_indexA {X : Cx} (hK : X.K = K) : MtR X "list.index" (rIndex K) := hK ▸ mt_index
theorem sim_index : SimM K (rIndex K) dIndex := fun Z as F H μ v d vs ds Q Q' M r rs z k => by
  unfold dIndex at z
  split at z
  · rename_i xs y e
    obtain ⟨a, us, rfl, q, x⟩ := view_lst M r e
    match vs, rs with
    | _, .cons (v := vy) ry .nil =>
      obtain ⟨fl, z⟩ := z
      rw [Bool.and_eq_true] at fl
      have lay := fl.2
      cases hj : dindex xs y with
      | none => rw [hj] at z; exact z.elim
      | some j =>
        rw [hj] at z
        unfold dindex at hj
        rw [List.findIdx?_eq_some_iff_getElem] at hj
        obtain ⟨h1, h2, h3⟩ := hj
        obtain ⟨w, w1, w2⟩ := x.get (List.getElem?_eq_getElem h1)
        have fx : ∀ {i : Nat} {d : D}, xs[i]? = some d → dflat d = true := fun {i d} h => List.all_eq_true.mp lay d (List.mem_of_getElem? h)
        refine ⟨a, us, vy, j, w, rfl, rfl, q, flat_rep ry fl.1, flat_all x fl.2, w1, ?_, fun m w' hm hw' => ?_, k _ _ μ as F H Gr.refl M (.int _) z⟩
        · rw [flat_eqV w2 ry (fx (List.getElem?_eq_getElem h1)) fl.1]
          exact h2
        · obtain ⟨d', d1, d2⟩ := x.get' hw'
          rw [flat_eqV d2 ry (fx d1) fl.1]
          have hlt : m < xs.length := (List.getElem?_eq_some_iff.mp d1).1
          have := h3 m hm
          rw [List.getElem?_eq_getElem hlt] at d1
          cases d1
          simpa using this
  · exact z.elim
/-! ### methods of texts -/
def uM1 (dm : DM) (uo ue : DTE) : DTE := fun ρ μ Q E => uo ρ μ (fun x μ1 => (match x with | .str _ => True | _ => False) ∧ ue ρ μ1 (fun y μ2 => dm x [y] μ2 Q) E) E
theorem sim_m1 {r : V → List V → Hp → VK → Prop} {dm : DM} {to te : TE} {uo ue : DTE} (s : SimM K r dm) (o : Sim K Ex to uo) (a : Sim K Ex te ue) : Sim K Ex (tM1 r to te) (uM1 dm uo ue) := fun Z as F H σ ρ μ Q E Q' R X h k =>
  o Z as F H σ ρ μ _ E _ R X h fun v d μ1 as1 F1 H1 g1 R1 r1 h1 => ⟨(by cases r1 <;> first | exact ⟨_, rfl⟩ | exact h1.1.elim), a Z as1 F1 H1 σ ρ μ1 _ E _ R1 (X.up g1) h1.2 fun v2 d2 μ2 as2 F2 H2 g2 R2 r2 h2 =>
    s Z as2 F2 H2 μ2 v d [v2] [d2] Q Q' R2.mm (r1.up g2) (.cons r2 .nil) h2 fun v d' μ' as' F' H' g3 M3 r3 q => k v d' μ' as' F' H' ((g1.trans g2).trans g3) (R2.up g3 M3) r3 q⟩
def rSplit : V → List V → Hp → VK → Prop := fun x xs H Q => ∃ a b, x = .str a ∧ xs = [.str b] ∧ (b.length == 0) = false ∧ a.length + 2 ≤ sizeLine ∧ rNewStrs (Txt.split a b) H Q
def dSplit : DM := fun x ds μ Q => match x, ds with
  | .str a, [.str b] => (b.length == 0) = false ∧ a.length + 2 ≤ sizeLine ∧ Q (.lst ((Txt.split a b).map .str)) μ
  | _, _ => False
theorem sim_split : SimM K rSplit dSplit := fun Z as F H μ v d vs ds Q Q' M r rs z k => by
  unfold dSplit at z
  split at z
  · rename_i wa wb
    cases r
    match vs, rs with
    | _, .cons (.str _) .nil =>
      refine ⟨_, _, rfl, rfl, z.1, z.2.1, fun p np => ?_⟩
      have g := Gr.upd (as := as) (o := .lst ((Txt.split wa wb).map V.str)) (M.newF np)
      exact k _ _ μ as _ _ g (M.addF np) (.lst upd_same (rep_strs _)) z.2.2
  · exact z.elim
def rJoin (K : PySem.W.Frag) : V → List V → Hp → VK → Prop := fun x xs H Q => ∃ a p, ∃ ys : List Str, x = .str a ∧ xs = [.ref p] ∧ (SqL K H p (ys.map V.str) ∨ SqT K H p (ys.map V.str)) ∧ (ys.map (·.length)).sum + ys.length * a.length ≤ 16777216 ∧ Q (.str (Txt.join a ys)) H
def dJoin : DM := fun x ds μ Q => match x, ds with
  | .str a, [y] => ∃ ys : List Str, (view μ y = .lst (ys.map .str) ∨ view μ y = .tup (ys.map .str)) ∧ (ys.map (·.length)).sum + ys.length * a.length ≤ 16777216 ∧ Q (.str (Txt.join a ys)) μ
  | _, _ => False
theorem mt_joinA {X : Cx} (hK : X.K = K) : MtR X "str.join" (rJoin K) := hK ▸ mt_join
theorem sim_join : SimM K (rJoin K) dJoin := fun Z as F H μ v d vs ds Q Q' M r rs z k => by
  unfold dJoin at z
  split at z
  · cases r
    obtain ⟨ys, e, hz, z⟩ := z
    match vs, rs with
    | _, .cons ry .nil =>
      rcases e with e | e
      · obtain ⟨a, us, rfl, q, x⟩ := view_lst M ry e
        cases strs_rep x
        exact ⟨_, a, ys, rfl, rfl, .inl q, hz, k _ _ μ as F H Gr.refl M (.str _) z⟩
      · obtain ⟨a, us, rfl, q, x⟩ := view_tup M ry e
        cases strs_rep x
        exact ⟨_, a, ys, rfl, rfl, .inr q, hz, k _ _ μ as F H Gr.refl M (.str _) z⟩
  · exact z.elim
end
end DX
set_option Elab.async false
set_option linter.all false
set_option maxRecDepth 100000
set_option maxHeartbeats 4000000
namespace DX
open PySem PySem.Spec PyProof.Rows L2
/-! ### what was made within is frozen at the end -/
mutual
/-- names no object from n on -/
def cld (n : Nat) : D → Bool
  | .lst xs => cldL n xs
  | .tup xs => cldL n xs
  | .kt xs => cldL n xs
  | .kl xs => cldL n xs
  | .ins _ fs => cldF n fs
  | .dic kvs => cldK n kvs
  | .kd kvs => cldK n kvs
  | .fd kvs => cldK n kvs
  | .exc _ _ _ fs => cldF n fs
  | .ob k => decide (k < n)
  | _ => true
def cldL (n : Nat) : List D → Bool
  | [] => true
  | x :: xs => cld n x && cldL n xs
def cldF (n : Nat) : List (Str × D) → Bool
  | [] => true
  | (_, x) :: xs => cld n x && cldF n xs
def cldK (n : Nat) : List (Key × D) → Bool
  | [] => true
  | (_, x) :: xs => cld n x && cldK n xs
end
def cldM (n : Nat) : M → Bool
  | .lst xs => cldL n xs
  | .ins _ fs => cldF n fs
  | .dic kvs => cldK n kvs
section
variable {K : PySem.W.Frag} {Z : Hp} {as as' as1 : List Addr} {F F' F1 H H' H1 : Hp}
mutual
theorem Rep.cut {bs : List Addr} {n : Nat} (hb : ∀ (k : Nat) (a : Addr), k < n → as[k]? = some a → bs[k]? = some a) : ∀ {v : V} {d : D}, Rep K as F v d → cld n d = true → Rep K bs F v d
  | _, _, .non, _ => .non
  | _, _, .bl b, _ => .bl b
  | _, _, .int b, _ => .int b
  | _, _, .str b, _ => .str b
  | _, _, .byt b, _ => .byt b
  | _, _, .lst h r, c => .lst h (RepL.cut hb r c)
  | _, _, .tup h r, c => .tup h (RepL.cut hb r c)
  | _, _, .kt h r, c => .kt h (RepL.cut hb r c)
  | _, _, .kl h r, c => .kl h (RepL.cut hb r c)
  | _, _, .ins h r, c => .ins h (RepF.cut hb r c)
  | _, _, .dic h r, c => .dic h (RepK.cut hb r c)
  | _, _, .kd h r, c => .kd h (RepK.cut hb r c)
  | _, _, .fd h r, c => .fd h (RepK.cut hb r c)
  | _, _, .val v, _ => .val v
  | _, _, .ob h, c => .ob (hb _ _ (of_decide_eq_true c) h)
  | _, _, .exc0, _ => .exc0
  | _, _, .exc h r, c => .exc h (RepF.cut hb r c)
theorem RepL.cut {bs : List Addr} {n : Nat} (hb : ∀ (k : Nat) (a : Addr), k < n → as[k]? = some a → bs[k]? = some a) : ∀ {vs : List V} {ds : List D}, RepL K as F vs ds → cldL n ds = true → RepL K bs F vs ds
  | _, _, .nil, _ => .nil
  | _, _, .cons (d := d) (ds := ds) h r, c => by
    have c : (cld n d && cldL n ds) = true := c
    rw [Bool.and_eq_true] at c
    exact .cons (Rep.cut hb h c.1) (RepL.cut hb r c.2)
theorem RepF.cut {bs : List Addr} {n : Nat} (hb : ∀ (k : Nat) (a : Addr), k < n → as[k]? = some a → bs[k]? = some a) : ∀ {vs : List (Str × V)} {ds : List (Str × D)}, RepF K as F vs ds → cldF n ds = true → RepF K bs F vs ds
  | _, _, .nil, _ => .nil
  | _, _, .cons (d := d) (ds := ds) h r, c => by
    have c : (cld n d && cldF n ds) = true := c
    rw [Bool.and_eq_true] at c
    exact .cons (Rep.cut hb h c.1) (RepF.cut hb r c.2)
theorem RepK.cut {bs : List Addr} {n : Nat} (hb : ∀ (k : Nat) (a : Addr), k < n → as[k]? = some a → bs[k]? = some a) : ∀ {vs : List (Key × V)} {ds : List (Key × D)}, RepK K as F vs ds → cldK n ds = true → RepK K bs F vs ds
  | _, _, .nil, _ => .nil
  | _, _, .cons (d := d) (ds := ds) h r, c => by
    have c : (cld n d && cldK n ds) = true := c
    rw [Bool.and_eq_true] at c
    exact .cons (Rep.cut hb h c.1) (RepK.cut hb r c.2)
end
mutual
theorem Rep.cld {v : V} : ∀ {d : D}, Rep K as F v d → cld as.length d = true
  | _, .non => rfl
  | _, .bl b => rfl
  | _, .int b => rfl
  | _, .str b => rfl
  | _, .byt b => rfl
  | _, .lst h r => RepL.cld r
  | _, .tup h r => RepL.cld r
  | _, .kt h r => RepL.cld r
  | _, .kl h r => RepL.cld r
  | _, .ins h r => RepF.cld r
  | _, .dic h r => RepK.cld r
  | _, .kd h r => RepK.cld r
  | _, .fd h r => RepK.cld r
  | _, .val v => rfl
  | _, .ob h => decide_eq_true (List.getElem?_eq_some_iff.mp h).1
  | _, .exc0 => rfl
  | _, .exc h r => RepF.cld r
theorem RepL.cld : ∀ {vs : List V} {ds : List D}, RepL K as F vs ds → cldL as.length ds = true
  | _, _, .nil => rfl
  | _, _, .cons (d := d) (ds := ds) h r => by
    show (DX.cld as.length d && cldL as.length ds) = true
    rw [Rep.cld h, RepL.cld r]; rfl
theorem RepF.cld : ∀ {vs : List (Str × V)} {ds : List (Str × D)}, RepF K as F vs ds → cldF as.length ds = true
  | _, _, .nil => rfl
  | _, _, .cons (d := d) (ds := ds) h r => by
    show (DX.cld as.length d && cldF as.length ds) = true
    rw [Rep.cld h, RepF.cld r]; rfl
theorem RepK.cld : ∀ {vs : List (Key × V)} {ds : List (Key × D)}, RepK K as F vs ds → cldK as.length ds = true
  | _, _, .nil => rfl
  | _, _, .cons (d := d) (ds := ds) h r => by
    show (DX.cld as.length d && cldK as.length ds) = true
    rw [Rep.cld h, RepK.cld r]; rfl
end
theorem MAt.cld {a : Addr} {m : M} (h : MAt K as F H a m) : cldM as.length m = true := by
  cases m with
  | lst ds => obtain ⟨vs, e, r⟩ := h; exact r.cld
  | ins C gs => obtain ⟨dx, fs, e, r⟩ := h; exact r.cld
  | dic kvs => obtain ⟨ks, e, r⟩ := h; exact r.cld
theorem MAt.cut {bs : List Addr} {n : Nat} (hb : ∀ (k : Nat) (a : Addr), k < n → as[k]? = Option.some a → bs[k]? = Option.some a) {a : Addr} {m : M} (h : MAt K as F H a m) (c : cldM n m = true) : MAt K bs F H a m := by
  cases m with
  | lst ds => obtain ⟨vs, e, r⟩ := h; exact ⟨vs, e, r.cut hb c⟩
  | ins C gs => obtain ⟨dx, fs, e, r⟩ := h; exact ⟨dx, fs, e, r.cut hb c⟩
  | dic kvs => obtain ⟨ks, e, r⟩ := h; exact ⟨ks, e, r.cut hb c⟩
/-- each object below n: as it was, or naming none from n on -/
def stays (n : Nat) (μ0 μ : Mem) : Prop := n ≤ μ.length ∧ ∀ (k : Nat) (m : M), k < n → μ[k]? = some m → μ0[k]? = some m ∨ cldM n m = true
/-- the frozen heap with all objects from n on in it -/
def frz (F H : Hp) (bs : List Addr) : Hp := fun a => if a ∈ bs then H a else F a
theorem frz_in {bs : List Addr} {a : Addr} (h : a ∈ bs) : frz F H bs a = H a := if_pos h
theorem frz_out {bs : List Addr} {a : Addr} (h : a ∉ bs) : frz F H bs a = F a := if_neg h
/-- what was made from n on is frozen -/
theorem Mm.freeze {μ : Mem} (M : Mm K Z as F H μ) {n : Nat} (hn : n ≤ μ.length) (hc : ∀ (k : Nat) (m : DX.M), k < n → μ[k]? = some m → cldM n m = true) :
    Mm K Z (as.take n) (frz F H (as.drop n)) H (μ.take n) ∧ Same F (frz F H (as.drop n)) := by
  have sf : Same F (frz F H (as.drop n)) := fun b o e => by
    by_cases hb : b ∈ as.drop n
    · rw [M.fr b (List.mem_of_mem_drop hb)] at e; cases e
    · rw [frz_out hb]; exact e
  have nd := M.nd
  have split : as = as.take n ++ as.drop n := (List.take_append_drop n as).symm
  have ndd : (as.take n ++ as.drop n).Nodup := by rw [← split]; exact nd
  refine ⟨⟨fun b o e => ?_, by rw [List.length_take, List.length_take, M.len], nd.sublist (List.take_sublist _ _), fun a ha => ?_, fun k m e => ?_, fun a o e => ?_⟩, sf⟩
  · by_cases hb : b ∈ as.drop n
    · rw [frz_in hb] at e; exact e
    · rw [frz_out hb] at e; exact M.same _ _ e
  · have : a ∉ as.drop n := fun h => (List.nodup_append.mp ndd).2.2 a ha a h rfl
    rw [frz_out this]
    exact M.fr a (List.mem_of_mem_take ha)
  · have hk : k < n := by
      have := (List.getElem?_eq_some_iff.mp e).1
      rw [List.length_take] at this
      omega
    rw [List.getElem?_take_of_lt hk] at e
    obtain ⟨a, ha, x⟩ := M.at_ k m e
    have ha' : (as.take n)[k]? = some a := by rw [List.getElem?_take_of_lt hk]; exact ha
    refine ⟨a, ha', ?_⟩
    have y := x.up (as' := as) (F' := frz F H (as.drop n)) (H' := H) ⟨sf, fun _ _ e => e⟩ rfl
    exact y.cut (fun k a hk h => by rw [List.getElem?_take_of_lt hk]; exact h) (hc k m hk e)
  · obtain ⟨e1, e2, e3⟩ := M.hid a o e
    exact ⟨e1, by rw [frz_out fun h => e3 (List.mem_of_mem_drop h)]; exact e2, fun h => e3 (List.mem_of_mem_take h)⟩
/-- data with the objects from n on told by their content -/
def fz (μ : Mem) (n : Nat) : Nat → D → D
  | 0, d => d
  | f + 1, .ob k => if k < n then .ob k else match μ[k]? with
    | some (.lst ds) => .lst (ds.map (fz μ n f))
    | some (.ins C fs) => .ins C (fs.map fun p => (p.1, fz μ n f p.2))
    | some (.dic kvs) => .dic (kvs.map fun p => (p.1, fz μ n f p.2))
    | _ => .ob k
  | f + 1, .lst ds => .lst (ds.map (fz μ n f))
  | f + 1, .tup ds => .tup (ds.map (fz μ n f))
  | _ + 1, d => d
theorem fz_rep {μ : Mem} (M : Mm K Z as F H μ) {n : Nat} (sf : Same F (frz F H (as.drop n))) : ∀ (f : Nat) {v : V} {d : D}, Rep K as F v d → Rep K as (frz F H (as.drop n)) v (fz μ n f d)
  | 0, v, d, r => r.up ⟨sf, fun _ _ e => e⟩
  | f + 1, v, d, r => by
    have up : Gr as F as (frz F H (as.drop n)) := ⟨sf, fun _ _ e => e⟩
    have all : ∀ {vs : List V} {ds : List D}, RepL K as F vs ds → RepL K as (frz F H (as.drop n)) vs (ds.map (fz μ n f)) := fun {vs ds} r => by
      induction ds generalizing vs with
      | nil => cases r; exact .nil
      | cons d ds ih => cases r with | cons h t => exact .cons (fz_rep M sf f h) (ih t)
    have allF : ∀ {vs : List (Str × V)} {ds : List (Str × D)}, RepF K as F vs ds → RepF K as (frz F H (as.drop n)) vs (ds.map fun p => (p.1, fz μ n f p.2)) := fun {vs ds} r => by
      induction ds generalizing vs with
      | nil => cases r; exact .nil
      | cons d ds ih => cases r with | cons h t => exact .cons (fz_rep M sf f h) (ih t)
    have allK : ∀ {vs : List (Key × V)} {ds : List (Key × D)}, RepK K as F vs ds → RepK K as (frz F H (as.drop n)) vs (ds.map fun p => (p.1, fz μ n f p.2)) := fun {vs ds} r => by
      induction ds generalizing vs with
      | nil => cases r; exact .nil
      | cons d ds ih => cases r with | cons h t => exact .cons (fz_rep M sf f h) (ih t)
    cases r with
    | lst e r => exact .lst (sf _ _ e) (all r)
    | tup e r => exact .tup (sf _ _ e) (all r)
    | ob q =>
      rename_i k a
      show Rep K as (frz F H (as.drop n)) (.ref a) (if k < n then .ob k else match μ[k]? with
        | some (.lst ds) => .lst (ds.map (fz μ n f))
        | some (.ins C fs) => .ins C (fs.map fun p => (p.1, fz μ n f p.2))
        | some (.dic kvs) => .dic (kvs.map fun p => (p.1, fz μ n f p.2))
        | _ => .ob k)
      by_cases hk : k < n
      · rw [if_pos hk]; exact .ob q
      · rw [if_neg hk]
        have hin : a ∈ as.drop n := by
          refine List.mem_of_getElem? (i := k - n) ?_
          rw [List.getElem?_drop]
          rw [show n + (k - n) = k by omega]
          exact q
        cases z : μ[k]? with
        | none => exact .ob q
        | some m =>
          obtain ⟨b, hb, y⟩ := M.at_ k m z
          obtain rfl := Option.some.inj (q.symm.trans hb)
          cases m with
          | lst ds => obtain ⟨vs, e1, e2⟩ := y; exact .lst (by rw [frz_in hin]; exact e1) (all e2)
          | ins C fs => obtain ⟨dx, vs, e1, e2⟩ := y; exact .ins (by rw [frz_in hin]; exact e1) (allF e2)
          | dic kv => obtain ⟨vs, e1, e2⟩ := y; exact .dic (by rw [frz_in hin]; exact e1) (allK e2)
    | non => exact .non
    | bl b => exact .bl b
    | int b => exact .int b
    | str b => exact .str b
    | byt b => exact .byt b
    | kl e r => exact Rep.up up (.kl e r)
    | kt e r => exact Rep.up up (.kt e r)
    | ins e r => exact Rep.up up (.ins e r)
    | dic e r => exact Rep.up up (.dic e r)
    | kd e r => exact Rep.up up (.kd e r)
    | fd e r => exact Rep.up up (.fd e r)
    | val v => exact .val v
    | exc0 => exact .exc0
    | exc e r => exact Rep.up up (.exc e r)
end
end DX
set_option Elab.async false
set_option linter.all false
set_option maxRecDepth 100000
set_option maxHeartbeats 2000000
/-! own operators, static methods, an own class called with a star -/
namespace Vx
open PySem PySem.Spec PyProof.Rows L2
section
variable {P : Program} {w : World} {K : PySem.W.Frag} {mg : Str → Option Value} {base : Heap} {CX : CXT} {k : Nat} {f : Addr} {fd : FuncData} {ps : List Str} {sp : Sp}
theorem fnR (F : FnOk P w K mg base CX k f fd ps sp) (hb : L2.Binds K fd ps []) : FnR P w K mg base CX k f sp := by
  intro A outer s H us vs Q E hr e0 r hsp
  have hl := F.len _ _ _ _ hsp
  have KX : K.In s.heap := e0.mod.kin.keeps fun b o e => (e0.bs b o e).1
  refine F.run A outer s H ⟨us, []⟩ us vs Q E hr e0 ?_ r hsp
  have := hb s us KX (by rw [List.append_nil, ← r.length]; exact hl)
  simpa using this
end
section
variable {X : Cx} {CX : CXT} {k : Nat} {C f : Addr} {sp : Sp} {E : XK} {pins : List (Addr × Obj)} {σ : L2.St} {H : Hp} {s : Shared} {Q : VK}
theorem cmpBack_of {v : Value} {s' : Shared} (h : EP X pins σ Q v s') : PySem.W.CmpBack (EP X pins σ Q) v s' := by
  cases v with
  | notImplemented =>
    obtain ⟨v', H', I', r, q⟩ := h
    cases v' with
    | int i => obtain ⟨t, e⟩ := r; cases e
    | str i => obtain ⟨t, e⟩ := r; cases e
    | byt i => obtain ⟨t, e⟩ := r; cases e
    | flt i => obtain ⟨t, e⟩ := r; cases e
    | non => cases r
    | bl b => cases r
    | ref a => cases r
    | ty n => cases r
  | _ => exact h
theorem call_cmp {us : List Value} {vs : List V} (F : FnR X.prog X.w X.K X.mg X.base CX k f sp) (hr : Room k X.A) (hx : Passes CX X E) (I : L2.Inv X pins σ H s) (r : Vals vs us) (h : sp vs H Q E) :
    wpAny (model X.prog X.w) X.A (call (.ref f) us) (PySem.W.CmpBack (EP X pins σ Q)) X.xe s :=
  wpAny_mono (wpAny_call (run_fnR F hr hx I r h)) (fun _ _ z => cmpBack_of z) fun _ _ z => z
/-- o op y by the own method of o's class; y of the same class, or an int -/
def rOwn (C : Addr) (sp : Sp) (E : XK) : R2 := fun x y H Q => (∃ a dx fs, x = .ref a ∧ H a = some (.ins C dx fs)) ∧ ((∃ b dy gs, y = .ref b ∧ H b = some (.ins C dy gs)) ∨ ∃ i, y = .int i) ∧ sp [x, y] H Q E
/-- what the text says of an operator of the class at C -/
structure OpF (K : PySem.W.Frag) (C f : Addr) (op : Operator) : Prop where
  sf : PySem.W.selfFirst K C = true
  at_ : PySem.W.findIn K (.ref C) (PySem.dunder op.info.2) = some (some (.ref f))
  fn : PySem.W.isFn K (.ref f) = true
  rf : ∃ rc, PySem.W.findIn K (.ref C) (PySem.dunderR op.info.2) = some rc ∧ (rc = none ∨ ∃ g : Addr, rc = some (.ref g))
  i1 : ∃ fo, PySem.W.findIn K (.type "int") (PySem.dunder op.info.2) = some fo
  i2 : ∃ ro, PySem.W.findIn K (.type "int") (PySem.dunderR op.info.2) = some ro
  sub : PySem.W.subIn K (.type "int") (.ref C) = some false
theorem op_own {op : Operator} (O : OpF X.K C f op) (F : FnR X.prog X.w X.K X.mg X.base CX k f sp) (hr : Room k X.A) (hx : Passes CX X E) : OpR X (binaryOp op) (rOwn C sp E) := by
  intro pins s σ H x y v u Q I rx ry hq
  obtain ⟨⟨a, dx, fs, rfl, ha⟩, hy, hsp⟩ := hq
  have ev : v = Value.ref a := rx
  have cl := call_cmp F hr hx I (us := [v, u]) (vs := [V.ref a, y]) (.cons rx (.cons ry .nil)) hsp
  subst ev
  obtain ⟨mA, J, _⟩ := ins_get I.hok ha
  obtain ⟨od, J, _⟩ := J.look
  obtain ⟨m, hF⟩ := I.fr
  rcases hy with ⟨b, dy, gs, rfl, hb⟩ | ⟨i, rfl⟩
  · have eu : u = Value.ref b := ry
    subst eu
    obtain ⟨mB, J', _⟩ := ins_get I.hok hb
    obtain ⟨od', J', _⟩ := J'.look
    exact PySem.W.binop_K hF I.ok.mod.kin J J'.type O.sf O.at_ O.fn cl
  · obtain ⟨t, rfl⟩ := ry
    obtain ⟨rc, r1, r2⟩ := O.rf
    obtain ⟨fo, i1⟩ := O.i1
    obtain ⟨ro, i2⟩ := O.i2
    exact PySem.W.ksp_binT (T := "int") hF I.ok.mod.kin J rfl O.sf O.at_ O.fn r1 r2 i1 i2 O.sub cl
/-- o cmp y by the own method, y of the same class -/
def rCmp (C : Addr) (sp : Sp) (E : XK) : R2 := fun x y H Q => (∃ a dx fs, x = .ref a ∧ H a = some (.ins C dx fs)) ∧ (∃ b dy gs, y = .ref b ∧ H b = some (.ins C dy gs)) ∧ sp [x, y] H Q E
theorem op_cmpOwn {op : CmpOp} (hc : ∀ v u, compareOp op v u = richCompare op v u) (nf : PySem.W.notFirst X.K C (.ref C) = true) (at_ : PySem.W.findIn X.K (.ref C) (cmpInfo op).2.1 = some (some (.ref f))) (fn : PySem.W.isFn X.K (.ref f) = true)
    (F : FnR X.prog X.w X.K X.mg X.base CX k f sp) (hr : Room k X.A) (hx : Passes CX X E) : OpR X (compareOp op) (rCmp C sp E) := by
  intro pins s σ H x y v u Q I rx ry hq
  obtain ⟨⟨a, dx, fs, rfl, ha⟩, ⟨b, dy, gs, rfl, hb⟩, hsp⟩ := hq
  have ev : v = Value.ref a := rx
  have eu : u = Value.ref b := ry
  have cl := call_cmp F hr hx I (us := [v, u]) (vs := [V.ref a, V.ref b]) (.cons rx (.cons ry .nil)) hsp
  subst ev eu
  obtain ⟨mA, J, _⟩ := ins_get I.hok ha
  obtain ⟨od, J, _⟩ := J.look
  obtain ⟨mB, J', _⟩ := ins_get I.hok hb
  obtain ⟨od', J', _⟩ := J'.look
  obtain ⟨m, hF⟩ := I.fr
  rw [hc]
  exact PySem.W.cmp_K hr.units0 hF I.ok.mod.kin J J'.type nf at_ fn cl
/-- x in o by the own method -/
def rInOwn (C : Addr) (sp : Sp) (E : XK) (neg : Bool) : R2 := fun x y H Q => (∃ a dx fs, y = .ref a ∧ H a = some (.ins C dx fs)) ∧ sp [y, x] H (fun v H' => ∃ b, v = .bl b ∧ Q (.bl (if neg then !b else b)) H') E
theorem op_inOwn (at_ : PySem.W.findIn X.K (.ref C) "__contains__" = some (some (.ref f))) (fn : PySem.W.isFn X.K (.ref f) = true)
    (F : FnR X.prog X.w X.K X.mg X.base CX k f sp) (hr : Room k X.A) (hx : Passes CX X E) : OpR X (compareOp .In) (rInOwn C sp E false) := by
  intro pins s σ H x y v u Q I rx ry hq
  obtain ⟨⟨a, dx, fs, rfl, ha⟩, hsp⟩ := hq
  have eu : u = Value.ref a := ry
  have cl := wpAny_call (run_fnR (us := [u, v]) (vs := [V.ref a, x]) F hr hx I (.cons ry (.cons rx .nil)) hsp)
  subst eu
  obtain ⟨mA, J, _⟩ := ins_get I.hok ha
  obtain ⟨od, J, _⟩ := J.look
  obtain ⟨m, hF⟩ := I.fr
  refine PySem.W.in_K hF I.ok.mod.kin J at_ fn (wpAny_mono cl (fun r s' z => ?_) fun _ _ z => z)
  obtain ⟨v', H', I', rv, b, rfl, q⟩ := z
  have er : r = Value.bool b := rv
  subst er
  exact wpAny_truthy_bool ⟨.bl b, H', I', rfl, q⟩
end
/-! static methods -/
structure SMet (K : PySem.W.Frag) (C : Addr) (mc : Value) (m : Str) (p g : Addr) : Prop where
  at_ : PySem.W.findCls K (.ref C) mc m = some (.get (.builtin "staticmethod.__get__") (.ref p) .none (.ref C))
  rc : ∃ rest, PySem.W.recIn K p "staticmethod" = some (.ref g :: rest)
  kp : PySem.W.keepIn K (.ref g) = true
def tSMeth (C : Addr) (sp : Sp) (E : XK) (ta : TE) (t : TA) : TE := fun σ H Q => ta σ H fun x H1 => x = .ref C ∧ t σ H1 fun vs H2 => sp vs H2 Q E
section
variable {X : Cx} {CX : CXT} {k : Nat} {C p g : Addr} {mc : Value} {sp : Sp} {E : XK} {o e : Expr} {es : List Expr} {m : Str} {pos apos : Pos} {ta : TE} {t : TA} {pl : Sem Bool}
theorem pe_smeth (he : PE X o ta) (r : ClX.CRead X.K C mc) (c : SMet X.K C mc m p g) (F : FnR X.prog X.w X.K X.mg X.base CX k g sp) (hr : Room k X.A) (hx : Passes CX X E) (ha : PA X (e :: es) t)
    (hst : starEach (e :: es) X.env = (false, eval e X.env) :: starEach es X.env := by rfl) (hpl : (backTo pos (starEach es X.env)).any (·.1) = false := by rfl)
    (ht : eval (.Call (.Attribute o m apos) (e :: es) [] pos) X.env = (do
      let ov ← eval o X.env
      standAt apos.atName
      let (f, first) ← holding [ov] (getMethod ov m pl)
      callWith pos f first (backTo pos (starEach (e :: es) X.env)) (backToKw pos (keywordEach [] X.env))) := by rfl) :
    PE X (.Call (.Attribute o m apos) (e :: es) [] pos) (tSMeth C sp E ta t) := by
  refine ⟨fun pins s σ H Q I h => ?_⟩
  refine PySem.W.methodCall_KW (pl := pl) (thn (he.run pins s σ H _ I h) fun u s1 ⟨x, H1, I1, rx, ex, q⟩ => ?_) ht
  subst ex
  obtain rfl : u = Value.ref C := rx
  obtain ⟨rest, hp⟩ := c.rc
  refine PySem.W.method_cls I1.kIn r.ga (PySem.W.cls_bind I1.kIn r.rd c.at_ (wpAny_call (PySem.W.sm_get (s := { s1 with toks := s1.toks + 1 }) I1.kIn hp (PySem.W.handed_on rfl ?_))))
  have I2 : L2.Inv X pins σ H1 { s1 with toks := s1.toks + 1 } := I1.tok _
  refine PySem.W.callWith_K (h₀ := X.base) I2.ok.mod.kin c.kp (thn (ha.run pos pins _ σ H1 _ I2 q) fun us s3 ⟨vs, H2, I3, rv, q2⟩ => ⟨I3.kIn, ?_⟩) hst hpl
  exact wpAny_call (run_fnR F hr hx I3 rv q2)
end
/-! C(*xs) -/
section
variable {X : Cx} {CX : CXT} {k : Nat} {f C : Addr} {sp : Sp} {E : XK} {x : Str} {e : Expr} {te : TE} {p pos sp_ : Pos}
def tMakeS (K : PySem.W.Frag) (C : Addr) (sp : Sp) (E : XK) (te : TE) : TE := fun σ H Q => te σ H fun y H1 => ∃ a xs, y = V.ref a ∧ (SqT K H1 a xs ∨ SqL K H1 a xs) ∧ ∀ x dx, H1 x = Option.none → H1 dx = Option.none → dx ≠ x →
  sp (V.ref x :: xs) (upd (upd H1 dx (.own x)) x (.ins C dx [])) (fun v H2 => v = .non ∧ Q (.ref x) H2) E
theorem pe_makeS (M : Mk X.K C f) (F : FnR X.prog X.w X.K X.mg X.base CX k f sp) (hr : Room (k + 1) X.A) (hg : Gl X x) (hm : X.mg x = some (.ref C)) (hx : Passes CX X E) (he : PE X e te) (hd : (x == ("__debug__" : Str)) = false := by decide)
    (hst : starEach [.Starred e sp_] X.env = [(true, eval e X.env)] := by rfl) :
    PE X (.Call (.Name x p) [.Starred e sp_] [] pos) (tMakeS X.K C sp E te) := by
  refine ⟨fun pins s σ H Q I h => ?_⟩
  refine wpAny_Call_Name_kw (ld_glob I hg hm ?_ hd)
  refine PySem.W.callWith_S (h₀ := X.base) I.ok.mod.kin M.kp (thn (he.run pins s σ H _ I h) fun v s1 ⟨y, H1, I1, ry, a, xs, ey, hxs, q⟩ => ?_) hst
  subst ey
  obtain rfl : v = Value.ref a := ry
  exact StX.star_any I1 hxs fun us s2 I2 rv => ⟨I2.kIn, StX.run_makeR M F hr hx I2 rv q⟩
def tMakeZ (C : Addr) (sp : Sp) (E : XK) : TE := fun _ H Q => ∀ x dx, H x = Option.none → H dx = Option.none → dx ≠ x →
  sp [V.ref x] (upd (upd H dx (.own x)) x (.ins C dx [])) (fun v H2 => v = .non ∧ Q (.ref x) H2) E
end
end Vx
set_option Elab.async false
set_option linter.all false
set_option maxRecDepth 100000
set_option maxHeartbeats 2000000
/-! own errors: a base's __init__ said by the base's name; isinstance of what was caught; makings that may raise, within a try -/
namespace Vx
open PySem PySem.Spec PyProof.Rows L2
/-- the class at D, above an own error, whose __init__ is ValueError's -/
structure UpC (K : PySem.W.Frag) (D : Addr) (mc : Value) : Prop where
  rd : ClX.CRead K D mc
  ini : PySem.W.findCls K (.ref D) mc "__init__" = some (.val (.builtin "ValueError.__init__"))
def tUp (K : PySem.W.Frag) (D : Addr) (ta : TE) (t : TA) : TE := fun σ H Q => ta σ H fun x H1 => x = .ref D ∧ tVeI K t σ H1 Q
section
variable {X : Cx} {D : Addr} {mc : Value} {o e : Expr} {es : List Expr} {pos apos : Pos} {ta : TE} {t : TA} {pl : Sem Bool}
theorem pe_up (hO : PE X o ta) (U : UpC X.K D mc) (hA : PA X (e :: es) t) (h1 : starEach (e :: es) X.env = (false, eval e X.env) :: starEach es X.env := by rfl) (h2 : (backTo pos (starEach es X.env)).any (·.1) = false := by rfl)
    (hW : eval (.Call (.Attribute o "__init__" apos) (e :: es) [] pos) X.env = (do
      let ov ← eval o X.env
      standAt apos.atName
      let (f, first) ← holding [ov] (getMethod ov "__init__" pl)
      callWith pos f first (backTo pos (starEach (e :: es) X.env)) (backToKw pos (keywordEach [] X.env))) := by rfl) : PE X (.Call (.Attribute o "__init__" apos) (e :: es) [] pos) (tUp X.K D ta t) := by
  refine ⟨fun pn s σ H Q I h => PySem.W.methodCall_KW (pl := pl) (thn (hO.run pn s σ H _ I h) fun u s1 hh => ?_) hW⟩
  obtain ⟨x, H1, I1, rx, ex, q⟩ := hh
  subst ex
  obtain rfl : u = Value.ref D := rx
  refine PySem.W.method_cls I1.kIn U.rd.ga (PySem.W.cls_value I1.kIn U.rd.rd U.ini rfl ?_)
  refine PyProof.Rows.callWith_method1 (thn (hA.run pos pn _ σ H1 _ (I1.tok _) q) fun us s2 hh => ?_) h1 h2
  obtain ⟨vs, H2, I2, r2, a, C, ws, ev, hl, T, ea, q2⟩ := hh
  subst ev
  cases r2 with
  | @cons _ u0 _ ur ra rb =>
    obtain rfl : u0 = Value.ref a := ra
    exact oinit_ok T I2 ea (by rw [← Paired.length rb, sizeLine_eq]; omega) fun s3 J => ⟨.non, H2, J, rfl, q2⟩
end
/-! isinstance(e, c), e a caught error with its dict -/
structure ExcX (K : PySem.W.Frag) (C : Addr) : Prop where
  cl : (PySem.W.clsIn K C).isSome = true
  ga : PySem.W.findIn K (.ref C) "__getattribute__" = some (some (.builtin "BaseException.__getattribute__"))
  gt : PySem.W.findIn K (.ref C) "__getattr__" = some none
  sb : PySem.W.subIn K (.ref C) (.type "BaseException") = some true
  ac : PySem.W.findIn K (.ref C) "__class__" = some (some (.builtin "object.__class__"))
  gn : PySem.W.specialIn K (.builtin "object.__class__") "__get__" = some (some (.builtin "getset_descriptor.__get__"))
  tk : PySem.W.takesIn K (.builtin "object.__class__") = some true
  mo : PySem.W.mroIn K C (.type "object") = some true
def rIsX (K : PySem.W.Frag) (C a : Addr) (cls : Value) (d : Option Addr) : List V → Hp → VK → Prop := fun xs H Q => cls = .ref C ∧ ∃ (dd : Addr) (fs : List (Str × V)) (c : V) (cv : Value) (b : Bool), d = some dd ∧ H dd = some (.xd fs) ∧ xs = [.ref a, c] ∧ (∀ u, RelV c u → u = cv) ∧ PySem.W.kitOne K (.ref C) cv = some b ∧ Q (.bl b) H
theorem call_isX {X : Cx} {a C : Addr} {oe : Obj} {cls : Value} {d : Option Addr} {pn : List (Addr × Obj)} (T : ExcX X.K C) (hz : Zc cls d oe) (hf : ∃ vs, oe.data = .fields vs) : CallR (X.suite a ((a, oe) :: pn)) (.builtin "isinstance") (rIsX X.K C a cls d) := by
  intro pins s σ H xs us Q I r h
  obtain ⟨ec, dd, fs, c, cv, b, ed, hd, ex, hcv, e, q⟩ := h
  subst ec ed ex
  cases r with
  | cons rx rr =>
    cases rr with
    | cons rt rn =>
      cases rn
      cases rx
      obtain rfl := hcv _ rt
      obtain ⟨hget, _⟩ := I.pin (a, oe) (List.mem_append.mpr (.inl List.mem_cons_self))
      obtain ⟨vs, hv⟩ := hf
      have hx : ObjOk X.prog X.w H s.heap dd (.xd fs) := I.hok dd _ hd
      obtain ⟨mA, hns, _⟩ := hx
      obtain ⟨od, ho, _⟩ := lookIn_ns hns
      have J : PySem.W.InstAt s.heap a oe C (some od) := ⟨hget, hz.1, by unfold PySem.W.notCls; rw [hv] <;> rfl, by rw [hz.2]; exact ho⟩
      exact PySem.W.kia_one (PySem.W.kitx_exc T.cl T.ga T.gt T.sb T.ac T.gn T.tk T.mo) I.kIn J e (fun z => nomatch z) fun tk => ⟨.bl b, H, I.kept (t' := tk) fun _ _ z => z, rfl, q⟩
/-! makings and static calls that may raise, the wish at the caller's slots -/
section
variable {X : Cx} {CX : CXT} {k n : Nat} {f C : Addr} {fd : FuncData} {ps ks : List Str} {sp : Sp} {E : L2.St → XK} {x : Str} {p pos : Pos} {e : Expr} {es : List Expr} {kws : List Keyword} {t tk : TA} {g : List Value → List Value → List Value} {gV : List V → List V → List V}
def tMakeNS (C : Addr) (n m : Nat) (sp : Sp) (gV : List V → List V → List V) (E : L2.St → XK) (t tk : TA) : TE := fun σ H Q => t σ H fun vs H1 => tk σ H1 fun zs H2 => vs.length = n ∧ zs.length = m ∧
  ∀ y dy, H2 y = none → H2 dy = none → dy ≠ y → sp (gV (.ref y :: vs) zs) (upd (upd H2 dy (.own y)) y (.ins C dy [])) (fun v H3 => v = .non ∧ Q (.ref y) H3) (E σ)
theorem run_makeNS {pn : List (Addr × Obj)} {σ : L2.St} {H : Hp} {s : Shared} {Q : VK} {us ws : List Value} {vs zs : List V} (M : Mk X.K C f) (F : FnOk X.prog X.w X.K X.mg X.base CX k f fd ps sp) (hr : Room (k + 1) X.A) (hb : KBn X.K fd ps (n + 1) ks g gV)
    (hx : PassesAt CX X σ (E σ)) (I : L2.Inv X pn σ H s) (ru : Vals vs us) (rw_ : Vals zs ws) (e1 : vs.length = n) (e2 : zs.length = ks.length)
    (h : ∀ y dy, H y = none → H dy = none → dy ≠ y → sp (gV (.ref y :: vs) zs) (upd (upd H dy (.own y)) y (.ins C dy [])) (fun v H3 => v = .non ∧ Q (.ref y) H3) (E σ)) : wpAny (model X.prog X.w) X.A (call (.ref C) us (ks.zip ws)) (EP X pn σ Q) X.xe s := by
  have J : L2.Inv X pn σ _ _ := L2.Inv.made (C := C) I
  have r1 : Vals (V.ref (s.heap.objs.size + 1) :: vs) (Value.ref (s.heap.objs.size + 1) :: us) := Paired.cons rfl ru
  have z1 : (Value.ref (s.heap.objs.size + 1) :: us).length = n + 1 := r1.length.symm.trans (congrArg (· + 1) e1)
  have z2 : ws.length = ks.length := rw_.length.symm.trans e2
  have hq := h (s.heap.objs.size + 1) s.heap.objs.size (I.hok.fresh (Nat.le_succ _)) (I.hok.fresh Nat.le.refl) (Nat.ne_of_lt (Nat.lt_succ_self _))
  have run := F.run _ X.stack _ _ ⟨Value.ref (s.heap.objs.size + 1) :: us, ks.zip ws⟩ (g (Value.ref (s.heap.objs.size + 1) :: us) ws) _ _ (E σ) (hr.make C us (ks.zip ws)) (J.env0.make C us (ks.zip ws)) (hb.to _ _ ws J.kIn z1 z2) (hb.rel r1 rw_) hq
  refine wpAny_call (make_map (f := f) I.kIn M.makes M.init (beq_iff_eq.mp M.fn) (codeAny_mono run fun r s2 z => ?_))
  match r, z with
  | .error er, z => exact hx pn _ _ er s2 J z
  | .ok (.ret u), z =>
    obtain ⟨v, H3, J3, rv, ev, q⟩ := J.after z
    subst ev
    exact ⟨rv, .ref (s.heap.objs.size + 1), H3, J3, rfl, q⟩
theorem pe_makeNS (M : Mk X.K C f) (F : FnOk X.prog X.w X.K X.mg X.base CX k f fd ps sp) (hr : Room (k + 1) X.A) (hg : Gl X x) (hm : X.mg x = some (.ref C)) (hb : KBn X.K fd ps (n + 1) ks g gV) (hx : ∀ σ, PassesAt CX X σ (E σ)) (hA : PA X (e :: es) t) (hK : PK X kws tk)
    (h1 : (backToKw pos (keywordEach kws X.env)).all (·.1.isSome) = true := by rfl) (h2 : (backToKw pos (keywordEach kws X.env)).filterMap (·.1) = ks := by rfl) (h3 : (x == ("__debug__" : Str)) = false := by decide)
    (h4 : starEach (e :: es) X.env = (false, eval e X.env) :: starEach es X.env := by rfl) (h5 : ((backTo pos (starEach (e :: es) X.env)).any (·.1) || (backToKw pos (keywordEach kws X.env)).any (·.1.isNone)) = false := by rfl) :
    PE X (.Call (.Name x p) (e :: es) kws pos) (tMakeNS C n ks.length sp gV E t tk) := by
  refine ⟨fun pn s σ H Q I h => wpAny_Call_Name_kw (ld_glob I hg hm ?_ h3)⟩
  refine PySem.W.callWith_KW (h₀ := X.base) I.ok.mod.kin M.kp h1 (thn (hA.run pos pn s σ H _ I h) fun us s1 hh => ?_) h5 h4
  obtain ⟨vs, H1, I1, r1, q⟩ := hh
  refine thn (hK.run pos pn s1 σ H1 _ I1 q) fun ws s2 hh => ?_
  obtain ⟨zs, H2, I2, r2, l1, l2, q2⟩ := hh
  refine ⟨I2.kIn, ?_⟩
  rw [h2]
  exact run_makeNS M F hr hb (hx σ) I2 r1 r2 l1 l2 q2
end
section
variable {X : Cx} {CX : CXT} {k : Nat} {f C : Addr} {sp : Sp} {E : L2.St → XK}
theorem run_fnRS {pn : List (Addr × Obj)} {σ : L2.St} {H : Hp} {s : Shared} {Q : VK} {us : List Value} {vs : List V} (F : FnR X.prog X.w X.K X.mg X.base CX k f sp) (hr : Room k X.A) (hx : PassesAt CX X σ (E σ)) (I : L2.Inv X pn σ H s) (r : Vals vs us) (h : sp vs H Q (E σ)) :
    wpAny (model X.prog X.w) X.A (call (.ref f) us) (EP X pn σ Q) X.xe s := by
  refine wpAny_call (codeAny_mono (F X.A X.stack s H us vs Q (E σ) hr I.env0 r h) fun z s2 y => ?_)
  match z, y with
  | .error er, y => exact hx pn H s er s2 I y
  | .ok (.ret u), y => exact I.after y
theorem run_makeRS {pn : List (Addr × Obj)} {σ : L2.St} {H : Hp} {s : Shared} {Q : VK} {us : List Value} {vs : List V} (M : Mk X.K C f) (F : FnR X.prog X.w X.K X.mg X.base CX k f sp) (hr : Room (k + 1) X.A) (hx : PassesAt CX X σ (E σ)) (I : L2.Inv X pn σ H s) (r : Vals vs us)
    (h : ∀ y dy, H y = Option.none → H dy = Option.none → dy ≠ y → sp (V.ref y :: vs) (upd (upd H dy (.own y)) y (.ins C dy [])) (fun v H2 => v = .non ∧ Q (.ref y) H2) (E σ)) : wpAny (model X.prog X.w) X.A (call (.ref C) us) (EP X pn σ Q) X.xe s := by
  have J : L2.Inv X pn σ _ _ := L2.Inv.made (C := C) I
  have r1 : Vals (V.ref (s.heap.objs.size + 1) :: vs) (Value.ref (s.heap.objs.size + 1) :: us) := Paired.cons rfl r
  have hq := h (s.heap.objs.size + 1) s.heap.objs.size (I.hok.fresh (Nat.le_succ _)) (I.hok.fresh Nat.le.refl) (Nat.ne_of_lt (Nat.lt_succ_self _))
  refine wpAny_call (make_map (f := f) I.kIn M.makes M.init (beq_iff_eq.mp M.fn) (codeAny_mono (F _ X.stack _ _ (Value.ref (s.heap.objs.size + 1) :: us) _ _ (E σ) (hr.make C us []) (J.env0.make C us []) r1 hq) fun z s2 y => ?_))
  match z, y with
  | .error er, y => exact hx pn _ _ er s2 J y
  | .ok (.ret u), y =>
    obtain ⟨v, H3, J3, rv, ev, q⟩ := J.after y
    subst ev
    exact ⟨rv, .ref (s.heap.objs.size + 1), H3, J3, rfl, q⟩
def tMethE (C : Addr) (m : Str) (sp : Sp) (E : L2.St → XK) (ta : TE) (t : TA) : TE := fun σ H Q => ta σ H fun x H1 => ∃ a dx fs, x = .ref a ∧ H1 a = some (.ins C dx fs) ∧ fs.lookup m = Option.none ∧ t σ H1 fun vs H2 => sp (.ref a :: vs) H2 Q (E σ)
theorem pe_methE {o e : Expr} {es : List Expr} {m : Str} {pos apos : Pos} {ta : TE} {t : TA} {pl : Sem Bool} (hO : PE X o ta) (c : Cls X.K C) (hm : Meth X.K C m f) (F : FnR X.prog X.w X.K X.mg X.base CX k f sp) (hr : Room k X.A) (hx : ∀ σ, PassesAt CX X σ (E σ)) (hA : PA X (e :: es) t)
    (h1 : starEach (e :: es) X.env = (false, eval e X.env) :: starEach es X.env := by rfl) (h2 : (backTo pos (starEach es X.env)).any (·.1) = false := by rfl)
    (hW : eval (.Call (.Attribute o m apos) (e :: es) [] pos) X.env = (do
      let ov ← eval o X.env
      standAt apos.atName
      let (f, first) ← holding [ov] (getMethod ov m pl)
      callWith pos f first (backTo pos (starEach (e :: es) X.env)) (backToKw pos (keywordEach [] X.env))) := by rfl) : PE X (.Call (.Attribute o m apos) (e :: es) [] pos) (tMethE C m sp E ta t) := by
  refine ⟨fun pn s σ H Q I h => PySem.W.methodCall_KW (pl := pl) (thn (hO.run pn s σ H _ I h) fun u s1 hh => ?_) hW⟩
  obtain ⟨x, H1, I1, rx, a, dx, fs, ex, ea, l, q⟩ := hh
  subst ex
  obtain rfl : u = Value.ref a := rx
  refine getmeth_ok I1 ea c hm l (PySem.W.callWith_K (first := [.ref a]) (h₀ := X.base) I.ok.mod.kin hm.kp (thn (hA.run pos pn s1 σ H1 _ I1 q) fun us s2 hh => ?_) h1 h2)
  obtain ⟨vs, H2, I2, r, q2⟩ := hh
  exact ⟨I2.kIn, run_fnRS (us := .ref a :: us) (vs := .ref a :: vs) F hr (hx σ) I2 (.cons rfl r) q2⟩
def tSMethE (C : Addr) (sp : Sp) (E : L2.St → XK) (ta : TE) (t : TA) : TE := fun σ H Q => ta σ H fun x H1 => x = .ref C ∧ t σ H1 fun vs H2 => sp vs H2 Q (E σ)
theorem pe_smethE {o e : Expr} {es : List Expr} {m : Str} {g q : Addr} {mc : Value} {pos apos : Pos} {ta : TE} {t : TA} {pl : Sem Bool} (hO : PE X o ta) (cr : ClX.CRead X.K C mc) (c : SMet X.K C mc m q g) (F : FnR X.prog X.w X.K X.mg X.base CX k g sp) (hr : Room k X.A) (hx : ∀ σ, PassesAt CX X σ (E σ)) (hA : PA X (e :: es) t)
    (h1 : starEach (e :: es) X.env = (false, eval e X.env) :: starEach es X.env := by rfl) (h2 : (backTo pos (starEach es X.env)).any (·.1) = false := by rfl)
    (hW : eval (.Call (.Attribute o m apos) (e :: es) [] pos) X.env = (do
      let ov ← eval o X.env
      standAt apos.atName
      let (f, first) ← holding [ov] (getMethod ov m pl)
      callWith pos f first (backTo pos (starEach (e :: es) X.env)) (backToKw pos (keywordEach [] X.env))) := by rfl) : PE X (.Call (.Attribute o m apos) (e :: es) [] pos) (tSMethE C sp E ta t) := by
  refine ⟨fun pn s σ H Q I h => PySem.W.methodCall_KW (pl := pl) (thn (hO.run pn s σ H _ I h) fun u s1 hh => ?_) hW⟩
  obtain ⟨x, H1, I1, rx, ex, y⟩ := hh
  subst ex
  obtain rfl : u = Value.ref C := rx
  obtain ⟨rest, hp⟩ := c.rc
  refine PySem.W.method_cls I1.kIn cr.ga (PySem.W.cls_bind I1.kIn cr.rd c.at_ (wpAny_call (PySem.W.sm_get (s := { s1 with toks := s1.toks + 1 }) I1.kIn hp (PySem.W.handed_on rfl ?_))))
  have I2 : L2.Inv X pn σ H1 { s1 with toks := s1.toks + 1 } := I1.tok _
  refine PySem.W.callWith_K (h₀ := X.base) I2.ok.mod.kin c.kp (thn (hA.run pos pn _ σ H1 _ I2 y) fun us s3 hh => ?_) h1 h2
  obtain ⟨vs, H2, I3, rv, q2⟩ := hh
  exact ⟨I3.kIn, run_fnRS F hr (hx σ) I3 rv q2⟩
end
end Vx
set_option Elab.async false
set_option linter.all false
set_option maxRecDepth 100000
set_option maxHeartbeats 4000000
namespace DX
open PySem PySem.Spec PyProof.Rows L2
/-! ### defs of one's own, by data -/
abbrev DSp := List D → Mem → (D → Mem → Prop) → (Addr → List (Str × D) → Mem → Prop) → Prop
def toSp (K : PySem.W.Frag) (S : DSp) : Sp := fun vs H Q' E' => ∃ Z as F ds μ Q E, RepL K as F vs ds ∧ Mm K Z as F H μ ∧ S ds μ Q E ∧
  (∀ v d μ' as' F' H', Gr as F as' F' → Mm K Z as' F' H' μ' → Rep K as' F' v d → Q d μ' → Q' v H') ∧
  (∀ C gs dx μ' as' F' H', Gr as F as' F' → Mm K Z as' F' H' μ' → ExcR K as' F' dx gs → E C gs μ' → E' (.ref C) dx H')
/-- the def at f keeps S (where no repr is under way) -/
abbrev FnD (P : Program) (w : World) (K : PySem.W.Frag) (mg : Str → Option Value) (base : Heap) (k : Nat) (f : Addr) (S : DSp) : Prop := Gd.FnG P w K mg base (L2.CX P w) k f (toSp K S)
/-- what the context takes of exceptions -/
abbrev Tk (X : Cx) (Ex : L2.St → XK) : Prop := Takes X (fun cls d σ H => Ex σ cls d H)
theorem tk_pass {X : Cx} {Ex : L2.St → XK} (tk : Tk X Ex) (σ : L2.St) : PassesAt (L2.CX X.prog X.w) X σ (Ex σ) := passAt tk σ
section
variable {X : Cx} {CX : CXT} {k : Nat} {f C : Addr} {sp : Sp} {E : L2.St → XK}
theorem run_g {A : Around} {pn : List (Addr × Obj)} {σ : L2.St} {H : Hp} {s : Shared} {Q : VK} {us : List Value} {vs : List V} (F : Gd.FnG X.prog X.w X.K X.mg X.base CX k f sp) (g : Gd.Calm0 A) (hr : Room k A) (e0 : Env0 X.prog X.w X.K X.mg X.base A X.stack s H) (hx : PassesAt CX X σ (E σ)) (I : L2.Inv X pn σ H s) (r : Vals vs us) (h : sp vs H Q (E σ)) :
    codeAny (model X.prog X.w) A (.call (.ref f) ⟨us, []⟩) (fun r s' => match r with | .ok (.ret v) => EP X pn σ Q v s' | .ok _ => False | .error e => X.xe e s') s := by
  refine codeAny_mono (F A X.stack s H us vs Q (E σ) g hr e0 r h) fun z s2 y => ?_
  match z, y with
  | .error er, y => exact hx pn H s er s2 I y
  | .ok (.ret u), y => exact I.after y
theorem run_gW {pn : List (Addr × Obj)} {σ : L2.St} {H : Hp} {s : Shared} {Q : VK} {us : List Value} {vs : List V} (F : Gd.FnG X.prog X.w X.K X.mg X.base CX k f sp) (g : Gd.Calm0 X.A) (hr : Room k X.A) (hx : PassesAt CX X σ (E σ)) (I : L2.Inv X pn σ H s) (r : Vals vs us) (h : sp vs H Q (E σ)) :
    wpAny (model X.prog X.w) X.A (call (.ref f) us) (EP X pn σ Q) X.xe s := wpAny_call (run_g F g hr I.env0 hx I r h)
theorem make_calm {A : Around} {C : Addr} {us : List Value} {kw : List (Str × Value)} (g : Gd.Calm0 A) : Gd.Calm0 (A.under (.builtin "type.__call__" ⟨.ref C :: us, kw⟩)) := by
  first | exact g | simpa [Gd.Calm0, Around.under, Code.isGuard, guardIds] using g
theorem run_makeG {pn : List (Addr × Obj)} {σ : L2.St} {H : Hp} {s : Shared} {Q : VK} {us : List Value} {vs : List V} (M : Mk X.K C f) (F : Gd.FnG X.prog X.w X.K X.mg X.base CX k f sp) (g : Gd.Calm0 X.A) (hr : Room (k + 1) X.A) (hx : PassesAt CX X σ (E σ)) (I : L2.Inv X pn σ H s) (r : Vals vs us)
    (h : ∀ y dy, H y = Option.none → H dy = Option.none → dy ≠ y → sp (V.ref y :: vs) (upd (upd H dy (.own y)) y (.ins C dy [])) (fun v H2 => v = .non ∧ Q (.ref y) H2) (E σ)) : wpAny (model X.prog X.w) X.A (call (.ref C) us) (EP X pn σ Q) X.xe s := by
  have J : L2.Inv X pn σ _ _ := L2.Inv.made (C := C) I
  have r1 : Vals (V.ref (s.heap.objs.size + 1) :: vs) (Value.ref (s.heap.objs.size + 1) :: us) := Paired.cons rfl r
  have hq := h (s.heap.objs.size + 1) s.heap.objs.size (I.hok.fresh (Nat.le_succ _)) (I.hok.fresh Nat.le.refl) (Nat.ne_of_lt (Nat.lt_succ_self _))
  refine wpAny_call (make_map (f := f) I.kIn M.makes M.init (beq_iff_eq.mp M.fn) (codeAny_mono (F _ X.stack _ _ (Value.ref (s.heap.objs.size + 1) :: us) _ _ (E σ) (make_calm g) (hr.make C us []) (J.env0.make C us []) r1 hq) fun z s2 y => ?_))
  match z, y with
  | .error er, y => exact hx pn _ _ er s2 J y
  | .ok (.ret u), y =>
    obtain ⟨v, H3, J3, rv, ev, q⟩ := J.after y
    subst ev
    exact ⟨rv, .ref (s.heap.objs.size + 1), H3, J3, rfl, q⟩
end
/-! calls by the name -/
def tCallQ (sp : Sp) (E : L2.St → XK) (t : TA) : TE := fun σ H Q => t σ H fun vs H1 => sp vs H1 Q (E σ)
def uCall (S : DSp) (u : DTA) : DTE := fun ρ μ Q E => u ρ μ (fun ds μ1 => S ds μ1 Q (E ρ)) E
section
variable {X : Cx} {k : Nat} {f : Addr} {sp : Sp} {Ex : L2.St → XK} {x : Str} {p pos : Pos} {e : Expr} {es : List Expr} {t : TA}
theorem pe_callQ (F : Gd.FnG X.prog X.w X.K X.mg X.base (L2.CX X.prog X.w) k f sp) (g : Gd.Calm0 X.A) (hr : Room k X.A) (hg : Gl X x) (hm : X.mg x = some (.ref f)) (hk : PySem.W.keepIn X.K (.ref f) = true) (tk : Tk X Ex)
    (ha : PA X (e :: es) t) (hdb : (x == ("__debug__" : Str)) = false := by decide) (he : starEach (e :: es) X.env = (false, eval e X.env) :: starEach es X.env := by rfl) (hpl : (backTo pos (starEach es X.env)).any (·.1) = false := by rfl) :
    PE X (.Call (.Name x p) (e :: es) [] pos) (tCallQ sp Ex t) := by
  refine ⟨fun pins s σ H Q I h => ?_⟩
  refine wpAny_Call_Name_kw (ld_glob I hg hm ?_ hdb)
  exact PySem.W.callWith_K (h₀ := X.base) I.ok.mod.kin hk (thn (ha.run pos pins s σ H _ I h) fun us s1 ⟨vs, H1, I1, r, q⟩ => ⟨I1.kIn, run_gW F g hr (tk_pass tk σ) I1 r q⟩) he hpl
theorem pe_callQ0 (F : Gd.FnG X.prog X.w X.K X.mg X.base (L2.CX X.prog X.w) k f sp) (g : Gd.Calm0 X.A) (hr : Room k X.A) (hg : Gl X x) (hm : X.mg x = some (.ref f)) (hk : PySem.W.keepIn X.K (.ref f) = true) (tk : Tk X Ex)
    (hdb : (x == ("__debug__" : Str)) = false := by decide) : PE X (.Call (.Name x p) [] [] pos) (tCallQ sp Ex tNil) := by
  refine ⟨fun pins s σ H Q I h => ?_⟩
  refine wpAny_Call_Name_kw (ld_glob I hg hm ?_ hdb)
  exact PySem.W.callWith_K0 I.kIn hk (run_gW (us := []) F g hr (tk_pass tk σ) I .nil h)
end
section
variable {K : PySem.W.Frag} {Z : Hp} {as as' as1 : List Addr} {F F' F1 H H' H1 : Hp} {Ex : L2.St → XK}
/-- a promise at work -/
theorem sp_use {S : DSp} {σ : L2.St} {ρ : Rho} {μ : Mem} {vs : List V} {ds : List D} {Q : D → Mem → Prop} {E : XD} {Q' : VK} (R : Rp K Z as F H σ ρ μ) (X : XL K Ex Z as F E) (r : RepL K as F vs ds) (h : S ds μ Q (E ρ))
    (k : ∀ v d μ' as' F' H', Gr as F as' F' → Mm K Z as' F' H' μ' → Rep K as' F' v d → Q d μ' → Q' v H') : toSp K S vs H Q' (Ex σ) :=
  ⟨Z, as, F, ds, μ, Q, E ρ, r, R.mm, h, k, fun C gs dx μ' as' F' H' g M er q => X σ ρ μ' as' F' H' C gs dx g (R.up g M) er q⟩
theorem sim_call {S : DSp} {t : TA} {u : DTA} (a : SimA K Ex t u) : Sim K Ex (tCallQ (toSp K S) Ex t) (uCall S u) := fun Z as F H σ ρ μ Q E Q' R X h k =>
  a Z as F H σ ρ μ _ E _ R X h fun vs ds μ1 as1 F1 H1 g1 R1 r1 h1 => sp_use R1 (X.up g1) r1 h1 fun v d μ' as' F' H' g M r q => k v d μ' as' F' H' (g1.trans g) (R1.up g M) r q
/-! methods -/
def tMethQ (C : Addr) (m : Str) (sp : Sp) (E : L2.St → XK) (ta : TE) (t : TA) : TE := fun σ H Q => ta σ H fun x H1 => ∃ a dx fs, x = .ref a ∧ H1 a = some (.ins C dx fs) ∧ fs.lookup m = Option.none ∧ t σ H1 fun vs H2 => sp (.ref a :: vs) H2 Q (E σ)
def insAt (C : Addr) (m : Str) (μ : Mem) (x : D) : Prop := match view μ x with
  | .ins C' gs => C' = C ∧ gs.lookup m = none
  | _ => False
def uMeth (C : Addr) (m : Str) (S : DSp) (uo : DTE) (u : DTA) : DTE := fun ρ μ Q E => uo ρ μ (fun x μ1 => insAt C m μ1 x ∧ u ρ μ1 (fun ds μ2 => S (x :: ds) μ2 Q (E ρ)) E) E
theorem ins_at {C : Addr} {m : Str} {μ : Mem} (M : Mm K Z as F H μ) {v : V} {d : D} (r : Rep K as F v d) (h : insAt C m μ d) : ∃ a dx fs, v = .ref a ∧ H a = some (.ins C dx fs) ∧ fs.lookup m = Option.none := by
  unfold insAt at h
  cases e : view μ d with
  | ins C' gs =>
    rw [e] at h
    obtain ⟨hc, l⟩ := h
    subst hc
    obtain ⟨a, dx, fs, rfl, q, x⟩ := view_ins M r e
    exact ⟨a, dx, fs, rfl, q, x.lookN l⟩
  | _ => rw [e] at h; exact h.elim
theorem sim_meth {C : Addr} {m : Str} {S : DSp} {to : TE} {uo : DTE} {t : TA} {u : DTA} (o : Sim K Ex to uo) (a : SimA K Ex t u) : Sim K Ex (tMethQ C m (toSp K S) Ex to t) (uMeth C m S uo u) := fun Z as F H σ ρ μ Q E Q' R X h k =>
  o Z as F H σ ρ μ _ E _ R X h fun v d μ1 as1 F1 H1 g1 R1 r1 h1 => by
    obtain ⟨p, dx, fs, rfl, q, l⟩ := ins_at R1.mm r1 h1.1
    exact ⟨p, dx, fs, rfl, q, l, a Z as1 F1 H1 σ ρ μ1 _ E _ R1 (X.up g1) h1.2 fun vs ds μ2 as2 F2 H2 g2 R2 r2 h2 =>
      sp_use R2 (X.up (g1.trans g2)) (.cons (r1.up g2) r2) h2 fun v d μ' as' F' H' g M r q => k v d μ' as' F' H' ((g1.trans g2).trans g) (R2.up g M) r q⟩
end
section
variable {X : Cx} {k : Nat} {f C : Addr} {sp : Sp} {Ex : L2.St → XK} {m : Str} {pos apos : Pos} {o e : Expr} {es : List Expr} {ta : TE} {t : TA} {pl : Sem Bool}
theorem pe_methQ (hO : PE X o ta) (c : Cls X.K C) (hm : Meth X.K C m f) (F : Gd.FnG X.prog X.w X.K X.mg X.base (L2.CX X.prog X.w) k f sp) (g : Gd.Calm0 X.A) (hr : Room k X.A) (tk : Tk X Ex) (hA : PA X (e :: es) t)
    (h1 : starEach (e :: es) X.env = (false, eval e X.env) :: starEach es X.env := by rfl) (h2 : (backTo pos (starEach es X.env)).any (·.1) = false := by rfl)
    (hW : eval (.Call (.Attribute o m apos) (e :: es) [] pos) X.env = (do
      let ov ← eval o X.env
      standAt apos.atName
      let (f, first) ← holding [ov] (getMethod ov m pl)
      callWith pos f first (backTo pos (starEach (e :: es) X.env)) (backToKw pos (keywordEach [] X.env))) := by rfl) : PE X (.Call (.Attribute o m apos) (e :: es) [] pos) (tMethQ C m sp Ex ta t) := by
  refine ⟨fun pn s σ H Q I h => PySem.W.methodCall_KW (pl := pl) (thn (hO.run pn s σ H _ I h) fun u s1 hh => ?_) hW⟩
  obtain ⟨x, H1, I1, rx, a, dx, fs, ex, ea, l, q⟩ := hh
  subst ex
  obtain rfl : u = Value.ref a := rx
  refine getmeth_ok I1 ea c hm l (PySem.W.callWith_K (first := [.ref a]) (h₀ := X.base) I.ok.mod.kin hm.kp (thn (hA.run pos pn s1 σ H1 _ I1 q) fun us s2 hh => ?_) h1 h2)
  obtain ⟨vs, H2, I2, r, q2⟩ := hh
  exact ⟨I2.kIn, run_gW (us := .ref a :: us) (vs := .ref a :: vs) F g hr (tk_pass tk σ) I2 (.cons rfl r) q2⟩
theorem pe_methQ0 (hO : PE X o ta) (c : Cls X.K C) (hm : Meth X.K C m f) (F : Gd.FnG X.prog X.w X.K X.mg X.base (L2.CX X.prog X.w) k f sp) (g : Gd.Calm0 X.A) (hr : Room k X.A) (tk : Tk X Ex)
    (hW : eval (.Call (.Attribute o m apos) [] [] pos) X.env = (do
      let ov ← eval o X.env
      standAt apos.atName
      let (f, first) ← holding [ov] (getMethod ov m pl)
      callWith pos f first (backTo pos (starEach [] X.env)) (backToKw pos (keywordEach [] X.env))) := by rfl) : PE X (.Call (.Attribute o m apos) [] [] pos) (tMethQ C m sp Ex ta tNil) := by
  refine ⟨fun pn s σ H Q I h => PySem.W.methodCall_KW (pl := pl) (thn (hO.run pn s σ H _ I h) fun u s1 hh => ?_) hW⟩
  obtain ⟨x, H1, I1, rx, a, dx, fs, ex, ea, l, q⟩ := hh
  subst ex
  obtain rfl : u = Value.ref a := rx
  refine getmeth_ok I1 ea c hm l ?_
  exact PySem.W.callWith_K0 (first := [.ref a]) I1.kIn hm.kp (run_gW (us := [.ref a]) (vs := [.ref a]) F g hr (tk_pass tk σ) I1 (.cons rfl .nil) q)
end
end DX
set_option Elab.async false
set_option linter.all false
set_option maxRecDepth 100000
set_option maxHeartbeats 4000000
namespace DX
open PySem PySem.Spec PyProof.Rows L2
/-! ### C(..) -/
def tMakeQ (C : Addr) (sp : Sp) (E : L2.St → XK) (t : TA) : TE := fun σ H Q => t σ H fun vs H1 => ∀ y dy, H1 y = none → H1 dy = none → dy ≠ y → sp (.ref y :: vs) (upd (upd H1 dy (.own y)) y (.ins C dy [])) (fun v H2 => v = .non ∧ Q (.ref y) H2) (E σ)
section
variable {X : Cx} {k : Nat} {f C : Addr} {sp : Sp} {Ex : L2.St → XK} {x : Str} {p pos sp_ : Pos} {e : Expr} {es : List Expr} {t : TA} {te : TE}
theorem pe_makeQ (M : Mk X.K C f) (F : Gd.FnG X.prog X.w X.K X.mg X.base (L2.CX X.prog X.w) k f sp) (g : Gd.Calm0 X.A) (hr : Room (k + 1) X.A) (hg : Gl X x) (hm : X.mg x = some (.ref C)) (tk : Tk X Ex)
    (ha : PA X (e :: es) t) (hdb : (x == ("__debug__" : Str)) = false := by decide) (he : starEach (e :: es) X.env = (false, eval e X.env) :: starEach es X.env := by rfl) (hpl : (backTo pos (starEach es X.env)).any (·.1) = false := by rfl) :
    PE X (.Call (.Name x p) (e :: es) [] pos) (tMakeQ C sp Ex t) := by
  refine ⟨fun pins s σ H Q I h => ?_⟩
  refine wpAny_Call_Name_kw (ld_glob I hg hm ?_ hdb)
  refine PySem.W.callWith_K (h₀ := X.base) I.ok.mod.kin M.kp (thn (ha.run pos pins s σ H _ I h) fun us s1 ⟨vs, H1, I1, r, q⟩ => ⟨I1.kIn, ?_⟩) he hpl
  exact run_makeG M F g hr (tk_pass tk σ) I1 r q
theorem pe_makeQ0 (M : Mk X.K C f) (F : Gd.FnG X.prog X.w X.K X.mg X.base (L2.CX X.prog X.w) k f sp) (g : Gd.Calm0 X.A) (hr : Room (k + 1) X.A) (hg : Gl X x) (hm : X.mg x = some (.ref C)) (tk : Tk X Ex) (hdb : (x == ("__debug__" : Str)) = false := by decide) :
    PE X (.Call (.Name x p) [] [] pos) (tMakeQ C sp Ex tNil) := by
  refine ⟨fun pins s σ H Q I h => ?_⟩
  refine wpAny_Call_Name_kw (ld_glob I hg hm ?_ hdb)
  exact PySem.W.callWith_K0 I.kIn M.kp (run_makeG (us := []) M F g hr (tk_pass tk σ) I .nil h)
/-- C(*xs) -/
def tMakeSQ (K : PySem.W.Frag) (C : Addr) (sp : Sp) (E : L2.St → XK) (te : TE) : TE := fun σ H Q => te σ H fun y H1 => ∃ a xs, y = V.ref a ∧ (SqT K H1 a xs ∨ SqL K H1 a xs) ∧ ∀ x dx, H1 x = Option.none → H1 dx = Option.none → dx ≠ x →
  sp (V.ref x :: xs) (upd (upd H1 dx (.own x)) x (.ins C dx [])) (fun v H2 => v = .non ∧ Q (.ref x) H2) (E σ)
theorem pe_makeSQ (M : Mk X.K C f) (F : Gd.FnG X.prog X.w X.K X.mg X.base (L2.CX X.prog X.w) k f sp) (g : Gd.Calm0 X.A) (hr : Room (k + 1) X.A) (hg : Gl X x) (hm : X.mg x = some (.ref C)) (tk : Tk X Ex) (he : PE X e te) (hd : (x == ("__debug__" : Str)) = false := by decide)
    (hst : starEach [.Starred e sp_] X.env = [(true, eval e X.env)] := by rfl) :
    PE X (.Call (.Name x p) [.Starred e sp_] [] pos) (tMakeSQ X.K C sp Ex te) := by
  refine ⟨fun pins s σ H Q I h => ?_⟩
  refine wpAny_Call_Name_kw (ld_glob I hg hm ?_ hd)
  refine PySem.W.callWith_S (h₀ := X.base) I.ok.mod.kin M.kp (thn (he.run pins s σ H _ I h) fun v s1 ⟨y, H1, I1, ry, a, xs, ey, hxs, q⟩ => ?_) hst
  subst ey
  obtain rfl : v = Value.ref a := ry
  exact StX.star_any I1 hxs fun us s2 I2 rv => ⟨I2.kIn, run_makeG M F g hr (tk_pass tk σ) I2 rv q⟩
end
section
variable {K : PySem.W.Frag} {Z : Hp} {as as' as1 : List Addr} {F F' F1 H H' H1 : Hp} {Ex : L2.St → XK}
/-- an error leaves a making: the new object is forgotten -/
def xMake (n : Nat) (μ1 : Mem) (E : Addr → List (Str × D) → Mem → Prop) : Addr → List (Str × D) → Mem → Prop := fun C gs μ2 => cldF n gs = true ∧ stays n μ1 μ2 ∧ E C gs (μ2.take n)
def dMakeM (C : Addr) (S : DSp) : List D → Mem → (D → Mem → Prop) → (Addr → List (Str × D) → Mem → Prop) → Prop := fun ds μ1 Q E =>
  S (.ob μ1.length :: ds) (μ1 ++ [.ins C []]) (fun r μ2 => r = .non ∧ Q (.ob μ1.length) μ2) (xMake μ1.length μ1 E)
def dMakeF (C : Addr) (S : DSp) : List D → Mem → (D → Mem → Prop) → (Addr → List (Str × D) → Mem → Prop) → Prop := fun ds μ1 Q E =>
  S (.ob μ1.length :: ds) (μ1 ++ [.ins C []]) (fun r μ2 => r = .non ∧ ∃ fs, μ2 = μ1 ++ [.ins C fs] ∧ cldF μ1.length fs = true ∧ Q (.ins C fs) μ1) (xMake μ1.length μ1 E)
theorem Mm.closed {μ : Mem} (M : Mm K Z as F H μ) {k : Nat} {m : DX.M} (e : μ[k]? = some m) : cldM μ.length m = true := by
  obtain ⟨a, ha, x⟩ := M.at_ k m e
  rw [← M.len]
  exact x.cld
theorem Gr.take {n : Nat} (g : Gr as F as' F') (hn : as.length ≤ n) {F2 : Hp} (s : Same F' F2) : Gr as F (as'.take n) F2 := ⟨g.f.trans s, fun k a e => by
  have hk := (List.getElem?_eq_some_iff.mp e).1
  rw [List.getElem?_take_of_lt (by omega)]
  exact g.p k a e⟩
theorem excR_cut {bs : List Addr} {n : Nat} (hb : ∀ (k : Nat) (a : Addr), k < n → as[k]? = some a → bs[k]? = some a) {dx : Option Addr} {gs : List (Str × D)} (h : ExcR K as F dx gs) (c : cldF n gs = true) (s : Same F F') : ExcR K bs F' dx gs := by
  rcases h with h | ⟨dd, fs, e1, e2, r⟩
  · exact .inl h
  · exact .inr ⟨dd, fs, e1, s _ _ e2, (r.cut hb c).up ⟨s, fun _ _ e => e⟩⟩
theorem take_get {n : Nat} : ∀ (k : Nat) (a : Addr), k < n → as[k]? = some a → (as.take n)[k]? = some a := fun k a hk h => by rw [List.getElem?_take_of_lt hk]; exact h
theorem stays_closed {n : Nat} {μ1 μ2 : Mem} (M1 : Mm K Z as F H μ1) (hn : n = μ1.length) (h : stays n μ1 μ2) : ∀ (k : Nat) (m : DX.M), k < n → μ2[k]? = some m → cldM n m = true := fun k m hk e => by
  rcases h.2 k m hk e with z | z
  · rw [hn]; exact M1.closed z
  · exact z
theorem mm_made {μ1 : Mem} (M1 : Mm K Z as1 F1 H1 μ1) {C y dy : Addr} (ny : H1 y = none) (nd : H1 dy = none) (ne : dy ≠ y) : Mm K Z (as1 ++ [y]) F1 (upd (upd H1 dy (.own y)) y (.ins C dy [])) (μ1 ++ [.ins C []]) :=
  (M1.ext (same_upd nd)).addM (m := .ins C []) (by rw [upd_ne ne.symm]; exact ny) ⟨dy, [], upd_same, .nil⟩
theorem made_xl {E : XD} {σ : L2.St} {ρ : Rho} {μ1 : Mem} {y : Addr} (R1 : Rp K Z as1 F1 H1 σ ρ μ1) (X : XL K Ex Z as1 F1 E) : ∀ C gs dx μ' as' F' H', Gr (as1 ++ [y]) F1 as' F' → Mm K Z as' F' H' μ' → ExcR K as' F' dx gs → xMake μ1.length μ1 (E ρ) C gs μ' → Ex σ (.ref C) dx H' := fun C gs dx μ' as' F' H' g M er q => by
  obtain ⟨c, st, q⟩ := q
  obtain ⟨M2, sf⟩ := M.freeze st.1 (stays_closed R1.mm rfl st)
  have g1 : Gr as1 F1 as' F' := Gr.add.trans g
  have g2 := g1.take (n := μ1.length) (Nat.le_of_eq R1.mm.len) sf
  exact X σ ρ _ _ _ H' C gs dx g2 (R1.up g2 M2) (excR_cut take_get er c sf) q
theorem sim_makeV {C : Addr} {S : DSp} {σ : L2.St} {ρ : Rho} {μ1 : Mem} {vs : List V} {ds : List D} {Q : D → Mem → Prop} {E : XD} {Q' : VK} (R1 : Rp K Z as1 F1 H1 σ ρ μ1) (X : XL K Ex Z as1 F1 E) (r1 : RepL K as1 F1 vs ds) (m : Bool) (h : if m = true then dMakeM C S ds μ1 Q (E ρ) else dMakeF C S ds μ1 Q (E ρ))
    (k : ∀ v d μ' as' F' H', Gr as1 F1 as' F' → Rp K Z as' F' H' σ ρ μ' → Rep K as' F' v d → Q d μ' → Q' v H') {y dy : Addr} (ny : H1 y = none) (nd : H1 dy = none) (ne : dy ≠ y) :
    toSp K S (.ref y :: vs) (upd (upd H1 dy (.own y)) y (.ins C dy [])) (fun v H2 => v = .non ∧ Q' (.ref y) H2) (Ex σ) := by
  have M2 := mm_made (C := C) R1.mm ny nd ne
  have ro : Rep K (as1 ++ [y]) F1 (.ref y) (.ob μ1.length) := rep_ob R1.mm.len
  cases m with
  | true =>
    rw [if_pos rfl] at h
    refine ⟨_, _, _, _, _, _, _, .cons ro (r1.up Gr.add), M2, h, fun v d μ' as' F' H' g M r q => ?_, made_xl R1 X⟩
    obtain ⟨rfl, q⟩ := q
    cases r
    exact ⟨rfl, k _ _ μ' as' F' H' (Gr.add.trans g) (R1.up (Gr.add.trans g) M) (ro.up g) q⟩
  | false =>
    rw [if_neg Bool.false_ne_true] at h
    refine ⟨_, _, _, _, _, _, _, .cons ro (r1.up Gr.add), M2, h, fun v d μ' as' F' H' g M r q => ?_, made_xl R1 X⟩
    obtain ⟨rfl, fs, rfl, c, q⟩ := q
    cases r
    refine ⟨rfl, ?_⟩
    have hn : μ1.length ≤ (μ1 ++ [DX.M.ins C fs]).length := by rw [List.length_append]; exact Nat.le_add_right _ _
    have cl : ∀ (k : Nat) (m : DX.M), k < μ1.length → (μ1 ++ [DX.M.ins C fs])[k]? = some m → cldM μ1.length m = true := fun k m hk e => by
      rw [List.getElem?_append_left hk] at e
      exact R1.mm.closed e
    obtain ⟨M3, sf⟩ := M.freeze hn cl
    have g1 : Gr as1 F1 as' F' := Gr.add.trans g
    have g2 := g1.take (n := μ1.length) (Nat.le_of_eq R1.mm.len) sf
    have z := fz_rep M sf 1 (ro.up g)
    have e : fz (μ1 ++ [DX.M.ins C fs]) μ1.length 1 (.ob μ1.length) = .ins C fs := by
      show (if μ1.length < μ1.length then D.ob μ1.length else match (μ1 ++ [DX.M.ins C fs])[μ1.length]? with
        | some (.lst ds) => .lst (ds.map (fz _ _ 0))
        | some (.ins C fs) => .ins C (fs.map fun p => (p.1, fz _ _ 0 p.2))
        | some (.dic kvs) => .dic (kvs.map fun p => (p.1, fz _ _ 0 p.2))
        | _ => .ob μ1.length) = _
      rw [if_neg (Nat.lt_irrefl _), List.getElem?_append_right (Nat.le_refl _), Nat.sub_self]
      show D.ins C (fs.map fun p => (p.1, p.2)) = _
      simp
    rw [e] at z
    rw [List.take_left' rfl] at M3
    exact k _ _ μ1 _ _ H' g2 (R1.up g2 M3) (z.cut take_get c) q
def uMakeM (C : Addr) (S : DSp) (u : DTA) : DTE := fun ρ μ Q E => u ρ μ (fun ds μ1 => dMakeM C S ds μ1 Q (E ρ)) E
def uMakeF (C : Addr) (S : DSp) (u : DTA) : DTE := fun ρ μ Q E => u ρ μ (fun ds μ1 => dMakeF C S ds μ1 Q (E ρ)) E
theorem sim_makeM {C : Addr} {S : DSp} {t : TA} {u : DTA} (a : SimA K Ex t u) : Sim K Ex (tMakeQ C (toSp K S) Ex t) (uMakeM C S u) := fun Z as F H σ ρ μ Q E Q' R X h k =>
  a Z as F H σ ρ μ _ E _ R X h fun vs ds μ1 as1 F1 H1 g1 R1 r1 h1 y dy ny nd ne => sim_makeV R1 (X.up g1) r1 true (by rw [if_pos rfl]; exact h1) (fun v d μ' as' F' H' g M r q => k v d μ' as' F' H' (g1.trans g) M r q) ny nd ne
theorem sim_makeF {C : Addr} {S : DSp} {t : TA} {u : DTA} (a : SimA K Ex t u) : Sim K Ex (tMakeQ C (toSp K S) Ex t) (uMakeF C S u) := fun Z as F H σ ρ μ Q E Q' R X h k =>
  a Z as F H σ ρ μ _ E _ R X h fun vs ds μ1 as1 F1 H1 g1 R1 r1 h1 y dy ny nd ne => sim_makeV R1 (X.up g1) r1 false (by rw [if_neg Bool.false_ne_true]; exact h1) (fun v d μ' as' F' H' g M r q => k v d μ' as' F' H' (g1.trans g) M r q) ny nd ne
/-- C(*xs), frozen -/
def uMakeSF (C : Addr) (S : DSp) (u : DTE) : DTE := fun ρ μ Q E => u ρ μ (fun x μ1 => match view μ1 x with
  | .lst ds => dMakeF C S ds μ1 Q (E ρ)
  | .tup ds => dMakeF C S ds μ1 Q (E ρ)
  | _ => False) E
theorem sim_makeSF {C : Addr} {S : DSp} {t : TE} {u : DTE} (a : Sim K Ex t u) : Sim K Ex (tMakeSQ K C (toSp K S) Ex t) (uMakeSF C S u) := fun Z as F H σ ρ μ Q E Q' R X h k =>
  a Z as F H σ ρ μ _ E _ R X h fun v d μ1 as1 F1 H1 g1 R1 r1 h1 => by
    have h1 : (match view μ1 d with | .lst ds => dMakeF C S ds μ1 Q (E ρ) | .tup ds => dMakeF C S ds μ1 Q (E ρ) | _ => False) := h1
    cases e : view μ1 d with
    | lst ds =>
      rw [e] at h1
      obtain ⟨p, vs, rfl, q, x⟩ := view_lst R1.mm r1 e
      exact ⟨p, vs, rfl, .inr q, fun y dy ny nd ne => sim_makeV R1 (X.up g1) x false (by rw [if_neg Bool.false_ne_true]; exact h1) (fun v d μ' as' F' H' g M r q => k v d μ' as' F' H' (g1.trans g) M r q) ny nd ne⟩
    | tup ds =>
      rw [e] at h1
      obtain ⟨p, vs, rfl, q, x⟩ := view_tup R1.mm r1 e
      exact ⟨p, vs, rfl, .inl q, fun y dy ny nd ne => sim_makeV R1 (X.up g1) x false (by rw [if_neg Bool.false_ne_true]; exact h1) (fun v d μ' as' F' H' g M r q => k v d μ' as' F' H' (g1.trans g) M r q) ny nd ne⟩
    | _ => rw [e] at h1; exact h1.elim
/-! ### properties -/
def tPropQ (C : Addr) (sp : Sp) (ta : TE) : TE := fun σ H Q => ta σ H fun x H1 => ∃ a dx fs, x = .ref a ∧ H1 a = some (.ins C dx fs) ∧ sp [.ref a] H1 Q E0
def isIns (C : Addr) (μ : Mem) (x : D) : Prop := match view μ x with
  | .ins C' _ => C' = C
  | _ => False
theorem isIns_at {C : Addr} {μ : Mem} (M : Mm K Z as F H μ) {v : V} {d : D} (r : Rep K as F v d) (h : isIns C μ d) : ∃ a dx fs, v = .ref a ∧ H a = some (.ins C dx fs) := by
  unfold isIns at h
  cases e : view μ d with
  | ins C' gs =>
    rw [e] at h
    have h : C' = C := h
    subst h
    obtain ⟨a, dx, fs, rfl, q, x⟩ := view_ins M r e
    exact ⟨a, dx, fs, rfl, q⟩
  | _ => rw [e] at h; exact h.elim
def uProp (C : Addr) (S : DSp) (uo : DTE) : DTE := fun ρ μ Q E => uo ρ μ (fun x μ1 => isIns C μ1 x ∧ S [x] μ1 Q (XN ρ)) E
theorem sim_prop {C : Addr} {S : DSp} {to : TE} {uo : DTE} (o : Sim K Ex to uo) : Sim K Ex (tPropQ C (toSp K S) to) (uProp C S uo) := fun Z as F H σ ρ μ Q E Q' R X h k =>
  o Z as F H σ ρ μ _ E _ R X h fun v d μ1 as1 F1 H1 g1 R1 r1 h1 => by
    obtain ⟨p, dx, fs, rfl, q⟩ := isIns_at R1.mm r1 h1.1
    exact ⟨p, dx, fs, rfl, q, sp_use (Ex := X0) (E := XN) R1 XL.no (.cons r1 .nil) h1.2 fun v d μ' as' F' H' g M r q => k v d μ' as' F' H' (g1.trans g) (R1.up g M) r q⟩
end
section
variable {X : Cx} {k : Nat} {f C p g : Addr} {sp : Sp} {Ex : L2.St → XK} {x n : Str} {pos : Pos} {e : Expr} {ta : TE}
theorem pe_propQ (he : PE X e ta) (c : Cls X.K C) (hp : PropOf X.K C n p g) (F : Gd.FnG X.prog X.w X.K X.mg X.base (L2.CX X.prog X.w) k g sp) (gd : Gd.Calm0 X.A) (hr : Room (k + 1) X.A)
    (hab : attributeBase e n X.env (eval e X.env) = eval e X.env) : PE X (.Attribute e n pos) (tPropQ C sp ta) := by
  refine ⟨fun pins s σ H Q I h => ?_⟩
  refine attr_of hab (thn (he.run pins s σ H _ I h) fun u s1 ⟨x, H1, I1, rx, a, dx, fs, ex, ea, q⟩ => ?_)
  subst ex
  obtain rfl : u = Value.ref a := rx
  obtain ⟨mA, O, _, _, _, _⟩ := ins_get I1.hok ea
  obtain ⟨od, J, _⟩ := O.look
  obtain ⟨rest, hrec⟩ := hp.rec_
  have I2 := I1.tok (s1.toks + 1)
  have hc : (PySem.W.clsIn X.K C).isSome = true := by
    obtain ⟨cd, hc, _⟩ := PySem.W.any_some c.hd
    rw [hc]
    rfl
  refine PySem.W.get_bind I1.kIn J (PySem.W.plainGet_of (c.get n)).1 (PySem.W.findObj_data hc hp.at_ hp.get hp.tak) (PySem.W.plainGet_of (c.get n)).2 (wpAny_call (PySem.W.prop_get (s := { s1 with toks := s1.toks + 1 }) I1.kIn hrec ?_))
  refine codeAny_mono (F X.A.in1 X.stack _ H1 [.ref a] [.ref a] Q E0 gd hr.in1 I2.env0.in1 (.cons rfl .nil) q) fun r s' hq => ?_
  match r, hq with
  | .error er, hq =>
    obtain ⟨_, _, _, _, _, _, _, _, _, _, _, _, z⟩ := hq
    exact z.elim
  | .ok (.ret u), hq =>
    obtain ⟨v, H', I3, rv, q3⟩ := I2.after hq
    show wpAny _ _ (handedOut u) _ _ _
    rw [PySem.W.handedOut_of (handed_of rv)]
    exact wpAny_pure ⟨v, H', I3, rv, q3⟩
end
end DX
set_option Elab.async false
set_option linter.all false
set_option maxRecDepth 100000
set_option maxHeartbeats 4000000
namespace DX
open PySem PySem.Spec PyProof.Rows L2
/-! ### statements -/
abbrev DTG := D → Rho → Mem → (Rho → Mem → Prop) → XD → Prop
abbrev DTGs := List D → Rho → Mem → (Rho → Mem → Prop) → XD → Prop
section
variable {K : PySem.W.Frag} {Z : Hp} {as as' as1 : List Addr} {F F' F1 H H' H1 : Hp} {Ex : L2.St → XK}
def SimG (K : PySem.W.Frag) (Ex : L2.St → XK) (t : TG) (u : DTG) : Prop :=
  ∀ (Z : Hp) (as : List Addr) (F H : Hp) (σ : L2.St) (ρ : Rho) (μ : Mem) (v : V) (d : D) (Q : Rho → Mem → Prop) (E : XD) (Q' : L2.St → Hp → Prop), Rp K Z as F H σ ρ μ → XL K Ex Z as F E → Rep K as F v d → u d ρ μ Q E →
    (∀ σ' ρ' μ' as' F' H', Gr as F as' F' → Rp K Z as' F' H' σ' ρ' μ' → Q ρ' μ' → Q' σ' H') → t v σ H Q'
def SimGs (K : PySem.W.Frag) (Ex : L2.St → XK) (t : TGs) (u : DTGs) : Prop :=
  ∀ (Z : Hp) (as : List Addr) (F H : Hp) (σ : L2.St) (ρ : Rho) (μ : Mem) (v : List V) (d : List D) (Q : Rho → Mem → Prop) (E : XD) (Q' : L2.St → Hp → Prop), Rp K Z as F H σ ρ μ → XL K Ex Z as F E → RepL K as F v d → u d ρ μ Q E →
    (∀ σ' ρ' μ' as' F' H', Gr as F as' F' → Rp K Z as' F' H' σ' ρ' μ' → Q ρ' μ' → Q' σ' H') → t v σ H Q'
def uGName (i : Nat) : DTG := fun d ρ μ Q _ => Q (ρ.set i (some d)) μ
theorem sim_gName (i : Nat) : SimG K Ex (gName i) (uGName i) := fun Z as F H σ ρ μ v d Q E Q' R X r h k => k _ _ μ as F H Gr.refl ⟨R.mm, R.env.set r i⟩ h
def uGNil : DTGs := fun ds ρ μ Q _ => match ds with
  | [] => Q ρ μ
  | _ => False
def uGCons (u : DTG) (w : DTGs) : DTGs := fun ds ρ μ Q E => match ds with
  | d :: r => u d ρ μ (fun ρ1 μ1 => w r ρ1 μ1 Q E) E
  | [] => False
theorem sim_gNil : SimGs K Ex gNil uGNil := fun Z as F H σ ρ μ v d Q E Q' R X r h k => by
  cases r with
  | nil => exact ⟨rfl, k σ ρ μ as F H Gr.refl R h⟩
  | cons _ _ => exact h.elim
theorem sim_gCons {t : TG} {u : DTG} {s : TGs} {w : DTGs} (a : SimG K Ex t u) (b : SimGs K Ex s w) : SimGs K Ex (gCons t s) (uGCons u w) := fun Z as F H σ ρ μ v d Q E Q' R X r h k => by
  cases r with
  | nil => exact h.elim
  | cons r1 r2 => exact ⟨_, _, rfl, a Z as F H σ ρ μ _ _ _ E _ R X r1 h fun σ1 ρ1 μ1 as1 F1 H1 g1 R1 h1 => b Z as1 F1 H1 σ1 ρ1 μ1 _ _ _ E _ R1 (X.up g1) (r2.up g1) h1 fun σ2 ρ2 μ2 as2 F2 H2 g2 => k σ2 ρ2 μ2 as2 F2 H2 (g1.trans g2)⟩
def uGTup (n : Nat) (w : DTGs) : DTG := fun d ρ μ Q E => match view μ d with
  | .tup ds => ds.length = n ∧ w ds ρ μ Q E
  | _ => False
theorem sim_gTup {n : Nat} {s : TGs} {w : DTGs} (b : SimGs K Ex s w) : SimG K Ex (gTup K n s) (uGTup n w) := fun Z as F H σ ρ μ v d Q E Q' R X r h k => by
  have h : (match view μ d with | .tup ds => ds.length = n ∧ w ds ρ μ Q E | _ => False) := h
  cases e : view μ d with
  | tup ds =>
    rw [e] at h
    obtain ⟨p, vs, rfl, q, x⟩ := view_tup R.mm r e
    exact ⟨p, vs, rfl, q, by rw [x.len]; exact h.1, b Z as F H σ ρ μ vs ds Q E Q' R X x h.2 k⟩
  | _ => rw [e] at h; exact h.elim
/-- xs[i] = .. -/
def uGSet (uo ui : DTE) : DTG := fun d ρ μ Q E => uo ρ μ (fun o μ1 => ui ρ μ1 (fun i μ2 => match o, i with
  | .ob k, .int j => match μ2[k]? with
    | some (.lst xs) => match ixN xs.length j with
      | some m => Q ρ (μ2.set k (.lst (xs.set m d)))
      | none => False
    | _ => False
  | _, _ => False) E) E
theorem sim_gSet {to ti : TE} {uo ui : DTE} (a : Sim K Ex to uo) (b : Sim K Ex ti ui) : SimG K Ex (gSub to ti rSetL) (uGSet uo ui) := fun Z as F H σ ρ μ v d Q E Q' R X r h k =>
  a Z as F H σ ρ μ _ E _ R X h fun v1 d1 μ1 as1 F1 H1 g1 R1 r1 h1 => b Z as1 F1 H1 σ ρ μ1 _ E _ R1 (X.up g1) h1 fun v2 d2 μ2 as2 F2 H2 g2 R2 r2 h2 => by
    have ro := r1.up g2
    cases ro <;> try exact h2.elim
    rename_i n a q
    cases r2 <;> try exact h2.elim
    rename_i j
    have h2 : (match μ2[n]? with | some (.lst xs) => (match ixN xs.length j with | some m => Q ρ (μ2.set n (.lst (xs.set m d))) | none => False) | _ => False) := h2
    cases z : μ2[n]? with
    | none => rw [z] at h2; exact h2.elim
    | some m =>
      rw [z] at h2
      obtain ⟨b, hb, y⟩ := R2.mm.at_ n m z
      obtain rfl := Option.some.inj (q.symm.trans hb)
      cases m with
      | lst xs =>
        obtain ⟨vs, e1, e2⟩ := y
        have h2 : (match ixN xs.length j with | some m => Q ρ (μ2.set n (.lst (xs.set m d))) | none => False) := h2
        cases w : ixN xs.length j with
        | none => rw [w] at h2; exact h2.elim
        | some m =>
          rw [w] at h2
          have rd := (r.up g1).up g2
          refine ⟨_, vs, _, m, rfl, rfl, e1, by rw [e2.len]; exact w, ?_⟩
          exact k σ ρ _ as2 F2 _ (g1.trans g2) ⟨R2.mm.put (m := .lst (xs.set m d)) q ⟨_, upd_same, e2.set rd m⟩, R2.env⟩ h2
      | ins C fs => exact h2.elim
      | dic kv => exact h2.elim
/-! small statements -/
def uAsg (u : DTE) (g : DTG) : DTS := fun De E ρ μ => u ρ μ (fun d μ1 => g d ρ μ1 De.nx E) E
theorem sim_asg {t : TE} {u : DTE} {g : TG} {w : DTG} (a : Sim K Ex t u) (b : SimG K Ex g w) : SimS K Ex (tAsg t g) (uAsg u w) := fun Z as F H σ ρ μ De E D' R X h kn kr kb kc =>
  a Z as F H σ ρ μ _ E _ R X h fun v d μ1 as1 F1 H1 g1 R1 r1 h1 => b Z as1 F1 H1 σ ρ μ1 v d _ E _ R1 (X.up g1) r1 h1 fun σ2 ρ2 μ2 as2 F2 H2 g2 => kn σ2 ρ2 μ2 as2 F2 H2 (g1.trans g2)
def uDrop (u : DTE) : DTS := fun De E ρ μ => u ρ μ (fun _ μ1 => De.nx ρ μ1) E
theorem sim_drop {t : TE} {u : DTE} (a : Sim K Ex t u) : SimS K Ex (tDrop t) (uDrop u) := fun Z as F H σ ρ μ De E D' R X h kn kr kb kc =>
  a Z as F H σ ρ μ _ E _ R X h fun v d μ1 as1 F1 H1 g1 R1 r1 h1 => kn σ ρ μ1 as1 F1 H1 g1 R1 h1
def uRet (u : DTE) : DTS := fun De E ρ μ => u ρ μ De.rt E
theorem sim_ret {t : TE} {u : DTE} (a : Sim K Ex t u) : SimS K Ex (tRet t) (uRet u) := fun Z as F H σ ρ μ De E D' R X h kn kr kb kc =>
  a Z as F H σ ρ μ _ E _ R X h fun v d μ1 as1 F1 H1 g1 R1 r1 h1 => kr v d μ1 as1 F1 H1 g1 R1.mm r1 h1
def uRetN : DTS := fun De _ _ μ => De.rt .non μ
theorem sim_retN : SimS K Ex tRetN uRetN := fun Z as F H σ ρ μ De E D' R X h kn kr kb kc => kr _ _ μ as F H Gr.refl R.mm .non h
def uNext : DTS := fun De _ ρ μ => De.nx ρ μ
def uBreak : DTS := fun De _ ρ μ => De.bk ρ μ
def uCont : DTS := fun De _ ρ μ => De.ct ρ μ
def uNever : DTS := fun _ _ _ _ => False
theorem sim_next : SimS K Ex tNext uNext := fun Z as F H σ ρ μ De E D' R X h kn kr kb kc => kn σ ρ μ as F H Gr.refl R h
theorem sim_break : SimS K Ex tBreak uBreak := fun Z as F H σ ρ μ De E D' R X h kn kr kb kc => kb σ ρ μ as F H Gr.refl R h
theorem sim_cont : SimS K Ex tCont uCont := fun Z as F H σ ρ μ De E D' R X h kn kr kb kc => kc σ ρ μ as F H Gr.refl R h
theorem sim_never : SimS K Ex tNever uNever := fun Z as F H σ ρ μ De E D' R X h kn kr kb kc => h.elim
def uSeq (t u : DTS) : DTS := fun De E ρ μ => t { De with nx := u De E } E ρ μ
theorem sim_seq {t s : TS} {u w : DTS} (a : SimS K Ex t u) (b : SimS K Ex s w) : SimS K Ex (tSeq t s) (uSeq u w) := fun Z as F H σ ρ μ De E D' R X h kn kr kb kc =>
  a Z as F H σ ρ μ { De with nx := w De E } E _ R X h (fun σ1 ρ1 μ1 as1 F1 H1 g1 R1 h1 => b Z as1 F1 H1 σ1 ρ1 μ1 De E D' R1 (X.up g1) h1 (fun σ2 ρ2 μ2 as2 F2 H2 g2 => kn σ2 ρ2 μ2 as2 F2 H2 (g1.trans g2))
    (fun v d μ2 as2 F2 H2 g2 => kr v d μ2 as2 F2 H2 (g1.trans g2)) (fun σ2 ρ2 μ2 as2 F2 H2 g2 => kb σ2 ρ2 μ2 as2 F2 H2 (g1.trans g2)) (fun σ2 ρ2 μ2 as2 F2 H2 g2 => kc σ2 ρ2 μ2 as2 F2 H2 (g1.trans g2))) kr kb kc
def uIfS (c : DTT) (t u : DTS) : DTS := fun De E ρ μ => c ρ μ (fun b μ1 => if b = true then t De E ρ μ1 else u De E ρ μ1) E
theorem sim_ifS {tc : TT} {uc : DTT} {t s : TS} {u w : DTS} (c : SimT K Ex tc uc) (a : SimS K Ex t u) (b : SimS K Ex s w) : SimS K Ex (tIfS tc t s) (uIfS uc u w) := fun Z as F H σ ρ μ De E D' R X h kn kr kb kc =>
  c Z as F H σ ρ μ _ E _ R X h fun d μ1 as1 F1 H1 g1 R1 h1 => by
    have go : ∀ {t : TS} {u : DTS}, SimS K Ex t u → u De E ρ μ1 → t D' σ H1 := fun a h => a Z as1 F1 H1 σ ρ μ1 De E D' R1 (X.up g1) h (fun σ2 ρ2 μ2 as2 F2 H2 g2 => kn σ2 ρ2 μ2 as2 F2 H2 (g1.trans g2))
      (fun v d μ2 as2 F2 H2 g2 => kr v d μ2 as2 F2 H2 (g1.trans g2)) (fun σ2 ρ2 μ2 as2 F2 H2 g2 => kb σ2 ρ2 μ2 as2 F2 H2 (g1.trans g2)) (fun σ2 ρ2 μ2 as2 F2 H2 g2 => kc σ2 ρ2 μ2 as2 F2 H2 (g1.trans g2))
    cases d with
    | true => rw [if_pos rfl] at h1 ⊢; exact go a h1
    | false => rw [if_neg Bool.false_ne_true] at h1 ⊢; exact go b h1
/-- the middle told -/
def uCut (t : DTS) : DTS := fun De E ρ μ => ∃ J : Rho → Mem → Prop, t { De with nx := J } E ρ μ ∧ ∀ ρ' μ', J ρ' μ' → De.nx ρ' μ'
theorem sim_cut {t : TS} {u : DTS} (a : SimS K Ex t u) : SimS K Ex t (uCut u) := fun Z as F H σ ρ μ De E D' R X h kn kr kb kc => by
  obtain ⟨J, h1, h2⟩ := h
  exact a Z as F H σ ρ μ { De with nx := J } E D' R X h1 (fun σ2 ρ2 μ2 as2 F2 H2 g2 R2 z => kn σ2 ρ2 μ2 as2 F2 H2 g2 R2 (h2 _ _ z)) kr kb kc
/-- x op= e -/
def uAug (i : Nat) (u : DTE) (dr : DR2) : DTS := fun De E ρ μ => match ρ[i]? with
  | some (some x) => u ρ μ (fun y μ1 => dr x y μ1 fun z μ2 => De.nx (ρ.set i (some z)) μ2) E
  | _ => False
theorem sim_aug {i : Nat} {t : TE} {u : DTE} {r : TIp} {dr : DR2} (a : Sim K Ex t u) (s : SimR K r dr) : SimS K Ex (tAug i t r) (uAug i u dr) := fun Z as F H σ ρ μ De E D' R X h kn kr kb kc => by
  have h : (match ρ[i]? with | some (some x) => u ρ μ (fun y μ1 => dr x y μ1 fun z μ2 => De.nx (ρ.set i (some z)) μ2) E | _ => False) := h
  cases e : ρ[i]? with
  | none => rw [e] at h; exact h.elim
  | some o =>
    rw [e] at h
    cases o with
    | none => exact h.elim
    | some d =>
      obtain ⟨v, h1, h2⟩ := R.env.get i d e
      refine ⟨v, h1, a Z as F H σ ρ μ _ E _ R X h fun v1 d1 μ1 as1 F1 H1 g1 R1 r1 q1 => ?_⟩
      exact s Z as1 F1 H1 μ1 v v1 d d1 _ _ R1.mm (h2.up g1) r1 q1 fun v2 d2 μ2 as2 F2 H2 g2 M2 r2 q2 => kn _ _ μ2 as2 F2 H2 (g1.trans g2) ⟨M2, ((R1.env.up g2).set r2 i)⟩ q2
/-- o.f = e -/
def uSetF (C : Addr) (f : Str) (uo ue : DTE) : DTS := fun De E ρ μ => ue ρ μ (fun d μ1 => uo ρ μ1 (fun x μ2 => match x with
  | .ob k => match μ2[k]? with
    | some (.ins C' gs) => C' = C ∧ gs.length < 1000 ∧ De.nx ρ (μ2.set k (.ins C (putD f d gs)))
    | _ => False
  | _ => False) E) E
theorem sim_setF {C : Addr} {f : Str} {to te : TE} {uo ue : DTE} (c : Cls K C) (n : NoAttr K C f) (o : Sim K Ex to uo) (e : Sim K Ex te ue) : SimS K Ex (sFld K to te f) (uSetF C f uo ue) := fun Z as F H σ ρ μ De E D' R X h kn kr kb kc =>
  e Z as F H σ ρ μ _ E _ R X h fun v d μ1 as1 F1 H1 g1 R1 r1 h1 => o Z as1 F1 H1 σ ρ μ1 _ E _ R1 (X.up g1) h1 fun v2 d2 μ2 as2 F2 H2 g2 R2 r2 h2 => by
    cases r2 <;> try exact h2.elim
    rename_i m a q
    have h2 : (match μ2[m]? with | some (.ins C' gs) => C' = C ∧ gs.length < 1000 ∧ De.nx ρ (μ2.set m (.ins C (putD f d gs))) | _ => False) := h2
    cases z : μ2[m]? with
    | none => rw [z] at h2; exact h2.elim
    | some w =>
      rw [z] at h2
      obtain ⟨b, hb, y⟩ := R2.mm.at_ m w z
      obtain rfl := Option.some.inj (q.symm.trans hb)
      cases w with
      | ins C' gs =>
        obtain ⟨hc, hl, h3⟩ := h2
        subst hc
        obtain ⟨dx, fs, e1, e2⟩ := y
        refine ⟨_, _, dx, fs, rfl, e1, c, n, by rw [e2.len]; exact hl, ?_⟩
        exact kn σ ρ _ as2 F2 _ (g1.trans g2) ⟨R2.mm.put (m := .ins C' (putD f d gs)) q ⟨dx, _, upd_same, e2.put (r1.up g2)⟩, R2.env⟩ h3
      | _ => exact h2.elim
/-! ### what a loop walks -/
end
section
variable {K : PySem.W.Frag} {as as' as1 : List Addr} {F F' F1 H H' H1 : Hp} {Ex : L2.St → XK}
structure ItD (K : PySem.W.Frag) (as : List Addr) (F : Hp) (J : It) (ds : List D) (chk : Mem → Prop) : Prop where
  go : ∀ Z i as' F' H' μ, Gr as F as' F' → Mm K Z as' F' H' μ → chk μ → i < ds.length → J.go i H'
  yld : ∀ Z i as' F' H' μ v H2 d, Gr as F as' F' → Mm K Z as' F' H' μ → chk μ → ds[i]? = some d → J.yld i H' v H2 → ∃ F2, Gr as' F' as' F2 ∧ Mm K Z as' F2 H2 μ ∧ Rep K as' F2 v d
  stop : ∀ Z i as' F' H' μ, Gr as F as' F' → Mm K Z as' F' H' μ → chk μ → ds.length ≤ i → J.stop i H'
abbrev DTI := Rho → Mem → (List D → (Mem → Prop) → Mem → Prop) → XD → Prop
def SimI (K : PySem.W.Frag) (Ex : L2.St → XK) (t : TI) (u : DTI) : Prop :=
  ∀ (Z : Hp) (as : List Addr) (F H : Hp) (σ : L2.St) (ρ : Rho) (μ : Mem) (R : List D → (Mem → Prop) → Mem → Prop) (E : XD) (R' : It → Hp → Prop), Rp K Z as F H σ ρ μ → XL K Ex Z as F E → u ρ μ R E →
    (∀ J ds chk μ' as' F' H', Gr as F as' F' → Rp K Z as' F' H' σ ρ μ' → ItD K as' F' J ds chk → R ds chk μ' → R' J H') → t σ H R'
/-- a list or a tuple, left as it is -/
def iSeq (K : PySem.W.Frag) (tl : TE) : TI := fun σ H R => tl σ H fun x H1 => ∃ a, x = .ref a ∧ (((∃ xs, SqL K H1 a xs) ∧ R (Itl K a) H1) ∨ ((∃ xs, SqT K H1 a xs) ∧ R (Itt K a) H1))
end
section
variable {X : Cx} {tg : Expr}
theorem pi_seq {l : Expr} {tl : TE} (hl : PE X l tl) : PI X tg l (iSeq X.K tl) := by
  refine ⟨fun pins s σ H R I h => ?_⟩
  refine thn (hl.run pins s σ H _ I h) fun v s1 ⟨x, H1, I1, r1, q1⟩ => ?_
  obtain ⟨a, e, ⟨⟨xs, hq⟩, q⟩ | ⟨⟨xs, hq⟩, q⟩⟩ := q1
  · subst e
    cases r1
    obtain ⟨its, rv, p, hz⟩ := I1.list hq
    refine wpAny_pyIter_list p.isList ?_
    refine ⟨s1.heap.objs.size, [s1.heap.objs.size], _, _, H1, rfl, I1.kept (t' := s1.toks) fun b o e => Heap.get?_push_of_some _ e, turn_list a _, ⟨_, Heap.get?_push_size _ rfl, rfl, rfl⟩, fun b hb => ?_, q⟩
    have e : b = s1.heap.objs.size := by simpa using hb
    subst e
    exact I1.fpOk (Nat.le_refl _) (I1.hok.fresh (Nat.le_refl _))
  · subst e
    cases r1
    obtain ⟨its, rv, p, hz⟩ := I1.tuple hq
    refine wpAny_pyIter_tuple (show s1.heap.IsTuple a its.toArray from p) ?_
    refine ⟨s1.heap.objs.size, [s1.heap.objs.size], _, _, H1, rfl, I1.kept (t' := s1.toks) fun b o e => Heap.get?_push_of_some _ e, turn_tuple a _, ⟨_, Heap.get?_push_size _ rfl, rfl, rfl⟩, fun b hb => ?_, q⟩
    have e : b = s1.heap.objs.size := by simpa using hb
    subst e
    exact I1.fpOk (Nat.le_refl _) (I1.hok.fresh (Nat.le_refl _))
end
section
variable {K : PySem.W.Frag} {Z : Hp} {as as' as1 : List Addr} {F F' F1 H H' H1 : Hp} {Ex : L2.St → XK}
def uISeq (u : DTE) : DTI := fun ρ μ R E => u ρ μ (fun x μ1 => match view μ1 x with
  | .lst ds => R ds (fun μ => view μ x = .lst ds) μ1
  | .tup ds => R ds (fun _ => True) μ1
  | _ => False) E
theorem view_tup_any {μ μ' : Mem} {d : D} {ds : List D} (h : view μ d = .tup ds) : view μ' d = .tup ds := by
  cases d with
  | ob k =>
    exfalso
    have h : (match μ[k]? with | some (M.lst ds) => D.lst ds | some (.ins C fs) => .ins C fs | _ => .ob k) = .tup ds := h
    split at h <;> cases h
  | _ => first | exact h | cases h
theorem itD_list {v : V} {d : D} {a : Addr} (ev : v = .ref a) (r : Rep K as F v d) {ds : List D} : ItD K as F (Itl K a) ds (fun μ => view μ d = .lst ds) := by
  subst ev
  have at_ : ∀ Z as' F' H' μ, Gr as F as' F' → Mm K Z as' F' H' μ → view μ d = .lst ds → ∃ vs, SqL K H' a vs ∧ RepL K as' F' vs ds := fun Z as' F' H' μ g M c => by
    obtain ⟨b, vs, e, q, x⟩ := view_lst M (r.up g) c
    cases e
    exact ⟨vs, q, x⟩
  refine ⟨fun Z i as' F' H' μ g M c hi => ?_, fun Z i as' F' H' μ v H2 d' g M c hd y => ?_, fun Z i as' F' H' μ g M c hi => ?_⟩
  · obtain ⟨vs, q, x⟩ := at_ Z as' F' H' μ g M c
    obtain ⟨w, w1, _⟩ := x.get (List.getElem?_eq_getElem hi)
    exact ⟨vs, w, q, w1⟩
  · obtain ⟨vs, q, x⟩ := at_ Z as' F' H' μ g M c
    obtain ⟨w, w1, w2⟩ := x.get hd
    obtain ⟨rfl, y⟩ := y
    obtain rfl := Option.some.inj (w1.symm.trans (y vs q))
    exact ⟨F', Gr.refl, M, w2⟩
  · obtain ⟨vs, q, x⟩ := at_ Z as' F' H' μ g M c
    exact ⟨vs, q, by rw [x.len]; exact hi⟩
theorem itD_tup {v : V} {d : D} {a : Addr} (ev : v = .ref a) (r : Rep K as F v d) {ds : List D} {μ0 : Mem} (e0 : view μ0 d = .tup ds) : ItD K as F (Itt K a) ds (fun _ => True) := by
  subst ev
  have at_ : ∀ Z as' F' H' μ, Gr as F as' F' → Mm K Z as' F' H' μ → ∃ vs, SqT K H' a vs ∧ RepL K as' F' vs ds := fun Z as' F' H' μ g M => by
    obtain ⟨b, vs, e, q, x⟩ := view_tup M (r.up g) (view_tup_any e0)
    cases e
    exact ⟨vs, q, x⟩
  refine ⟨fun Z i as' F' H' μ g M c hi => ?_, fun Z i as' F' H' μ v H2 d' g M c hd y => ?_, fun Z i as' F' H' μ g M c hi => ?_⟩
  · obtain ⟨vs, q, x⟩ := at_ Z as' F' H' μ g M
    obtain ⟨w, w1, _⟩ := x.get (List.getElem?_eq_getElem hi)
    exact ⟨vs, w, q, w1⟩
  · obtain ⟨vs, q, x⟩ := at_ Z as' F' H' μ g M
    obtain ⟨w, w1, w2⟩ := x.get hd
    obtain ⟨rfl, y⟩ := y
    obtain rfl := Option.some.inj (w1.symm.trans (y vs q))
    exact ⟨F', Gr.refl, M, w2⟩
  · obtain ⟨vs, q, x⟩ := at_ Z as' F' H' μ g M
    exact ⟨vs, q, by rw [x.len]; exact hi⟩
theorem sim_iSeq {t : TE} {u : DTE} (a : Sim K Ex t u) : SimI K Ex (iSeq K t) (uISeq u) := fun Z as F H σ ρ μ R E R' r X h k =>
  a Z as F H σ ρ μ _ E _ r X h fun v d μ1 as1 F1 H1 g1 R1 r1 h1 => by
    have h1 : (match view μ1 d with | .lst ds => R ds (fun μ => view μ d = .lst ds) μ1 | .tup ds => R ds (fun _ => True) μ1 | _ => False) := h1
    cases e : view μ1 d with
    | lst ds =>
      rw [e] at h1
      obtain ⟨p, vs, ev, q, x⟩ := view_lst R1.mm r1 e
      exact ⟨p, ev, .inl ⟨⟨vs, q⟩, k _ ds _ μ1 as1 F1 H1 g1 R1 (itD_list ev r1) h1⟩⟩
    | tup ds =>
      rw [e] at h1
      obtain ⟨p, vs, ev, q, x⟩ := view_tup R1.mm r1 e
      exact ⟨p, ev, .inr ⟨⟨vs, q⟩, k _ ds _ μ1 as1 F1 H1 g1 R1 (itD_tup ev r1 e) h1⟩⟩
    | _ => rw [e] at h1; exact h1.elim
/-! range -/
def dints (lo : Int) : Nat → List D
  | 0 => []
  | n + 1 => .int lo :: dints (lo + 1) n
theorem dints_len : ∀ (lo : Int) (n : Nat), (dints lo n).length = n
  | _, 0 => rfl
  | lo, n + 1 => congrArg Nat.succ (dints_len (lo + 1) n)
theorem dints_get : ∀ (lo : Int) (n i : Nat), i < n → (dints lo n)[i]? = some (.int (lo + i))
  | _, 0, _, h => absurd h (Nat.not_lt_zero _)
  | lo, n + 1, 0, _ => by show some (D.int lo) = _; simp
  | lo, n + 1, i + 1, h => by
    show (dints (lo + 1) n)[i]? = _
    rw [dints_get (lo + 1) n i (Nat.lt_of_succ_lt_succ h)]
    congr 2
    omega
theorem itD_rng {lo : Int} {n : Nat} : ItD K as F (Itr lo n) (dints lo n) (fun _ => True) := by
  refine ⟨fun Z i as' F' H' μ g M c hi => by rw [dints_len] at hi; exact hi, fun Z i as' F' H' μ v H2 d g M c hd y => ?_, fun Z i as' F' H' μ g M c hi => by rw [dints_len] at hi; exact hi⟩
  obtain ⟨rfl, rfl⟩ := y
  have hi : i < n := by
    have := (List.getElem?_eq_some_iff.mp hd).1
    rwa [dints_len] at this
  rw [dints_get lo n i hi] at hd
  cases hd
  exact ⟨F', Gr.refl, M, .int _⟩
def uIRng1 (u : DTA) : DTI := fun ρ μ R E => u ρ μ (fun ds μ1 => match ds with
  | [.int j] => (-(2 ^ 62) ≤ j ∧ j < 2 ^ 62) ∧ R (dints 0 j.toNat) (fun _ => True) μ1
  | _ => False) E
def uIRng2 (u : DTA) : DTI := fun ρ μ R E => u ρ μ (fun ds μ1 => match ds with
  | [.int i, .int j] => (-(2 ^ 62) ≤ i ∧ i < 2 ^ 62 ∧ -(2 ^ 62) ≤ j ∧ j < 2 ^ 62) ∧ R (dints i (j - i).toNat) (fun _ => True) μ1
  | _ => False) E
theorem sim_iRng1 {t : TA} {u : DTA} (a : SimA K Ex t u) : SimI K Ex (iRng1 t) (uIRng1 u) := fun Z as F H σ ρ μ R E R' r X h k =>
  a Z as F H σ ρ μ _ E _ r X h fun vs ds μ1 as1 F1 H1 g1 R1 r1 h1 => by
    have h1 : (match (generalizing := false) ds with | [.int j] => (-(2 ^ 62) ≤ j ∧ j < 2 ^ 62) ∧ R (dints 0 j.toNat) (fun _ => True) μ1 | _ => False) := h1
    split at h1
    · cases r1 with
      | cons ra rb =>
        cases ra
        cases rb
        exact ⟨_, rfl, h1.1.1, h1.1.2, k _ _ _ μ1 as1 F1 H1 g1 R1 itD_rng h1.2⟩
    · exact h1.elim
theorem sim_iRng2 {t : TA} {u : DTA} (a : SimA K Ex t u) : SimI K Ex (iRng2 t) (uIRng2 u) := fun Z as F H σ ρ μ R E R' r X h k =>
  a Z as F H σ ρ μ _ E _ r X h fun vs ds μ1 as1 F1 H1 g1 R1 r1 h1 => by
    have h1 : (match (generalizing := false) ds with | [.int i, .int j] => (-(2 ^ 62) ≤ i ∧ i < 2 ^ 62 ∧ -(2 ^ 62) ≤ j ∧ j < 2 ^ 62) ∧ R (dints i (j - i).toNat) (fun _ => True) μ1 | _ => False) := h1
    split at h1
    · cases r1 with
      | cons ra rb =>
        cases ra
        cases rb with
        | cons ra rb =>
          cases ra
          cases rb
          exact ⟨_, _, rfl, h1.1, k _ _ _ μ1 as1 F1 H1 g1 R1 itD_rng h1.2⟩
    · exact h1.elim
/-! ### for -/
def uForGo (ug : DTG) (ub : DTS) (chk : Mem → Prop) (De : DEnds) (E : XD) : List D → Rho → Mem → Prop
  | [], ρ, μ => chk μ ∧ De.nx ρ μ
  | d :: ds, ρ, μ => chk μ ∧ ug d ρ μ (fun ρ1 μ1 => ub { De with nx := uForGo ug ub chk De E ds, ct := uForGo ug ub chk De E ds, bk := De.nx } E ρ1 μ1) E
def uFor (ui : DTI) (ug : DTG) (ub : DTS) : DTS := fun De E ρ μ => ui ρ μ (fun ds chk μ1 => uForGo ug ub chk De E ds ρ μ1) E
theorem sim_for {wi : TI} {ui : DTI} {g : TG} {ug : DTG} {tb : TS} {ub : DTS} (i : SimI K Ex wi ui) (gs : SimG K Ex g ug) (b : SimS K Ex tb ub) : SimS K Ex (tFor wi g tb) (uFor ui ug ub) := fun Z as F H σ ρ μ De E D' R X h kn kr kb kc =>
  i Z as F H σ ρ μ _ E _ R X h fun J ds chk μ1 as1 F1 H1 g1 R1 it h1 => by
    refine ⟨fun i m σ' H' => m = ds.length - i ∧ i ≤ ds.length ∧ ∃ as' F' ρ' μ', Gr as1 F1 as' F' ∧ Rp K Z as' F' H' σ' ρ' μ' ∧ uForGo ug ub chk De E (ds.drop i) ρ' μ', ⟨ds.length, by simp, Nat.zero_le _, as1, F1, ρ, μ1, Gr.refl, R1, by rw [List.drop_zero]; exact h1⟩, ?_⟩
    rintro i m σ' H' ⟨rfl, hi, as', F', ρ', μ', g2, R2, q⟩
    by_cases hlt : i < ds.length
    · rw [List.drop_eq_getElem_cons hlt] at q
      obtain ⟨c, q⟩ := q
      refine .inr ⟨it.go Z i as' F' H' μ' g2 R2.mm c hlt, fun σ2 H2 => ∃ as3 F3 ρ3 μ3, Gr as1 F1 as3 F3 ∧ Rp K Z as3 F3 H2 σ2 ρ3 μ3 ∧ uForGo ug ub chk De E (ds.drop (i + 1)) ρ3 μ3, fun σ2 H2 n => ⟨ds.length - (i + 1), by omega, rfl, hlt, n⟩, fun x H2 y => ?_⟩
      obtain ⟨F2, g3, M3, r3⟩ := it.yld Z i as' F' H' μ' x H2 _ g2 R2.mm c (List.getElem?_eq_getElem hlt) y
      have R3 := R2.up g3 M3
      have g13 := g1.trans (g2.trans g3)
      refine gs Z as' F2 H2 σ' ρ' μ' x _ _ E _ R3 (X.up g13) r3 q fun σ4 ρ4 μ4 as4 F4 H4 g4 R4 q4 => ?_
      refine b Z as4 F4 H4 σ4 ρ4 μ4 _ E _ R4 (X.up (g13.trans g4)) q4 (fun σ5 ρ5 μ5 as5 F5 H5 g5 R5 q5 => ⟨as5, F5, ρ5, μ5, ((g2.trans g3).trans g4).trans g5, R5, q5⟩) (fun v d μ5 as5 F5 H5 g5 => kr v d μ5 as5 F5 H5 ((g13.trans g4).trans g5))
        (fun σ5 ρ5 μ5 as5 F5 H5 g5 R5 q5 => kn σ5 ρ5 μ5 as5 F5 H5 ((g13.trans g4).trans g5) R5 q5) (fun σ5 ρ5 μ5 as5 F5 H5 g5 R5 q5 => ⟨as5, F5, ρ5, μ5, ((g2.trans g3).trans g4).trans g5, R5, q5⟩)
    · have e : ds.drop i = [] := List.drop_eq_nil_of_le (by omega)
      rw [e] at q
      exact .inl ⟨it.stop Z i as' F' H' μ' g2 R2.mm q.1 (by omega), kn σ' ρ' μ' as' F' H' (g1.trans g2) R2 q.2⟩
/-! ### while -/
def uWhN (c : DTT) (b : DTS) (De : DEnds) (E : XD) : Nat → Rho → Mem → Prop
  | 0, _, _ => False
  | n + 1, ρ, μ => c ρ μ (fun t μ1 => if t = true then b { De with nx := uWhN c b De E n, ct := uWhN c b De E n, bk := De.nx } E ρ μ1 else De.nx ρ μ1) E
def uWhile (c : DTT) (b : DTS) : DTS := fun De E ρ μ => ∃ n, uWhN c b De E n ρ μ
theorem sim_while {tc : TT} {uc : DTT} {tb : TS} {ub : DTS} (c : SimT K Ex tc uc) (b : SimS K Ex tb ub) : SimS K Ex (tWhile tc tb) (uWhile uc ub) := fun Z as F H σ ρ μ De E D' R X h kn kr kb kc => by
  obtain ⟨n, h⟩ := h
  refine ⟨fun m σ' H' => ∃ as' F' ρ' μ', Gr as F as' F' ∧ Rp K Z as' F' H' σ' ρ' μ' ∧ uWhN uc ub De E m ρ' μ', ⟨n, as, F, ρ, μ, Gr.refl, R, h⟩, ?_⟩
  rintro m σ' H' ⟨as', F', ρ', μ', g, R2, q⟩
  cases m with
  | zero => exact q.elim
  | succ m =>
    refine c Z as' F' H' σ' ρ' μ' _ E _ R2 (X.up g) q fun t μ3 as3 F3 H3 g3 R3 q3 => ?_
    have gg := g.trans g3
    cases t with
    | true =>
      rw [if_pos rfl] at q3 ⊢
      refine ⟨fun σ4 H4 => ∃ as4 F4 ρ4 μ4, Gr as F as4 F4 ∧ Rp K Z as4 F4 H4 σ4 ρ4 μ4 ∧ uWhN uc ub De E m ρ4 μ4, fun σ4 H4 n4 => ⟨m, Nat.lt_succ_self _, n4⟩, ?_⟩
      exact b Z as3 F3 H3 σ' ρ' μ3 _ E _ R3 (X.up gg) q3 (fun σ5 ρ5 μ5 as5 F5 H5 g5 R5 q5 => ⟨as5, F5, ρ5, μ5, gg.trans g5, R5, q5⟩) (fun v d μ5 as5 F5 H5 g5 => kr v d μ5 as5 F5 H5 (gg.trans g5))
        (fun σ5 ρ5 μ5 as5 F5 H5 g5 R5 q5 => kn σ5 ρ5 μ5 as5 F5 H5 (gg.trans g5) R5 q5) (fun σ5 ρ5 μ5 as5 F5 H5 g5 R5 q5 => ⟨as5, F5, ρ5, μ5, gg.trans g5, R5, q5⟩)
    | false =>
      rw [if_neg Bool.false_ne_true] at q3 ⊢
      exact kn σ' ρ' μ3 as3 F3 H3 gg R3 q3
/-! ### comprehensions -/
theorem Mm.hide {μ : Mem} (M : Mm K Z as F H μ) {p : Addr} {o : HO} (n : H p = none) : Mm K (upd Z p o) as F (upd H p o) μ := by
  refine ⟨M.same.trans (same_upd n), M.len, M.nd, M.fr, fun k m e => ?_, fun a o' e => ?_⟩
  · obtain ⟨a, ha, x⟩ := M.at_ k m e
    exact ⟨a, ha, x.up Gr.refl (upd_ne (fun z : a = p => M.new n (by rw [← z]; exact List.mem_of_getElem? ha)))⟩
  · by_cases z : a = p
    · subst z
      rw [upd_same] at e ⊢
      exact ⟨e, M.newF n, M.new n⟩
    · rw [upd_ne z] at e ⊢
      exact M.hid a o' e
theorem Mm.rehide {μ : Mem} {p : Addr} {o o' : HO} (M : Mm K (upd Z p o) as F H μ) : Mm K (upd Z p o') as F (upd H p o') μ := by
  obtain ⟨e1, e2, e3⟩ := M.hid p o upd_same
  refine ⟨fun b u e => ?_, M.len, M.nd, M.fr, fun k m e => ?_, fun a u e => ?_⟩
  · rw [upd_ne (ne_of_none e e2)]; exact M.same _ _ e
  · obtain ⟨a, ha, x⟩ := M.at_ k m e
    exact ⟨a, ha, x.up Gr.refl (upd_ne (fun z : a = p => e3 (by rw [← z]; exact List.mem_of_getElem? ha)))⟩
  · by_cases z : a = p
    · subst z
      rw [upd_same] at e ⊢
      exact ⟨e, e2, e3⟩
    · rw [upd_ne z] at e ⊢
      exact M.hid a u (by rw [upd_ne z]; exact e)
theorem Mm.showF {μ : Mem} {p : Addr} {o : HO} (M : Mm K (upd Z p o) as F H μ) (nz : Z p = none) : Mm K Z as (upd F p o) H μ ∧ Gr as F as (upd F p o) := by
  obtain ⟨e1, e2, e3⟩ := M.hid p o upd_same
  refine ⟨⟨fun b u e => ?_, M.len, M.nd, fun a ha => ?_, fun k m e => ?_, fun a u e => ?_⟩, Gr.upd e2⟩
  · by_cases z : b = p
    · subst z; rw [upd_same] at e; rw [← e]; exact e1
    · rw [upd_ne z] at e; exact M.same _ _ e
  · rw [upd_ne (fun z : a = p => e3 (by rw [← z]; exact ha))]; exact M.fr a ha
  · obtain ⟨a, ha, x⟩ := M.at_ k m e
    exact ⟨a, ha, x.up (Gr.upd e2) rfl⟩
  · have ne : a ≠ p := ne_of_none e nz
    obtain ⟨h1, h2, h3⟩ := M.hid a u (by rw [upd_ne ne]; exact e)
    exact ⟨h1, by rw [upd_ne ne]; exact h2, h3⟩
theorem Mm.showM {μ : Mem} {p : Addr} {o : HO} {m : DX.M} (M : Mm K (upd Z p o) as F H μ) (nz : Z p = none) (x : MAt K (as ++ [p]) F H p m) : Mm K Z (as ++ [p]) F H (μ ++ [m]) := by
  obtain ⟨e1, e2, e3⟩ := M.hid p o upd_same
  refine ⟨M.same, by rw [List.length_append, List.length_append, M.len]; rfl, List.nodup_append.mpr ⟨M.nd, List.nodup_cons.mpr ⟨List.not_mem_nil, List.nodup_nil⟩, fun a ha b hb => ?_⟩, fun a ha => ?_, fun k m' e => ?_, fun a u e => ?_⟩
  · rw [List.mem_singleton.mp hb]
    exact fun z => e3 (by rw [← z]; exact ha)
  · rcases List.mem_append.mp ha with z | z
    · exact M.fr a z
    · rw [List.mem_singleton.mp z]; exact e2
  · by_cases hk : k < μ.length
    · rw [List.getElem?_append_left hk] at e
      obtain ⟨a, ha, y⟩ := M.at_ k m' e
      exact ⟨a, (Gr.add (F := F)).p k a ha, y.up Gr.add rfl⟩
    · rw [List.getElem?_append_right (by omega)] at e
      have hz : k - μ.length = 0 := by
        have := (List.getElem?_eq_some_iff.mp e).1
        simp at this
        omega
      rw [hz] at e
      cases e
      refine ⟨p, ?_, x⟩
      rw [List.getElem?_append_right (by have := M.len; omega), M.len, hz]
      rfl
  · have ne : a ≠ p := ne_of_none e nz
    obtain ⟨h1, h2, h3⟩ := M.hid a u (by rw [upd_ne ne]; exact e)
    exact ⟨h1, h2, fun z => (List.mem_append.mp z).elim h3 fun z => ne (List.mem_singleton.mp z)⟩
def wipeD (ρ : Rho) : List Nat → Rho
  | [] => ρ
  | v :: vs => (wipeD ρ vs).set v none
theorem EnvR.wipe {σ : L2.St} {ρ : Rho} (h : EnvR K as F σ ρ) : ∀ vs : List Nat, EnvR K as F (L2.wipe σ vs) (wipeD ρ vs)
  | [] => h
  | v :: vs => (EnvR.wipe h vs).unset v
/-- a target that stores within vs alone -/
def Wip (g : TG) (vs : List Nat) : Prop := ∀ v σ H Q, g v σ H Q → g v σ H (fun σ2 H2 => L2.wipe σ2 vs = L2.wipe σ vs ∧ Q σ2 H2)
def Wips (g : TGs) (vs : List Nat) : Prop := ∀ v σ H Q, g v σ H Q → g v σ H (fun σ2 H2 => L2.wipe σ2 vs = L2.wipe σ vs ∧ Q σ2 H2)
theorem wipe_in : ∀ {vs : List Nat} {σ : L2.St} {i : Nat}, i ∈ vs → i < σ.length → (L2.wipe σ vs)[i]? = some none
  | [], _, _, h, _ => absurd h List.not_mem_nil
  | v :: vs, σ, i, h, hl => by
    unfold L2.wipe
    by_cases e : v = i
    · subst e
      rw [List.getElem?_set_self (by rw [wipe_length]; exact hl)]
    · rw [List.getElem?_set_ne e]
      exact wipe_in ((List.mem_cons.mp h).resolve_left fun z => e z.symm) hl
theorem wipe_set {vs : List Nat} {i : Nat} {x : Option V} (hi : i ∈ vs) (σ : L2.St) : L2.wipe (σ.set i x) vs = L2.wipe σ vs := by
  refine List.ext_getElem? fun j => ?_
  by_cases hj : j ∈ vs
  · by_cases hl : j < σ.length
    · rw [wipe_in hj hl, wipe_in hj (by rw [List.length_set]; exact hl)]
    · rw [List.getElem?_eq_none (by rw [wipe_length, List.length_set]; omega), List.getElem?_eq_none (by rw [wipe_length]; omega)]
  · rw [wipe_out hj, wipe_out hj, List.getElem?_set_ne (fun z : i = j => hj (by rw [← z]; exact hi))]
theorem wip_name {i : Nat} {vs : List Nat} (h : i ∈ vs) : Wip (gName i) vs := fun v σ H Q q => ⟨wipe_set h σ, q⟩
theorem wip_nil {vs : List Nat} : Wips gNil vs := fun v σ H Q q => ⟨q.1, rfl, q.2⟩
theorem wip_cons {g : TG} {gs : TGs} {vs : List Nat} (mono : ∀ v σ H Q Q', (∀ σ H, Q σ H → Q' σ H) → g v σ H Q → g v σ H Q') (mono2 : ∀ v σ H Q Q', (∀ σ H, Q σ H → Q' σ H) → gs v σ H Q → gs v σ H Q') (a : Wip g vs) (b : Wips gs vs) : Wips (gCons g gs) vs := fun v σ H Q q => by
  obtain ⟨x, r, rfl, q⟩ := q
  refine ⟨x, r, rfl, mono _ _ _ _ _ (fun σ1 H1 ⟨e, z⟩ => ?_) (a _ _ _ _ q)⟩
  exact mono2 _ _ _ _ _ (fun σ2 H2 ⟨e2, z2⟩ => ⟨e2.trans e, z2⟩) (b _ _ _ _ z)
theorem wip_tup {gs : TGs} {vs : List Nat} {n : Nat} (b : Wips gs vs) : Wip (gTup K n gs) vs := fun v σ H Q q => by
  obtain ⟨a, xs, e, hq, hl, q⟩ := q
  exact ⟨a, xs, e, hq, hl, b _ _ _ _ q⟩
theorem mono_name {i : Nat} : ∀ v σ H Q Q', (∀ σ H, Q σ H → Q' σ H) → gName i v σ H Q → gName i v σ H Q' := fun v σ H Q Q' h q => h _ _ q
theorem mono_nil : ∀ v σ H Q Q', (∀ σ H, Q σ H → Q' σ H) → gNil v σ H Q → gNil v σ H Q' := fun v σ H Q Q' h q => ⟨q.1, h _ _ q.2⟩
theorem mono_cons {g : TG} {gs : TGs} (mono : ∀ v σ H Q Q', (∀ σ H, Q σ H → Q' σ H) → g v σ H Q → g v σ H Q') (mono2 : ∀ v σ H Q Q', (∀ σ H, Q σ H → Q' σ H) → gs v σ H Q → gs v σ H Q') : ∀ v σ H Q Q', (∀ σ H, Q σ H → Q' σ H) → gCons g gs v σ H Q → gCons g gs v σ H Q' := fun v σ H Q Q' h q => by
  obtain ⟨x, r, rfl, q⟩ := q
  exact ⟨x, r, rfl, mono _ _ _ _ _ (fun σ1 H1 z => mono2 _ _ _ _ _ h z) q⟩
theorem mono_tup {gs : TGs} {n : Nat} (mono2 : ∀ v σ H Q Q', (∀ σ H, Q σ H → Q' σ H) → gs v σ H Q → gs v σ H Q') : ∀ v σ H Q Q', (∀ σ H, Q σ H → Q' σ H) → gTup K n gs v σ H Q → gTup K n gs v σ H Q' := fun v σ H Q Q' h q => by
  obtain ⟨a, xs, e, hq, hl, q⟩ := q
  exact ⟨a, xs, e, hq, hl, mono2 _ _ _ _ _ h q⟩
def uLcGo (ug : DTG) (ut : DTT) (ue : DTE) (ρw : Rho) (chk : Mem → Prop) (fin : List D → Mem → Prop) : List D → List D → Mem → Prop
  | [], acc, μ => chk μ ∧ fin acc μ
  | d :: ds, acc, μ => chk μ ∧ ug d ρw μ (fun ρ1 μ1 => ut ρ1 μ1 (fun b μ2 => if b = true then ue ρ1 μ2 (fun y μ3 => acc.length < 1000000 ∧ uLcGo ug ut ue ρw chk fin ds (acc ++ [y]) μ3) XN else uLcGo ug ut ue ρw chk fin ds acc μ2) XN) XN
def uLc (m : Bool) (ui : DTI) (ug : DTG) (ut : DTT) (ue : DTE) (vs : List Nat) : DTE := fun ρ μ Q E => ui ρ μ (fun ds chk μ1 =>
  uLcGo ug ut ue (wipeD ρ vs) chk (fun acc μ2 => if m = true then Q (.ob μ2.length) (μ2 ++ [.lst acc]) else Q (.lst acc) μ2) ds [] μ1) E
def uYes : DTT := fun _ μ Q _ => Q true μ
theorem sim_yes : SimT K Ex tYes uYes := fun Z as F H σ ρ μ Q E Q' R X h k => k true μ as F H Gr.refl R h
theorem wipe_wipe (σ : L2.St) (vs : List Nat) : L2.wipe (L2.wipe σ vs) vs = L2.wipe σ vs := by
  refine List.ext_getElem? fun j => ?_
  by_cases hj : j ∈ vs
  · by_cases hl : j < σ.length
    · rw [wipe_in hj hl, wipe_in hj (by rw [wipe_length]; exact hl)]
    · rw [List.getElem?_eq_none (by rw [wipe_length, wipe_length]; omega), List.getElem?_eq_none (by rw [wipe_length]; omega)]
  · rw [wipe_out hj]
theorem sim_lc (m : Bool) {wi : TI} {ui : DTI} {g : TG} {ug : DTG} {tt : TT} {ut : DTT} {te : TE} {ue : DTE} {vs : List Nat} (i : SimI K Ex wi ui) (gs : SimG K X0 g ug) (ts : SimT K X0 tt ut) (es : Sim K X0 te ue) (wp : Wip g vs) (mono : ∀ v σ H Q Q', (∀ σ H, Q σ H → Q' σ H) → g v σ H Q → g v σ H Q') :
    Sim K Ex (tLc wi g tt te vs) (uLc m ui ug ut ue vs) := fun Z as F H σ ρ μ Q E Q' R X h k =>
  i Z as F H σ ρ μ _ E _ R X h fun J ds chk μ1 as1 F1 H1 g1 R1 it h1 => fun D nD => by
    have nZ : Z D = none := by
      cases e : Z D with
      | none => rfl
      | some o => have := (R1.mm.hid D o e).1; rw [nD] at this; cases this
    refine ⟨fun i n H' => n = ds.length - i ∧ i ≤ ds.length ∧ ∃ as' F' μ' av acc, Gr as1 F1 as' F' ∧ RepL K as' F' av acc ∧ Mm K (upd Z D (.lst av)) as' F' H' μ' ∧ uLcGo ug ut ue (wipeD ρ vs) chk (fun acc μ2 => if m = true then Q (.ob μ2.length) (μ2 ++ [.lst acc]) else Q (.lst acc) μ2) (ds.drop i) acc μ',
      ⟨ds.length, by simp, Nat.zero_le _, as1, F1, μ1, [], [], Gr.refl, .nil, R1.mm.hide nD, by rw [List.drop_zero]; exact h1⟩, ?_⟩
    rintro i n H' ⟨rfl, hi, as', F', μ', av, acc, g2, ra, M2, q⟩
    have ha := (M2.hid D _ upd_same).1
    by_cases hlt : i < ds.length
    · rw [List.drop_eq_getElem_cons hlt] at q
      obtain ⟨c, q⟩ := q
      refine .inr ⟨it.go _ i as' F' H' μ' g2 M2 c hlt, fun H3 => ∃ as3 F3 μ3 av acc, Gr as1 F1 as3 F3 ∧ RepL K as3 F3 av acc ∧ Mm K (upd Z D (.lst av)) as3 F3 H3 μ3 ∧ uLcGo ug ut ue (wipeD ρ vs) chk (fun acc μ2 => if m = true then Q (.ob μ2.length) (μ2 ++ [.lst acc]) else Q (.lst acc) μ2) (ds.drop (i + 1)) acc μ3,
        fun H3 z => ⟨ds.length - (i + 1), by omega, rfl, hlt, z⟩, fun x H2 y => ?_⟩
      obtain ⟨F2, g3, M3, r3⟩ := it.yld _ i as' F' H' μ' x H2 _ g2 M2 c (List.getElem?_eq_getElem hlt) y
      have gA := g2.trans g3
      have R3 : Rp K (upd Z D (.lst av)) as' F2 H2 (L2.wipe σ vs) (wipeD ρ vs) μ' := ⟨M3, (R1.env.up gA).wipe vs⟩
      refine mono _ _ _ _ _ (fun σ2 H2 z => ?_) (wp _ _ _ _ (gs _ as' F2 H2 (L2.wipe σ vs) (wipeD ρ vs) μ' x _ _ XN (fun σ4 H4 => tt σ4 H4 fun b H5 => if b = true then te σ4 H5 fun y H6 => ∃ a2, H6 D = some (.lst a2) ∧ a2.length < sizeLine ∧ (∃ as3 F3 μ3 av acc, Gr as1 F1 as3 F3 ∧ RepL K as3 F3 av acc ∧ Mm K (upd Z D (.lst av)) as3 F3 (upd H6 D (.lst (a2 ++ [y]))) μ3 ∧ uLcGo ug ut ue (wipeD ρ vs) chk (fun acc μ2 => if m = true then Q (.ob μ2.length) (μ2 ++ [.lst acc]) else Q (.lst acc) μ2) (ds.drop (i + 1)) acc μ3)
          else ∃ as3 F3 μ3 av acc, Gr as1 F1 as3 F3 ∧ RepL K as3 F3 av acc ∧ Mm K (upd Z D (.lst av)) as3 F3 H5 μ3 ∧ uLcGo ug ut ue (wipeD ρ vs) chk (fun acc μ2 => if m = true then Q (.ob μ2.length) (μ2 ++ [.lst acc]) else Q (.lst acc) μ2) (ds.drop (i + 1)) acc μ3) R3 XL.no r3 q fun σ4 ρ4 μ4 as4 F4 H4 g4 R4 q4 => ?_))
      · exact ⟨z.1.trans (wipe_wipe σ vs), z.2⟩
      · refine ts _ as4 F4 H4 σ4 ρ4 μ4 _ XN _ R4 XL.no q4 fun b μ5 as5 F5 H5 g5 R5 q5 => ?_
        have gB := (gA.trans g4).trans g5
        have rB := ((ra.up g3).up g4).up g5
        cases b with
        | false =>
          rw [if_neg Bool.false_ne_true] at q5 ⊢
          exact ⟨as5, F5, μ5, av, acc, gB, rB, R5.mm, q5⟩
        | true =>
          rw [if_pos rfl] at q5 ⊢
          refine es _ as5 F5 H5 σ4 ρ4 μ5 _ XN _ R5 XL.no q5 fun w d6 μ6 as6 F6 H6 g6 R6 r6 q6 => ?_
          have rC := rB.up g6
          refine ⟨av, (R6.mm.hid D _ upd_same).1, ?_, as6, F6, μ6, av ++ [w], acc ++ [d6], gB.trans g6, rC.append (.cons r6 .nil), R6.mm.rehide, q6.2⟩
          rw [rC.len]
          exact Nat.lt_of_lt_of_le q6.1 (by decide)
    · have e : ds.drop i = [] := List.drop_eq_nil_of_le (by omega)
      rw [e] at q
      obtain ⟨c, q⟩ := q
      refine .inl ⟨it.stop _ i as' F' H' μ' g2 M2 c (by omega), ?_⟩
      have gA := g1.trans g2
      cases m with
      | true =>
        have q : (if true = true then Q (.ob μ'.length) (μ' ++ [.lst acc]) else Q (.lst acc) μ') := q
        rw [if_pos rfl] at q
        have M4 := M2.showM (m := .lst acc) nZ ⟨av, ha, ra.up Gr.add⟩
        exact k _ _ _ _ F' H' (gA.trans Gr.add) ⟨M4, R1.env.up (g2.trans Gr.add)⟩ (rep_ob M2.len) q
      | false =>
        have q : (if false = true then Q (.ob μ'.length) (μ' ++ [.lst acc]) else Q (.lst acc) μ') := q
        rw [if_neg Bool.false_ne_true] at q
        obtain ⟨M4, g4⟩ := M2.showF nZ
        exact k _ _ μ' as' _ H' (gA.trans g4) ⟨M4, R1.env.up (g2.trans g4)⟩ (.lst upd_same (ra.up g4)) q
end
end DX
set_option Elab.async false
set_option linter.all false
set_option maxRecDepth 100000
set_option maxHeartbeats 4000000
namespace DX
open PySem PySem.Spec PyProof.Rows L2
/-! ### rules and readings in one -/
section
variable {X : Cx} {K : PySem.W.Frag} {Ex : L2.St → XK} {pos : Pos} {a b c e : Expr} {es : List Expr} {ta tb tc te : TE} {ua ub uc ue : DTE} {t : TA} {u : DTA} {r r' : R2} {dr dr' : DR2} {x : Str}
theorem d_var (i : Nat) {x : Str} {pos : Pos} (hN : X.N[i]? = some x := by rfl) (hv : Vis X.env.scope x := by first | exact Or.inl rfl | exact Or.inr (Or.inl rfl) | exact Or.inr (Or.inr rfl)) (hd : (x == ("__debug__" : Str)) = false := by decide)
    (hcd : (x == ("__classdict__" : Str)) = false := by decide) : PD X K Ex (.Name x pos) (tVar i) (uVar i) := ⟨pv i hN hv hd hcd, sim_var i⟩
theorem d_int {i j pos} : PD X K Ex (.Constant (.int i) j pos) (tC (.int i)) (uC (.int i)) := ⟨pe_int, sim_c fun _ _ => .int _⟩
theorem d_bl {b j pos} : PD X K Ex (.Constant (.bool b) j pos) (tC (.bl b)) (uC (.bl b)) := ⟨pe_bl, sim_c fun _ _ => .bl _⟩
theorem d_non {j pos} : PD X K Ex (.Constant .none j pos) (tC .non) (uC .non) := ⟨pe_non, sim_c fun _ _ => .non⟩
theorem d_str {x j pos} : PD X K Ex (.Constant (.str x) j pos) (tC (.str x)) (uC (.str x)) := ⟨pe_str, sim_c fun _ _ => .str _⟩
theorem d_glob {x : Str} {v : V} {d : D} {u : Value} {pos : Pos} (hm : X.mg x = some u) (r : RelV v u) (rep : ∀ as F, Rep K as F v d) (hg : Gl X x := by rfl) (hd : (x == ("__debug__" : Str)) = false := by decide) : PD X K Ex (.Name x pos) (tC v) (uC d) := ⟨pe_glob hg hm r hd, sim_c rep⟩
theorem a_nil : AD X K Ex [] tNil uNil := ⟨pa_nil, sim_nil⟩
theorem a_cons (h : PD X K Ex e te ue) (r : AD X K Ex es t u) (hs : starEach (e :: es) X.env = (false, eval e X.env) :: starEach es X.env := by rfl) : AD X K Ex (e :: es) (tCons te t) (uCons ue u) := ⟨pa_cons h.pe r.pe hs, sim_cons h.sim r.sim⟩
theorem d_tup {x1} (h : AD X K Ex es t u) : PD X K Ex (.Tuple es x1 pos) (tTup t) (uTup u) := ⟨pe_tup h.pe, sim_tup h.sim⟩
theorem d_lst (h : AD X K Ex es t u) : PD X K Ex (.List es pos) (tLst t) (uLst u) := ⟨pe_lst h.pe, sim_lst h.sim⟩
theorem d_lstM (h : AD X K Ex es t u) : PD X K Ex (.List es pos) (tLst t) (uLstM u) := ⟨pe_lst h.pe, sim_lstM h.sim⟩
theorem d_op {op : Operator} (ho : OpR X (binaryOp op) r) (s : SimR K r dr) (ha : PD X K Ex a ta ua) (hb : PD X K Ex b tb ub) : PD X K Ex (.BinOp a op b pos) (tOp r ta tb) (uOp dr ua ub) := ⟨pe_op ho ha.pe hb.pe, sim_op s ha.sim hb.sim⟩
theorem d_un {f : Int → Int} {op : UnaryOp} (ho : UnR X (unaryOp op) (rU fun i => .int (f i))) (ha : PD X K Ex a ta ua) : PD X K Ex (.UnaryOp op a pos) (tUn (rU fun i => .int (f i)) ta) (uUn (fun i => .int (f i)) ua) := ⟨pe_un ho ha.pe, sim_un ha.sim⟩
theorem d_cmp {op : CmpOp} (ho : OpR X (compareOp op) r) (s : SimR K r dr) (ha : PD X K Ex a ta ua) (hb : PD X K Ex b tb ub) (hm : behindInMarks op b = false) : PD X K Ex (.Compare a [op] [b] pos) (tOp r ta tb) (uOp dr ua ub) := ⟨pe_cmpR ho ha.pe hb.pe hm, sim_op s ha.sim hb.sim⟩
theorem t_cmp {op : CmpOp} (ho : OpR X (compareOp op) r) (s : SimR K r dr) (ha : PD X K Ex a ta ua) (hb : PD X K Ex b tb ub) (hm : behindInMarks op b = false) : TD X K Ex (.Compare a [op] [b] pos) (tTest (tOp r ta tb)) (uTest (uOp dr ua ub)) := ⟨pt_cmpR ho ha.pe hb.pe hm, sim_test (sim_op s ha.sim hb.sim)⟩
theorem d_isN {j pos2} (ha : PD X K Ex a ta ua) : PD X K Ex (.Compare a [.Is] [.Constant .none j pos2] pos) (tOp (fun x y H Q => y = .non ∧ Q (.bl (decide (x = .non))) H) ta (tC .non)) (uIsN false ua) := ⟨pe_cmpR op_isN ha.pe pe_non (nomark _), sim_isN ha.sim⟩
theorem d_notN {j pos2} (ha : PD X K Ex a ta ua) : PD X K Ex (.Compare a [.IsNot] [.Constant .none j pos2] pos) (tOp (fun x y H Q => y = .non ∧ Q (.bl (!decide (x = .non))) H) ta (tC .non)) (uIsN true ua) := ⟨pe_cmpR op_notN ha.pe pe_non (nomark _), sim_notN ha.sim⟩
theorem t_isN {j pos2} (ha : PD X K Ex a ta ua) : TD X K Ex (.Compare a [.Is] [.Constant .none j pos2] pos) (tTest (tOp (fun x y H Q => y = .non ∧ Q (.bl (decide (x = .non))) H) ta (tC .non))) (uTest (uIsN false ua)) := ⟨pt_cmpR op_isN ha.pe pe_non (nomark _), sim_test (sim_isN ha.sim)⟩
theorem t_notN {j pos2} (ha : PD X K Ex a ta ua) : TD X K Ex (.Compare a [.IsNot] [.Constant .none j pos2] pos) (tTest (tOp (fun x y H Q => y = .non ∧ Q (.bl (!decide (x = .non))) H) ta (tC .non))) (uTest (uIsN true ua)) := ⟨pt_cmpR op_notN ha.pe pe_non (nomark _), sim_test (sim_notN ha.sim)⟩
theorem d_chain {op op' : CmpOp} (ho : OpR X (compareOp op) r) (s : SimR K r dr) (ho' : OpR X (compareOp op') r') (s' : SimR K r' dr') (ha : PD X K Ex a ta ua) (hb : PD X K Ex b tb ub) (hc : PD X K Ex c tc uc) (hm : lastMarks [op, op'] [b, c] = false := by with_unfolding_all rfl) :
    PD X K Ex (.Compare a [op, op'] [b, c] pos) (tChain r r' ta tb tc) (uChain dr dr' ua ub uc) := ⟨pe_chain ho ho' ha.pe hb.pe hc.pe hm, sim_chain s s' ha.sim hb.sim hc.sim⟩
theorem t_chain {op op' : CmpOp} (ho : OpR X (compareOp op) r) (s : SimR K r dr) (ho' : OpR X (compareOp op') r') (s' : SimR K r' dr') (ha : PD X K Ex a ta ua) (hb : PD X K Ex b tb ub) (hc : PD X K Ex c tc uc) (hm : lastMarks [op, op'] [b, c] = false := by with_unfolding_all rfl) :
    TD X K Ex (.Compare a [op, op'] [b, c] pos) (tTest (tChain r r' ta tb tc)) (uTest (uChain dr dr' ua ub uc)) := ⟨pt_chain ho ho' ha.pe hb.pe hc.pe hm, sim_test (sim_chain s s' ha.sim hb.sim hc.sim)⟩
theorem t_val (h : PD X K Ex e te ue) (he : ∀ whole, isTrue e X.env whole = (do let v ← whole; standAt e.pos; holding [v] (truthy v)) := by intro _; rfl) : TD X K Ex e (tB te) (uTest ue) := ⟨pt_val h.pe he, sim_test h.sim⟩
theorem t_tru (h : PD X K Ex e te ue) (hK : X.K = K := by rfl) (he : ∀ whole, isTrue e X.env whole = (do let v ← whole; standAt e.pos; holding [v] (truthy v)) := by intro _; rfl) : TD X K Ex e (fun σ H Q => te σ H fun x H' => ∃ k, TruV K x H' k ∧ Q k H') (uTru ue) := by
  subst hK
  exact ⟨pt_truth h.pe he, sim_tru h.sim⟩
variable {tA tB' : TT} {uA uB : DTT} {rest : List Expr}
theorem w_and1 (h : TD X K Ex a tA uA) : WD X K Ex (.BoolOp .And [a] pos) tA uA := ⟨pw_and1 h.pe, h.sim⟩
theorem w_or1 (h : TD X K Ex a tA uA) : WD X K Ex (.BoolOp .Or [a] pos) tA uA := ⟨pw_or1 h.pe, h.sim⟩
theorem w_and (h : TD X K Ex a tA uA) (g : WD X K Ex (.BoolOp .And (b :: rest) pos) tB' uB) : WD X K Ex (.BoolOp .And (a :: b :: rest) pos) (tAnd tA tB') (uAndB uA uB) := ⟨pw_and h.pe g.pe, sim_andB h.sim g.sim⟩
theorem w_or (h : TD X K Ex a tA uA) (g : WD X K Ex (.BoolOp .Or (b :: rest) pos) tB' uB) : WD X K Ex (.BoolOp .Or (a :: b :: rest) pos) (tOr tA tB') (uOrB uA uB) := ⟨pw_or h.pe g.pe, sim_orB h.sim g.sim⟩
theorem WD.td (h : WD X K Ex e tA uA) : TD X K Ex e tA uA := ⟨PW.pt h.pe, h.sim⟩
theorem t_not (h : TD X K Ex a tA uA) : TD X K Ex (.UnaryOp .Not a pos) (tNot tA) (uNotB uA) := ⟨pt_not h.pe, sim_notB h.sim⟩
theorem d_one {op} (h : PD X K Ex a ta ua) : PD X K Ex (.BoolOp op [a] pos) ta ua := ⟨pe_one h.pe, h.sim⟩
theorem d_and (h : PD X K Ex a ta ua) (g : PD X K Ex (.BoolOp .And (b :: rest) pos) tb ub) (hK : X.K = K := by rfl) : PD X K Ex (.BoolOp .And (a :: b :: rest) pos) (tAndT K ta tb) (uAnd ua ub) := by
  subst hK
  exact ⟨pe_andT h.pe g.pe, sim_and h.sim g.sim⟩
theorem d_or (h : PD X K Ex a ta ua) (g : PD X K Ex (.BoolOp .Or (b :: rest) pos) tb ub) (hK : X.K = K := by rfl) : PD X K Ex (.BoolOp .Or (a :: b :: rest) pos) (tOrT K ta tb) (uOr ua ub) := by
  subst hK
  exact ⟨pe_orT h.pe g.pe, sim_or h.sim g.sim⟩
theorem d_not (h : PD X K Ex a ta ua) (hK : X.K = K := by rfl) : PD X K Ex (.UnaryOp .Not a pos) (tNotT K ta) (uNot ua) := by
  subst hK
  exact ⟨pe_notT h.pe, sim_not h.sim⟩
theorem d_ifExp (h : TD X K Ex c tA uA) (ha : PD X K Ex a ta ua) (hb : PD X K Ex b tb ub) : PD X K Ex (.IfExp c a b pos) (tIf tA ta tb) (uIf uA ua ub) := ⟨pe_ifExp h.pe ha.pe hb.pe, sim_if h.sim ha.sim hb.sim⟩
/-! subscripts, slices, fields -/
theorem d_ix (ha : PD X K Ex a ta ua) (hb : PD X K Ex b tb ub) (hK : X.K = K := by rfl) (hs : PlainIx b := by exact fun _ _ => rfl) : PD X K Ex (.Subscript a b pos) (tOp (rIx K) ta tb) (uOp dIx ua ub) := ⟨pe_ix (ix_A hK) ha.pe hb.pe hs, sim_op sim_ix ha.sim hb.sim⟩
structure OD (X : Cx) (K : PySem.W.Frag) (Ex : L2.St → XK) (e : Option Expr) (t : TO) (u : DTO) : Prop where
  pe : PO X e t
  sim : SimO K Ex t u
theorem o_none : OD X K Ex none tNoPart uNoPart := ⟨po_none, sim_noPart⟩
theorem o_some (h : PD X K Ex e te ue) : OD X K Ex (some e) (tPart te) (uPart ue) := ⟨po_some h.pe, sim_part h.sim⟩
theorem d_sl (m : Bool) {lo hi : Option Expr} {tl th : TO} {ul uh : DTO} {p2 : Pos} (ha : PD X K Ex a ta ua) (hl : OD X K Ex lo tl ul) (hh : OD X K Ex hi th uh) (hK : X.K = K := by rfl) : PD X K Ex (.Subscript a (.Slice lo hi none p2) pos) (tSl (rSlAll K) ta tl th) (uSl m ua ul uh) := ⟨pe_slice (sl_A hK) ha.pe hl.pe hh.pe, sim_sl m ha.sim hl.sim hh.sim⟩
theorem d_fld {C : Addr} {f : Str} (cl : Cls K C) (n : NoAttr K C f) (h : PD X K Ex e te ue) (hK : X.K = K := by rfl) (hb : attributeBase e f X.env (eval e X.env) = eval e X.env := by rfl) : PD X K Ex (.Attribute e f pos) (tFld K te f) (uFld C f ue) := by
  subst hK
  exact ⟨pe_fld h.pe hb, sim_fld cl n h.sim⟩
/-! built-in calls -/
variable {rc : List V → Hp → VK → Prop} {dc : DC} {id T : String} {p : Pos}
theorem d_callB (hc : CallR X (.builtin id) rc) (s : SimC K rc dc) (hm : X.mg x = none) (ha : AD X K Ex (e :: es) t u) (hg : Gl X x := by rfl) (hv : bootBuiltins x = some (.builtin id) := by decide +kernel) (hn : x ≠ "__name__" := by decide) (hdb : (x == ("__debug__" : Str)) = false := by decide)
    (he : starEach (e :: es) X.env = (false, eval e X.env) :: starEach es X.env := by rfl) (hpl : (backTo pos (starEach es X.env)).any (·.1) = false := by rfl) : PD X K Ex (.Call (.Name x p) (e :: es) [] pos) (tCB rc t) (uCB dc u) := ⟨pe_callB hc hg hm hv ha.pe hn hdb he hpl, sim_cb s ha.sim⟩
theorem d_callTy (hc : CallR X (.type T) rc) (s : SimC K rc dc) (hm : X.mg x = none) (ha : AD X K Ex (e :: es) t u) (hg : Gl X x := by rfl) (hv : bootBuiltins x = some (.type T) := by decide +kernel) (hn : x ≠ "__name__" := by decide) (hdb : (x == ("__debug__" : Str)) = false := by decide)
    (he : starEach (e :: es) X.env = (false, eval e X.env) :: starEach es X.env := by rfl) (hpl : (backTo pos (starEach es X.env)).any (·.1) = false := by rfl) : PD X K Ex (.Call (.Name x p) (e :: es) [] pos) (tCB rc t) (uCB dc u) := ⟨pe_callTy hc hg hm hv ha.pe hn hdb he hpl, sim_cb s ha.sim⟩
theorem d_isB {n : Str} {Tn : String} {p1 p2 : Pos} (Tt : Ty) (hT : ∀ C, Tt ≠ .own C) (eT : tyVal Tt = .type Tn) (hm : X.mg "isinstance" = none) (hm2 : X.mg n = none) (ha : PD X K Ex e te ue) (hv : bootBuiltins n = some (.type Tn) := by decide +kernel) (hg : Gl X "isinstance" := by rfl) (hg2 : Gl X n := by rfl) (hK : X.K = K := by rfl)
    (hn : n ≠ "__name__" := by decide) (hd : (n == ("__debug__" : Str)) = false := by decide) (he : starEach [e, .Name n p1] X.env = (false, eval e X.env) :: starEach [.Name n p1] X.env := by rfl) (he2 : starEach [.Name n p1] X.env = (false, eval (.Name n p1) X.env) :: starEach [] X.env := by rfl) (hpl : (backTo pos (starEach [.Name n p1] X.env)).any (·.1) = false := by rfl) :
    PD X K Ex (.Call (.Name "isinstance" p2) [e, .Name n p1] [] pos) (tCB (rIsi K) (tCons te (tCons (tC (.ty Tn)) tNil))) (uIs (dIsB K Tt) ue) :=
  ⟨pe_callB (call_isiA hK) hg hm (by decide +kernel) (pa_cons ha.pe (pa_cons (pe_bltn (v := .ty Tn) hg2 hm2 hv rfl hn hd) pa_nil he2) he) (by decide) (by decide) he hpl, sim_isB hT eT ha.sim⟩
theorem d_isO {n : Str} {C : Addr} {p1 p2 : Pos} (kt : KitO K C) (hm : X.mg "isinstance" = none) (hm2 : X.mg n = some (.ref C)) (ha : PD X K Ex e te ue) (hg : Gl X "isinstance" := by rfl) (hg2 : Gl X n := by rfl) (hK : X.K = K := by rfl)
    (hd : (n == ("__debug__" : Str)) = false := by decide) (he : starEach [e, .Name n p1] X.env = (false, eval e X.env) :: starEach [.Name n p1] X.env := by rfl) (he2 : starEach [.Name n p1] X.env = (false, eval (.Name n p1) X.env) :: starEach [] X.env := by rfl) (hpl : (backTo pos (starEach [.Name n p1] X.env)).any (·.1) = false := by rfl) :
    PD X K Ex (.Call (.Name "isinstance" p2) [e, .Name n p1] [] pos) (tCB (rIsi K) (tCons te (tCons (tC (.ref C)) tNil))) (uIs (dIsO K C) ue) :=
  ⟨pe_callB (call_isiA hK) hg hm (by decide +kernel) (pa_cons ha.pe (pa_cons (pe_glob (v := .ref C) hg2 hm2 rfl hd) pa_nil he2) he) (by decide) (by decide) he hpl, sim_isO kt ha.sim⟩
/-! methods of lists and texts -/
variable {rm : V → List V → Hp → VK → Prop} {dm : DM} {o : Expr} {to : TE} {uo : DTE} {name : Str} {apos : Pos}
theorem d_bm (slot : Slot "list" name id) (hty : typeOf (.builtin id) = pure (.type "method_descriptor")) (hm : MtR X id rm) (s : SimM K rm dm) (ho : PD X K Ex o to uo) (ha : AD X K Ex (e :: es) t u) (hK : X.K = K := by rfl)
    (hbase : attributeBase o name X.env (eval o X.env) = eval o X.env := by rfl)
    (hfew : ((backTo pos (starEach (e :: es) X.env)).all (fun x => !x.1) && (backToKw pos (keywordEach [] X.env)).all (fun x => x.1.isSome)
      && decide ((e :: es).length + ([] : List Keyword).length + (if ([] : List Keyword).isEmpty then 0 else 1) < 30)) = true := by rfl) (hline : (apos.endLine == pos.line) = true := by rfl)
    (hs : starEach (e :: es) X.env = (false, eval e X.env) :: starEach es X.env := by rfl) (hplain : (backTo pos (starEach es X.env)).any (·.1) = false := by rfl) :
    PD X K Ex (.Call (.Attribute o name apos) (e :: es) [] pos) (tBM K "list" rm to t) (uBM dm uo u) := by
  subst hK
  exact ⟨pe_bm PySem.F.plainAttrs_list slot hty hm ho.pe ha.pe hbase hfew hline hs hplain, sim_bm s ho.sim ha.sim⟩
theorem d_bm0 (slot : Slot "list" name id) (hty : typeOf (.builtin id) = pure (.type "method_descriptor")) (hm : MtR X id rm) (s : SimM K rm dm) (ho : PD X K Ex o to uo) (hK : X.K = K := by rfl)
    (hbase : attributeBase o name X.env (eval o X.env) = eval o X.env := by rfl) (hline : (apos.endLine == pos.line) = true := by rfl) :
    PD X K Ex (.Call (.Attribute o name apos) [] [] pos) (tBM0 K "list" rm to) (uBM dm uo uNil) := by
  subst hK
  exact ⟨pe_bm0 PySem.F.plainAttrs_list slot hty hm ho.pe hbase hline, sim_bm0 s ho.sim⟩
theorem d_m1 (slot : Slot "str" name id) (ty : typeOf (.builtin id) = pure (.type "method_descriptor")) (hm : MtR X id rm) (s : SimM K rm dm) (ho : PD X K Ex o to uo) (he : PD X K Ex e te ue)
    (hs : starEach [e] X.env = [(false, eval e X.env)] := by rfl) (hbase : attributeBase o name X.env (eval o X.env) = eval o X.env := by rfl) (hline : (apos.endLine == pos.line) = true := by rfl) :
    PD X K Ex (.Call (.Attribute o name apos) [e] [] pos) (tM1 rm to te) (uM1 dm uo ue) := ⟨pe_m1 slot ty hm ho.pe he.pe hs hbase hline, sim_m1 s ho.sim he.sim⟩
end
/-! own calls -/
section
variable {X : Cx} {K : PySem.W.Frag} {Ex : L2.St → XK} {pos : Pos} {e o : Expr} {es : List Expr} {te to : TE} {ue uo : DTE} {t : TA} {u : DTA} {x m : Str} {k : Nat} {f C p g : Addr} {S : DSp} {apos ps sp_ : Pos} {pl : Sem Bool}
theorem d_call (F : FnD X.prog X.w K X.mg X.base k f S) (hm : X.mg x = some (.ref f)) (hk : PySem.W.keepIn K (.ref f) = true) (gd : Gd.Calm0 X.A) (hr : Room k X.A) (tk : Tk X Ex) (ha : AD X K Ex (e :: es) t u) (hK : X.K = K := by rfl) (hg : Gl X x := by rfl)
    (hdb : (x == ("__debug__" : Str)) = false := by decide) (he : starEach (e :: es) X.env = (false, eval e X.env) :: starEach es X.env := by rfl) (hpl : (backTo pos (starEach es X.env)).any (·.1) = false := by rfl) :
    PD X K Ex (.Call (.Name x ps) (e :: es) [] pos) (tCallQ (toSp K S) Ex t) (uCall S u) := by
  subst hK
  exact ⟨pe_callQ F gd hr hg hm hk tk ha.pe hdb he hpl, sim_call ha.sim⟩
theorem d_call0 (F : FnD X.prog X.w K X.mg X.base k f S) (hm : X.mg x = some (.ref f)) (hk : PySem.W.keepIn K (.ref f) = true) (gd : Gd.Calm0 X.A) (hr : Room k X.A) (tk : Tk X Ex) (hK : X.K = K := by rfl) (hg : Gl X x := by rfl)
    (hdb : (x == ("__debug__" : Str)) = false := by decide) : PD X K Ex (.Call (.Name x ps) [] [] pos) (tCallQ (toSp K S) Ex tNil) (uCall S uNil) := by
  subst hK
  exact ⟨pe_callQ0 F gd hr hg hm hk tk hdb, sim_call sim_nil⟩
theorem d_meth (c : Cls K C) (hm : Meth K C m f) (F : FnD X.prog X.w K X.mg X.base k f S) (gd : Gd.Calm0 X.A) (hr : Room k X.A) (tk : Tk X Ex) (ho : PD X K Ex o to uo) (ha : AD X K Ex (e :: es) t u) (hK : X.K = K := by rfl)
    (h1 : starEach (e :: es) X.env = (false, eval e X.env) :: starEach es X.env := by rfl) (h2 : (backTo pos (starEach es X.env)).any (·.1) = false := by rfl)
    (hW : eval (.Call (.Attribute o m apos) (e :: es) [] pos) X.env = (do
      let ov ← eval o X.env
      standAt apos.atName
      let (f, first) ← holding [ov] (getMethod ov m pl)
      callWith pos f first (backTo pos (starEach (e :: es) X.env)) (backToKw pos (keywordEach [] X.env))) := by rfl) : PD X K Ex (.Call (.Attribute o m apos) (e :: es) [] pos) (tMethQ C m (toSp K S) Ex to t) (uMeth C m S uo u) := by
  subst hK
  exact ⟨pe_methQ ho.pe c hm F gd hr tk ha.pe h1 h2 hW, sim_meth ho.sim ha.sim⟩
theorem d_meth0 (c : Cls K C) (hm : Meth K C m f) (F : FnD X.prog X.w K X.mg X.base k f S) (gd : Gd.Calm0 X.A) (hr : Room k X.A) (tk : Tk X Ex) (ho : PD X K Ex o to uo) (hK : X.K = K := by rfl)
    (hW : eval (.Call (.Attribute o m apos) [] [] pos) X.env = (do
      let ov ← eval o X.env
      standAt apos.atName
      let (f, first) ← holding [ov] (getMethod ov m pl)
      callWith pos f first (backTo pos (starEach [] X.env)) (backToKw pos (keywordEach [] X.env))) := by rfl) : PD X K Ex (.Call (.Attribute o m apos) [] [] pos) (tMethQ C m (toSp K S) Ex to tNil) (uMeth C m S uo uNil) := by
  subst hK
  exact ⟨pe_methQ0 ho.pe c hm F gd hr tk hW, sim_meth ho.sim sim_nil⟩
theorem d_makeM (M : Mk K C f) (F : FnD X.prog X.w K X.mg X.base k f S) (hm : X.mg x = some (.ref C)) (gd : Gd.Calm0 X.A) (hr : Room (k + 1) X.A) (tk : Tk X Ex) (ha : AD X K Ex (e :: es) t u) (hK : X.K = K := by rfl) (hg : Gl X x := by rfl)
    (hdb : (x == ("__debug__" : Str)) = false := by decide) (he : starEach (e :: es) X.env = (false, eval e X.env) :: starEach es X.env := by rfl) (hpl : (backTo pos (starEach es X.env)).any (·.1) = false := by rfl) :
    PD X K Ex (.Call (.Name x ps) (e :: es) [] pos) (tMakeQ C (toSp K S) Ex t) (uMakeM C S u) := by
  subst hK
  exact ⟨pe_makeQ M F gd hr hg hm tk ha.pe hdb he hpl, sim_makeM ha.sim⟩
theorem d_makeF (M : Mk K C f) (F : FnD X.prog X.w K X.mg X.base k f S) (hm : X.mg x = some (.ref C)) (gd : Gd.Calm0 X.A) (hr : Room (k + 1) X.A) (tk : Tk X Ex) (ha : AD X K Ex (e :: es) t u) (hK : X.K = K := by rfl) (hg : Gl X x := by rfl)
    (hdb : (x == ("__debug__" : Str)) = false := by decide) (he : starEach (e :: es) X.env = (false, eval e X.env) :: starEach es X.env := by rfl) (hpl : (backTo pos (starEach es X.env)).any (·.1) = false := by rfl) :
    PD X K Ex (.Call (.Name x ps) (e :: es) [] pos) (tMakeQ C (toSp K S) Ex t) (uMakeF C S u) := by
  subst hK
  exact ⟨pe_makeQ M F gd hr hg hm tk ha.pe hdb he hpl, sim_makeF ha.sim⟩
theorem d_makeSF (M : Mk K C f) (F : FnD X.prog X.w K X.mg X.base k f S) (hm : X.mg x = some (.ref C)) (gd : Gd.Calm0 X.A) (hr : Room (k + 1) X.A) (tk : Tk X Ex) (ha : PD X K Ex e te ue) (hK : X.K = K := by rfl) (hg : Gl X x := by rfl)
    (hdb : (x == ("__debug__" : Str)) = false := by decide) (hst : starEach [.Starred e sp_] X.env = [(true, eval e X.env)] := by rfl) :
    PD X K Ex (.Call (.Name x ps) [.Starred e sp_] [] pos) (tMakeSQ K C (toSp K S) Ex te) (uMakeSF C S ue) := by
  subst hK
  exact ⟨pe_makeSQ M F gd hr hg hm tk ha.pe hdb hst, sim_makeSF ha.sim⟩
theorem d_prop {n : Str} (c : Cls K C) (hp : PropOf K C n p g) (F : FnD X.prog X.w K X.mg X.base k g S) (gd : Gd.Calm0 X.A) (hr : Room (k + 1) X.A) (he : PD X K Ex e te ue) (hK : X.K = K := by rfl)
    (hab : attributeBase e n X.env (eval e X.env) = eval e X.env := by rfl) : PD X K Ex (.Attribute e n pos) (tPropQ C (toSp K S) te) (uProp C S ue) := by
  subst hK
  exact ⟨pe_propQ he.pe c hp F gd hr hab, sim_prop he.sim⟩
end
/-! statements -/
structure GD (X : Cx) (K : PySem.W.Frag) (Ex : L2.St → XK) (e : Expr) (t : TG) (u : DTG) : Prop where
  pe : PG X e t
  sim : SimG K Ex t u
structure GsD (X : Cx) (K : PySem.W.Frag) (Ex : L2.St → XK) (e : List Expr) (t : TGs) (u : DTGs) : Prop where
  pe : PGs X e t
  sim : SimGs K Ex t u
structure ID (X : Cx) (K : PySem.W.Frag) (Ex : L2.St → XK) (tg e : Expr) (t : TI) (u : DTI) : Prop where
  pe : PI X tg e t
  sim : SimI K Ex t u
section
variable {X : Cx} {K : PySem.W.Frag} {Ex : L2.St → XK} {pos : Pos} {a b c e o : Expr} {es : List Expr} {te to ti : TE} {ue uo ui : DTE} {x : Str} {tg : Expr} {g : TG} {ug : DTG} {gs : TGs} {ugs : DTGs} {st : Stmt} {sts els : List Stmt} {t s : TS} {u w : DTS} {tc : TT} {uc : DTT}
theorem g_name (i : Nat) (hN : X.N.Nodup) (hx : Loc X.env.scope x := by first | exact Or.inl rfl | exact Or.inr rfl) (hi : X.N[i]? = some x := by rfl) (hf : X.fn x = true ∨ X.env.scope.names.lookup x = some .local := by first | exact .inl rfl | exact .inr rfl | assumption) : GD X K Ex (.Name x pos) (gName i) (uGName i) := ⟨pg_name hN hi hx hf, sim_gName i⟩
theorem gs_nil : GsD X K Ex [] gNil uGNil := ⟨pgs_nil, sim_gNil⟩
theorem gs_cons (h : GD X K Ex e g ug) (r : GsD X K Ex es gs ugs) (hs : (assignEach (e :: es) X.env).map (·.2) = assign e X.env :: (assignEach es X.env).map (·.2) := by rfl) : GsD X K Ex (e :: es) (gCons g gs) (uGCons ug ugs) := ⟨pgs_cons h.pe r.pe hs, sim_gCons h.sim r.sim⟩
theorem g_tup {k : Nat} (n : Nat) (h : GsD X K Ex es gs ugs) (hc : X.calm = true := by rfl) (hK : X.K = K := by rfl) (hn : (assignEach es X.env).length = n := by rfl) (hst : (assignEach es X.env).findIdx? (·.1) = none := by rfl) : GD X K Ex (.Tuple es k pos) (gTup K n gs) (uGTup n ugs) := by
  subst hK
  exact ⟨pg_tup hc h.pe hn hst, sim_gTup h.sim⟩
theorem g_set (ho : PD X K Ex o to uo) (hi : PD X K Ex a ti ui) (ha : ∀ v, assign (.Subscript o a pos) X.env v = (do
      let ov ← holding [v] (eval o X.env)
      let iv ← holding [v, ov] (eval a X.env)
      standAt pos
      holding [v, ov, iv] (setItem ov iv v)
      release [v, ov, iv] []) := by intro _; rfl) : GD X K Ex (.Subscript o a pos) (gSub to ti rSetL) (uGSet uo ui) := ⟨pg_sub ho.pe hi.pe set_list ha, sim_gSet ho.sim hi.sim⟩
theorem s_asg (h : PD X K Ex e te ue) (hg : GD X K Ex tg g ug) (hs : swapsWithSole [tg] e pos.line X.env = pure false := by rfl) (hw : swappedStores [tg] e X.env = pure none := by rfl) (h1 : (assignEach [tg] X.env).map (·.2) = [assign tg X.env] := by rfl) : SD X K Ex (.Assign [tg] e pos) (tAsg te g) (uAsg ue ug) := ⟨ps_asg h.pe hg.pe hs hw h1, sim_asg h.sim hg.sim⟩
theorem s_set (i : Nat) {pos' : Pos} (hN : X.N.Nodup) (h : PD X K Ex e te ue) (hx : Loc X.env.scope x := by first | exact Or.inl rfl | exact Or.inr rfl) (hi : X.N[i]? = some x := by rfl) (hs : swapsWith e (some (.Name x pos')) pos.line X.env = pure false := by rfl) (hf : X.fn x = true ∨ X.env.scope.names.lookup x = some .local := by first | exact .inl rfl | exact .inr rfl | assumption) :
    SD X K Ex (.Assign [.Name x pos'] e pos) (tAsg te (gName i)) (uAsg ue (uGName i)) := ⟨ps_set hN hi hx h.pe hs hf, sim_asg h.sim (sim_gName i)⟩
theorem s_expr (h : PD X K Ex e te ue) (hs : swapsWith e none pos.line X.env = pure false := by rfl) : SD X K Ex (.Expr e pos) (tDrop te) (uDrop ue) := ⟨ps_expr h.pe hs, sim_drop h.sim⟩
theorem s_doc {x j pos pos'} : SD X K Ex (.Expr (.Constant (.str x) j pos) pos') tNext uNext := ⟨ps_doc, sim_next⟩
theorem s_ret (h : PD X K Ex e te ue) : SD X K Ex (.Return (some e) pos) (tRet te) (uRet ue) := ⟨ps_ret h.pe, sim_ret h.sim⟩
theorem s_retN : SD X K Ex (.Return none pos) tRetN uRetN := ⟨ps_retN, sim_retN⟩
theorem s_pass : SD X K Ex (.Pass pos) tNext uNext := ⟨ps_pass, sim_next⟩
theorem s_break : SD X K Ex (.Break pos) tBreak uBreak := ⟨ps_break, sim_break⟩
theorem s_continue : SD X K Ex (.Continue pos) tCont uCont := ⟨ps_continue, sim_cont⟩
theorem s_never : SD X K Ex st tNever uNever := ⟨ps_never, sim_never⟩
theorem b_never : BD X K Ex sts tNever uNever := ⟨pss_never, sim_never⟩
theorem b_nil : BD X K Ex [] tNext uNext := ⟨pss_nil, sim_next⟩
theorem b_one (h : SD X K Ex st t u) : BD X K Ex [st] t u := ⟨pss_one h.pe, h.sim⟩
theorem b_cons (h : SD X K Ex st t u) (r : BD X K Ex sts s w) : BD X K Ex (st :: sts) (tSeq t s) (uSeq u w) := ⟨pss_cons h.pe r.pe, sim_seq h.sim r.sim⟩
theorem s_cut (h : SD X K Ex st t u) : SD X K Ex st t (uCut u) := ⟨h.pe, sim_cut h.sim⟩
theorem s_if (hc : TD X K Ex c tc uc) (ha : BD X K Ex sts t u) (hb : BD X K Ex els s w) : SD X K Ex (.If c sts els pos) (tIfS tc t s) (uIfS uc u w) := ⟨ps_if hc.pe ha.pe hb.pe, sim_ifS hc.sim ha.sim hb.sim⟩
theorem s_for {wi : TI} {uw : DTI} (hp : PassesOwn (model X.prog X.w) X.A X.env X.xe) (hi : ID X K Ex tg e wi uw) (hg : GD X K Ex tg g ug) (hb : BD X K Ex sts t u) (hc : X.calm = true := by rfl) (hs : ∀ x, foldedSetIterable e X.env x = pure x := by intro _; rfl) : SD X K Ex (.For tg e sts [] pos) (tFor wi g t) (uFor uw ug u) := ⟨ps_for hp hc hi.pe hg.pe hb.pe hs, sim_for hi.sim hg.sim hb.sim⟩
theorem s_while (hp : PassesOwn (model X.prog X.w) X.A X.env X.xe) (hc : TD X K Ex c tc uc) (hb : BD X K Ex sts t u) : SD X K Ex (.While c sts [] pos) (tWhile tc t) (uWhile uc u) := ⟨ps_while hp hc.pe hb.pe, sim_while hc.sim hb.sim⟩
theorem s_aug {i : Nat} {op : Operator} {r : TIp} {dr : DR2} {pos' : Pos} (hN : X.N.Nodup) (hi : X.N[i]? = some x) (h : PD X K Ex e te ue) (ho : PIp X op r) (sr : SimR K r dr) (hx : Loc X.env.scope x := by first | exact Or.inl rfl | exact Or.inr rfl) (hf : X.fn x = true ∨ X.env.scope.names.lookup x = some .local := by first | exact .inl rfl | exact .inr rfl | assumption) :
    SD X K Ex (.AugAssign (.Name x pos') op e pos) (tAug i te r) (uAug i ue dr) := ⟨ps_aug hN hi hx h.pe ho, sim_aug h.sim sr⟩
theorem s_fld {C : Addr} {f : Str} {pos' : Pos} (cl : Cls K C) (n : NoAttr K C f) (ho : PD X K Ex o to uo) (h : PD X K Ex e te ue) (hK : X.K = K := by rfl) (hs : swapsWith e (some (.Attribute o f pos')) pos.line X.env = pure false := by rfl) : SD X K Ex (.Assign [.Attribute o f pos'] e pos) (sFld K to te f) (uSetF C f uo ue) := by
  subst hK
  exact ⟨ps_fld ho.pe h.pe hs, sim_setF cl n ho.sim h.sim⟩
/-! what is walked -/
theorem i_seq (h : PD X K Ex e te ue) (hK : X.K = K := by rfl) : ID X K Ex tg e (iSeq K te) (uISeq ue) := by
  subst hK
  exact ⟨pi_seq h.pe, sim_iSeq h.sim⟩
theorem i_rng1 {ta : TA} {ua : DTA} {p : Pos} (hm : X.mg "range" = none) (h : AD X K Ex [a] ta ua) (hg : Gl X "range" := by rfl) (hs : starEach [a] X.env = [(false, eval a X.env)] := by rfl) : ID X K Ex tg (.Call (.Name "range" p) [a] [] pos) (iRng1 ta) (uIRng1 ua) := ⟨pi_range1 hg hm h.pe hs, sim_iRng1 h.sim⟩
theorem i_rng2 {ta : TA} {ua : DTA} {p : Pos} (hm : X.mg "range" = none) (h : AD X K Ex [a, b] ta ua) (hg : Gl X "range" := by rfl) (hs : starEach [a, b] X.env = [(false, eval a X.env), (false, eval b X.env)] := by rfl) (hs2 : starEach [b] X.env = [(false, eval b X.env)] := by rfl) : ID X K Ex tg (.Call (.Name "range" p) [a, b] [] pos) (iRng2 ta) (uIRng2 ua) := ⟨pi_range2 hg hm h.pe hs hs2, sim_iRng2 h.sim⟩
/-! comprehensions -/
structure TsD (X : Cx) (K : PySem.W.Frag) (Ex : L2.St → XK) (ifs : List Expr) (t : TT) (u : DTT) : Prop where
  pe : PTs X ifs t
  sim : SimT K Ex t u
theorem ts_nil : TsD X K Ex [] tYes uYes := ⟨pts_nil, sim_yes⟩
theorem ts_one (h : TD X K Ex c tc uc) : TsD X K Ex [c] tc uc := ⟨pts_one h.pe, h.sim⟩
abbrev Mono (g : TG) : Prop := ∀ v σ H Q Q', (∀ σ H, Q σ H → Q' σ H) → g v σ H Q → g v σ H Q'
theorem d_lc (m : Bool) {elt iter : Expr} {ifs : List Expr} {scope : Scope} (own : List (Str × Nat)) {wi : TI} {uw : DTI} {tt : TT} {ut : DTT} (hN : X.N.Nodup) (hi : ID X K Ex tg iter wi uw) (ok : BlkOk X.N X.env.scope scope own)
    (hg : ∀ (s : Shared) (H : Hp) (C : Addr) (cl : List (Str × Addr)) (fp : List Addr), GD (X.blk s H scope (compEnvC scope cl C X.env) fp) K X0 tg g ug) (ht : ∀ (s : Shared) (H : Hp) (C : Addr) (cl : List (Str × Addr)) (fp : List Addr), TsD (X.blk s H scope (compEnvC scope cl C X.env) fp) K X0 ifs tt ut)
    (he : ∀ (s : Shared) (H : Hp) (C : Addr) (cl : List (Str × Addr)) (fp : List Addr), PD (X.blk s H scope (compEnvC scope cl C X.env) fp) K X0 elt te ue) (wp : Wip g (own.map (·.2))) (mn : Mono g) (hc : X.calm = true := by rfl) (hs : ∀ x, foldedSetIterable iter X.env x = pure x := by intro _; rfl) :
    PD X K Ex (.ListComp elt [⟨tg, iter, ifs, 0⟩] scope pos) (tLc wi g tt te (own.map (·.2))) (uLc m uw ug ut ue (own.map (·.2))) :=
  ⟨pe_lc hc hN hi.pe ok (fun s H C cl fp => (hg s H C cl fp).pe) (fun s H C cl fp => (ht s H C cl fp).pe) (fun s H C cl fp => (he s H C cl fp).pe) hs, sim_lc m hi.sim (hg X.s_0 (fun _ => none) 0 [] []).sim (ht X.s_0 (fun _ => none) 0 [] []).sim (he X.s_0 (fun _ => none) 0 [] []).sim wp mn⟩
theorem s_setLc (m : Bool) (i : Nat) {y : Str} {py spos : Pos} {elt iter : Expr} {ifs : List Expr} {scope : Scope} (own : List (Str × Nat)) {wi : TI} {uw : DTI} {tt : TT} {ut : DTT} (hN : X.N.Nodup) (hi : ID X K Ex tg iter wi uw) (ok : BlkOk X.N X.env.scope scope own)
    (hg : ∀ (s : Shared) (H : Hp) (C : Addr) (cl : List (Str × Addr)) (fp : List Addr), GD (X.blk s H scope (compEnvC scope cl C X.env) fp) K X0 tg g ug) (ht : ∀ (s : Shared) (H : Hp) (C : Addr) (cl : List (Str × Addr)) (fp : List Addr), TsD (X.blk s H scope (compEnvC scope cl C X.env) fp) K X0 ifs tt ut)
    (he : ∀ (s : Shared) (H : Hp) (C : Addr) (cl : List (Str × Addr)) (fp : List Addr), PD (X.blk s H scope (compEnvC scope cl C X.env) fp) K X0 elt te ue) (wp : Wip g (own.map (·.2))) (mn : Mono g) (hsw : swapsWith (.ListComp elt [⟨tg, iter, ifs, 0⟩] scope pos) (some (.Name y py)) spos.line X.env = pure true)
    (hyl : X.env.scope.names.lookup y = some .local := by rfl) (hy : X.N[i]? = some y := by rfl) (hc : X.calm = true := by rfl) (hs : ∀ x, foldedSetIterable iter X.env x = pure x := by intro _; rfl) :
    SD X K Ex (.Assign [.Name y py] (.ListComp elt [⟨tg, iter, ifs, 0⟩] scope pos) spos) (tAsg (tLc wi g tt te (own.map (·.2))) (gName i)) (uAsg (uLc m uw ug ut ue (own.map (·.2))) (uGName i)) :=
  ⟨ps_setLc hc hN hy hyl hsw hi.pe ok (fun s H C cl fp => (hg s H C cl fp).pe) (fun s H C cl fp => (ht s H C cl fp).pe) (fun s H C cl fp => (he s H C cl fp).pe) hs, sim_asg (sim_lc m hi.sim (hg X.s_0 (fun _ => none) 0 [] []).sim (ht X.s_0 (fun _ => none) 0 [] []).sim (he X.s_0 (fun _ => none) 0 [] []).sim wp mn) (sim_gName i)⟩
end
end DX
set_option Elab.async false
set_option linter.all false
set_option maxRecDepth 100000
set_option maxHeartbeats 4000000
namespace DX
open PySem PySem.Spec PyProof.Rows L2
/-! ### a def by its body -/
section
variable {K : PySem.W.Frag} {Z : Hp} {as as' as1 : List Addr} {F F' F1 H H' H1 : Hp} {Ex : L2.St → XK}
def startD (N : List Str) (ds : List D) : Rho := ds.map some ++ List.replicate (N.length - ds.length) none
theorem env_start {N : List Str} {vs : List V} {ds : List D} (r : RepL K as F vs ds) : EnvR K as F (L2.start N vs) (startD N ds) := by
  refine ⟨by unfold L2.start startD; rw [List.length_append, List.length_append, List.length_map, List.length_map, List.length_replicate, List.length_replicate, r.len], fun i d e => ?_⟩
  unfold startD at e
  unfold L2.start
  by_cases hi : i < ds.length
  · rw [List.getElem?_append_left (by simpa using hi), List.getElem?_map] at e
    cases h : ds[i]? with
    | none => rw [h] at e; cases e
    | some d' =>
      rw [h] at e
      cases e
      obtain ⟨v, h1, h2⟩ := r.get h
      refine ⟨v, ?_, h2⟩
      rw [List.getElem?_append_left (by rw [List.length_map, r.len]; exact hi), List.getElem?_map, h1]
      rfl
  · rw [List.getElem?_append_right (by simpa using hi), List.getElem?_replicate] at e
    split at e <;> cases e
/-- the end of a def: what was made within may be frozen -/
def FZ (μ : Mem) (Q : D → Mem → Prop) (d : D) (μ' : Mem) : Prop := Q d μ' ∨ (stays μ.length μ μ' ∧ cld μ.length (fz μ' μ.length 6 d) = true ∧ Q (fz μ' μ.length 6 d) (μ'.take μ.length))
def FZE (μ : Mem) (E : Addr → List (Str × D) → Mem → Prop) : XD := fun _ C gs μ' => E C gs μ' ∨ (stays μ.length μ μ' ∧ cldF μ.length gs = true ∧ E C gs (μ'.take μ.length))
theorem fz_end {μ : Mem} (M : Mm K Z as F H μ) {Q : D → Mem → Prop} {Q' : VK} (kQ : ∀ v d μ' as' F' H', Gr as F as' F' → Mm K Z as' F' H' μ' → Rep K as' F' v d → Q d μ' → Q' v H')
    {v : V} {d : D} {μ' : Mem} (g : Gr as F as' F') (M' : Mm K Z as' F' H' μ') (r : Rep K as' F' v d) (q : FZ μ Q d μ') : Q' v H' := by
  rcases q with q | ⟨st, c, q⟩
  · exact kQ v d μ' as' F' H' g M' r q
  · obtain ⟨M2, sf⟩ := M'.freeze st.1 (stays_closed M rfl st)
    exact kQ v _ _ _ _ H' (g.take (Nat.le_of_eq M.len) sf) M2 ((fz_rep M' sf 6 r).cut take_get c) q
theorem fze_end {μ : Mem} (M : Mm K Z as F H μ) {E : Addr → List (Str × D) → Mem → Prop} {E' : XK} (kE : ∀ C gs dx μ' as' F' H', Gr as F as' F' → Mm K Z as' F' H' μ' → ExcR K as' F' dx gs → E C gs μ' → E' (.ref C) dx H') : XL K (fun _ => E') Z as F (FZE μ E) :=
  fun σ ρ μ' as' F' H' C gs dx g R er q => by
    rcases q with q | ⟨st, c, q⟩
    · exact kE C gs dx μ' as' F' H' g R.mm er q
    · obtain ⟨M2, sf⟩ := R.mm.freeze st.1 (stays_closed M rfl st)
      exact kE C gs dx _ _ _ H' (g.take (Nat.le_of_eq M.len) sf) M2 (excR_cut take_get er c sf) q
end
/-- the def at f, record fd, keeps S however its parameters are bound -/
structure FnB (P : Program) (w : World) (K : PySem.W.Frag) (mg : Str → Option Value) (base : Heap) (k : Nat) (f : Addr) (fd : FuncData) (ps : List Str) (S : DSp) : Prop where
  len : ∀ ds μ Q E, S ds μ Q E → ds.length = ps.length
  run : ∀ (A : Around) (outer : List Env) (s : Shared) (H : Hp) (args : Args) (us : List Value) (vs : List V) (Q : VK) (E : XK), Gd.Calm0 A → Room k A → Env0 P w K mg base A outer s H → BindsTo s fd args (ps.zip us) → Vals vs us → toSp K S vs H Q E →
    codeAny (model P w) A (.call (.ref f) args) (CR (L2.CX P w) outer P w H s Q E) s
section
variable {P : Program} {w : World} {K : PySem.W.Frag} {mg : Str → Option Value} {base : Heap} {k : Nat} {f : Addr} {fd : FuncData} {x qual : Str} {st : Stmt} {N ps : List Str} {S : DSp}
theorem sp_len {vs : List V} {H : Hp} {Q : VK} {E : XK} (len : ∀ ds μ Q E, S ds μ Q E → ds.length = ps.length) (h : toSp K S vs H Q E) : vs.length = ps.length := by
  obtain ⟨Z, as, F, ds, μ, Qd, Ed, r, M, hS, _⟩ := h
  rw [r.len]
  exact len _ _ _ _ hS
/-- a def's text, without defaults or with them -/
structure DefAt (K : PySem.W.Frag) (x qual : Str) (st : Stmt) (f : Addr) (fd : FuncData) : Prop where
  ex : ∃ (oc : Value) (od : Option Addr) (dV kV doc pm : Value) (an : Option Addr) (cdv ct : Value) (osl : Array (Option Value)),
    fd = PySem.W.fnOf x qual (defArgs st) (defBody st) (defScope st) dV kV doc pm an cdv ct ∧ K.lookup f = some ⟨oc, od, .func fd, osl⟩ ∧ PySem.W.codeIn K cdv qual = true
  kp : PySem.W.keepIn K (.ref f) = true
theorem okB (Fu : DefAt K x qual st f fd) (Sc : FnScope N ps (defScope st)) (len : ∀ ds μ Q E, S ds μ Q E → ds.length = ps.length) (u : DTS)
    (body : ∀ (cdv : Value) (A : Around) (outer : List Env) (s : Shared) (H : Hp) (E' : XK), Gd.Calm0 A → Room k (A.deeper (envOfC qual (defScope st) s.heap.objs.size f cdv)) →
      ∃ t, BD (cxOf (L2.CX P w) P w K mg base N qual (defScope st) f cdv A outer s H E') K (fun _ => E') (defBody st) t u)
    (read : ∀ ds μ Q E, S ds μ Q E → u { nx := fun _ μ' => FZ μ Q .non μ', rt := FZ μ Q } (FZE μ E) (startD N ds) μ) : FnB P w K mg base (k + 1) f fd ps S := by
  refine ⟨len, fun A outer s H args us vs Q E g hr e0 hb r hsp => ?_⟩
  obtain ⟨oc, od, dV, kV, doc, pm, an, cdv, ct, osl, rfl, lk, hcd⟩ := Fu.ex
  have hl := sp_len len hsp
  have KX : K.In s.heap := e0.mod.kin.keeps fun b o e => (e0.bs b o e).1
  have lim : s.heap.NoLimit := e0.mod.nolimit.keeps fun b o e => (e0.bs b o e).1
  have hkind : ∀ y ∈ ps.zip us, (defScope st).names.lookup y.1 = some .local ∨ ((defScope st).names.lookup y.1 = some .cell ∧ ((cellsFrom (s.heap.objs.size + 1) (defScope st).names []).lookup y.1).isSome = true) := fun ⟨n, v⟩ hy => by
    rcases Sc.par n (List.of_mem_zip hy).1 with q | q
    · exact .inl q
    · exact .inr ⟨q, PySem.W.cellsFrom_some _ _ _ (.inl q)⟩
  refine codeAny_call_function hr.depth (KX _ _ lk) rfl Sc.co Sc.gen rfl (PySem.W.codeRec_of KX hcd) (hb _ _ _ _ ?_)
  refine wpAny_newFunctionEnv_cells Sc.kind hkind fun env he s1 x => ?_
  subst he
  refine ⟨lim.keeps x.toInCall.keep, codeAny_func ?_⟩
  obtain ⟨t, ht⟩ := body cdv A outer s H E g (hr.deeper _)
  have I : L2.Inv (cxOf (L2.CX P w) P w K mg base N qual (defScope st) f cdv A outer s H E) [] (L2.start N vs) H s1 := inv_start Sc hr.hd e0 hl r x
  obtain ⟨Z, as, F, ds, μ, Qd, Ed, rr, M, hS, kQ, kE⟩ := hsp
  have hq : t { nx := fun _ H' => Q .non H', rt := Q } (L2.start N vs) H := ht.sim Z as F H (L2.start N vs) (startD N ds) μ _ _ _ ⟨M, env_start rr⟩ (fze_end M kE) (read ds μ Qd Ed hS)
    (fun σ' ρ' μ' as' F' H' g R q => fz_end M kQ g R.mm .non q) (fun v d μ' as' F' H' g M' r q => fz_end M kQ g M' r q) (fun _ _ _ _ _ _ _ _ z => z.elim) (fun _ _ _ _ _ _ _ _ z => z.elim)
  refine wpAny_mono (ht.pe.run [] s1 (L2.start N vs) H _ I hq) (fun fl s' hs => ?_) fun e s' hs => hs
  match fl, hs with
  | .ret u, ⟨v, σ', H', J, rv, q⟩ => exact ⟨v, H', J.os, J.bare, J.base, J.hok, rv, q⟩
  | .next, ⟨σ', H', J, q⟩ => exact ⟨V.non, H', J.os, J.bare, J.base, J.hok, rfl, q⟩
  | .brk, ⟨_, _, _, q⟩ => exact q.elim
  | .cont, ⟨_, _, _, q⟩ => exact q.elim
/-- called by position, the rest by defaults -/
theorem FnB.fn {S' : DSp} {dus : List Value} {dvs : List V} {dds : List D} (Fb : FnB P w K mg base k f fd ps S) (B : L2.Binds K fd ps dus) (hd : Vals dvs dus) (rd : ∀ as F, RepL K as F dvs dds) (hS : ∀ ds μ Q E, S' ds μ Q E → S (ds ++ dds) μ Q E) : FnD P w K mg base k f S' := by
  intro A outer s H us vs Q E g hr e0 r hsp
  obtain ⟨Z, as, F, ds, μ, Qd, Ed, rr, M, h, kQ, kE⟩ := hsp
  have r2 : Vals (vs ++ dvs) (us ++ dus) := r.append hd
  have sp2 : toSp K S (vs ++ dvs) H Q E := ⟨Z, as, F, ds ++ dds, μ, Qd, Ed, rr.append (rd as F), M, hS _ _ _ _ h, kQ, kE⟩
  have hl : (us ++ dus).length = ps.length := by rw [← r2.length]; exact sp_len Fb.len sp2
  exact Fb.run A outer s H ⟨us, []⟩ (us ++ dus) (vs ++ dvs) Q E g hr e0 (B s us (e0.mod.kin.keeps fun b o e => (e0.bs b o e).1) hl) r2 sp2
theorem FnB.fn0 (Fb : FnB P w K mg base k f fd ps S) (B : L2.Binds K fd ps []) : FnD P w K mg base k f S := Fb.fn B .nil (fun _ _ => .nil) fun ds μ Q E h => by rw [List.append_nil]; exact h
theorem FnD.mono {j : Nat} (h : FnD P w K mg base j f S) (hj : j ≤ k) : FnD P w K mg base k f S := fun A outer s H us vs Q E g hr => h A outer s H us vs Q E g (hr.mono hj)
theorem FnD.imp {S' : DSp} (h : FnD P w K mg base k f S) (hS : ∀ ds μ Q E, S' ds μ Q E → S ds μ Q E) : FnD P w K mg base k f S' := fun A outer s H us vs Q E g hr e0 r ⟨Z, as, F, ds, μ, Qd, Ed, rr, M, z, kQ, kE⟩ => h A outer s H us vs Q E g hr e0 r ⟨Z, as, F, ds, μ, Qd, Ed, rr, M, hS _ _ _ _ z, kQ, kE⟩
/-- the law itself -/
def SLaw : DSp := fun ds μ Q _ => ∃ ns : List Int, ds = [.kl (ns.map .int)] ∧ ns.length ≤ 63 ∧ ∀ μ', Q (.bl true) μ'
def spLaw (K : PySem.W.Frag) : Sp := fun vs H Q _ => ∃ (a : Addr) (ns : List Int), vs = [.ref a] ∧ SqL K H a (ns.map V.int) ∧ ns.length ≤ 63 ∧ ∀ H', Q (.bl true) H'
theorem rep_ints {as : List Addr} {F : Hp} : ∀ ns : List Int, RepL K as F (ns.map V.int) (ns.map D.int)
  | [] => .nil
  | _ :: r => .cons (.int _) (rep_ints r)
theorem lawG (h : FnD P w K mg base k f SLaw) : Gd.FnG P w K mg base CX0 k f (spLaw K) := by
  intro A outer s H us vs Q E g hr e0 r hsp
  obtain ⟨a, ns, rfl, hS, hl, q⟩ := hsp
  -- all that stands is left out but the script
  refine codeAny_mono (h A outer s H us _ Q E0 g hr e0 r ⟨fun _ => none, [], H, [.kl (ns.map .int)], [], (fun d _ => d = .bl true), fun _ _ _ => False, .cons (.kl hS (rep_ints ns)) .nil, ⟨Same.refl H, rfl, List.nodup_nil, fun _ z => (nomatch z), fun k m e => by simp at e, fun _ _ z => (nomatch z)⟩,
    ⟨ns, rfl, hl, fun μ' => rfl⟩, fun v d μ' as' F' H' g M r z => ?_, fun _ _ _ _ _ _ _ _ _ _ z => z.elim⟩) fun r s' hq => ?_
  · have z : d = .bl true := z
    subst z
    cases r
    exact q H'
  · match r, hq with
    | .error e, hq =>
      obtain ⟨_, _, _, _, _, _, _, _, _, _, _, _, z⟩ := hq
      exact z.elim
    | .ok (.ret u), hq => exact hq
end
end DX
set_option Elab.async false
set_option linter.all false
set_option maxRecDepth 100000
set_option maxHeartbeats 4000000
namespace DX
open PySem PySem.Spec PyProof.Rows L2
/-! ### own errors -/
def spErr (K : PySem.W.Frag) (f : Str) : Sp := fun vs H Q _ => ∃ (a C : Addr) (v : V), vs = [.ref a, v] ∧ OexC K C ∧ PySem.W.findIn K (.ref C) f = some none ∧ H a = some (exo a C none) ∧ ∀ d, H d = none → d ≠ a → Q .non (upd (upd H d (exd d [(f, v)])) a (exo a C (some d)))
theorem err_end {K : PySem.W.Frag} {f : Str} {C a : Addr} {v : V} {H : Hp} {E : XK} (T : OexC K C) (no : PySem.W.findIn K (.ref C) f = some none) (na : H a = none)
    (q : ∀ H' d, Same H H' → H d = none → H' d = some (.xd [(f, v)]) → E (.ref C) (some d) H') :
    spErr K f (.ref a :: ([v] ++ [])) (upd H a (exo a C none)) (fun u H2 => u = .non ∧ ∃ (d : Addr) (fs : List (Str × V)), H2 a = some (exo a C (some d)) ∧ H2 d = some (exd d fs) ∧ H d = none ∧ E (.ref C) (some d) (upd (del H2 a) d (.xd fs))) (fun _ _ _ => False) := by
  refine ⟨a, C, v, rfl, T, no, upd_same, fun d hd ne => ⟨rfl, d, _, upd_same, by rw [upd_ne ne]; exact upd_same, ?_, ?_⟩⟩
  · rw [upd_ne ne] at hd
    exact hd
  · rw [upd_ne ne] at hd
    refine q _ d (fun b o e => ?_) hd upd_same
    have nba : b ≠ a := ne_of_none e na
    have nbd : b ≠ d := ne_of_none e hd
    rw [upd_ne nbd, del_ne nba, upd_ne nba, upd_ne nbd, upd_ne nba]
    exact e
/-- an own error class: its attribute f, its __init__ -/
structure ErrD (P : Program) (w : World) (K : PySem.W.Frag) (mg : Str → Option Value) (base : Heap) (x f : Str) (C fI : Addr) (fd : FuncData) : Prop where
  T : OexC K C
  no : PySem.W.findIn K (.ref C) f = some none
  gC : mg x = some (.ref C)
  iC : PySem.W.findIn K (.ref C) "__init__" = some (some (.ref fI))
  tI : PySem.W.typeIn K (.ref fI) = some (.type "function")
  F : FnOk P w K mg base CX0 1 fI fd ["self", f] (spErr K f)
  b : L2.Binds K fd ["self", f] []
section
variable {K : PySem.W.Frag} {Z : Hp} {as as' as1 : List Addr} {F F' F1 H H' H1 : Hp} {Ex : L2.St → XK}
theorem Mm.known {μ : Mem} (M : Mm K Z as F H μ) {d : Addr} {o : HO} (e : H d = some o) (nF : F d = none) (na : d ∉ as) (nZ : Z d = none) : Mm K Z as (upd F d o) H μ := by
  refine ⟨fun b u h => ?_, M.len, M.nd, fun a ha => ?_, fun k m h => ?_, fun a u h => ?_⟩
  · by_cases z : b = d
    · subst z; rw [upd_same] at h; rw [← h]; exact e
    · rw [upd_ne z] at h; exact M.same _ _ h
  · rw [upd_ne (fun z : a = d => na (by rw [← z]; exact ha))]; exact M.fr a ha
  · obtain ⟨a, ha, x⟩ := M.at_ k m h
    exact ⟨a, ha, x.up (Gr.upd nF) rfl⟩
  · obtain ⟨h1, h2, h3⟩ := M.hid a u h
    exact ⟨h1, by rw [upd_ne (ne_of_none h nZ)]; exact h2, h3⟩
def uRaise (C : Addr) (f : Str) (u : DTA) : DTS := fun _ E ρ μ => u ρ μ (fun ds μ1 => match ds with
  | [d] => E ρ C [(f, d)] μ1
  | _ => False) E
theorem sim_raise {C : Addr} {f : Str} {t : TA} {u : DTA} (T : OexC K C) (no : PySem.W.findIn K (.ref C) f = some none) (a : SimA K Ex t u) : SimS K Ex (fun _ σ H => tMkO C (spErr K f) [] t σ H fun cls d H' => Ex σ cls d H') (uRaise C f u) := fun Z as F H σ ρ μ De E D' R X h kn kr kb kc =>
  a Z as F H σ ρ μ _ E _ R X h fun vs ds μ1 as1 F1 H1 g1 R1 r1 h1 => by
    have h1 : (match (generalizing := false) ds with | [d] => E ρ C [(f, d)] μ1 | _ => False) := h1
    split at h1
    · cases r1 with
      | @cons w _ _ _ ra rb =>
        cases rb
        refine ⟨Nat.le_of_ble_eq_true rfl, fun p np => err_end T no np fun H' d sm nd hd => ?_⟩
        have M2 := R1.mm.ext sm
        have nF := R1.mm.newF nd
        have nZ : Z d = none := by
          cases e : Z d with
          | none => rfl
          | some o => have := (R1.mm.hid d o e).1; rw [nd] at this; cases this
        have g2 := Gr.upd (as := as1) (o := .xd [(f, w)]) nF
        exact X σ ρ μ1 as1 _ H' C _ (some d) (g1.trans g2) (R1.up g2 (M2.known hd nF (R1.mm.new nd) nZ)) (.inr ⟨d, _, rfl, upd_same, .cons (ra.up g2) .nil⟩) h1
    · exact h1.elim
/-! ### try .. except C as n -/
def uTry (K : PySem.W.Frag) (c : Value) (i : Nat) (ub : DTS) (us : Addr → Value → Option Addr → DTS) : DTS := fun De E ρ μ =>
  ub De (fun ρ' C gs μ' => ∃ b, PySem.W.exmOne K (.ref C) c = some b ∧ (b = true → ∀ a d, us a (.ref C) d { nx := fun ρ2 μ2 => De.nx (ρ2.set i none) μ2, rt := De.rt, bk := fun ρ2 μ2 => De.bk (ρ2.set i none) μ2, ct := fun ρ2 μ2 => De.ct (ρ2.set i none) μ2 } XN (ρ'.set i (some (.exc a C d gs))) μ') ∧ (b = false → E ρ' C gs μ')) ρ μ
theorem exc_rep {a C : Addr} {dx : Option Addr} {gs : List (Str × D)} (h : ExcR K as F dx gs) : Rep K as F (.ref a) (.exc a C dx gs) := by
  rcases h with rfl | ⟨dd, fs, rfl, e, r⟩
  · exact .exc0
  · exact .exc e r
theorem Rp.unset {σ : L2.St} {ρ : Rho} {μ : Mem} (R : Rp K Z as F H σ ρ μ) (i : Nat) : Rp K Z as F H (σ.set i none) (ρ.set i none) μ := ⟨R.mm, R.env.unset i⟩
theorem sim_try {c : Value} {i : Nat} {tb : WX → TS} {ub : DTS} {ts : Addr → Value → Option Addr → TS} {us : Addr → Value → Option Addr → DTS} (b : ∀ W : WX, SimS K (WE W) (tb W) ub) (s : ∀ a cls d, SimS K X0 (ts a cls d) (us a cls d)) :
    SimS K Ex (fun D σ H => tb (wAs K c i ts (fun cls d σ H => Ex σ cls d H) D) D σ H) (uTry K c i ub us) := fun Z as F H σ ρ μ De E D' R X h kn kr kb kc => by
  refine b _ Z as F H σ ρ μ De _ D' R ?_ h kn kr kb kc
  intro σ1 ρ1 μ1 as1 F1 H1 C gs dx g R1 er q
  obtain ⟨bb, hb, q1, q2⟩ := q
  refine ⟨bb, hb, fun e a na => ?_, fun e => X σ1 ρ1 μ1 as1 F1 H1 C gs dx g R1 er (q2 e)⟩
  exact s a (.ref C) dx Z as1 F1 H1 (σ1.set i (some (.ref a))) (ρ1.set i (some (.exc a C dx gs))) μ1 _ XN _ ⟨R1.mm, R1.env.set (exc_rep er) i⟩ XL.no (q1 e a dx)
    (fun σ2 ρ2 μ2 as2 F2 H2 g2 R2 => kn _ _ μ2 as2 F2 H2 (g.trans g2) (R2.unset i)) (fun v d μ2 as2 F2 H2 g2 => kr v d μ2 as2 F2 H2 (g.trans g2))
    (fun σ2 ρ2 μ2 as2 F2 H2 g2 R2 => kb _ _ μ2 as2 F2 H2 (g.trans g2) (R2.unset i)) (fun σ2 ρ2 μ2 as2 F2 H2 g2 R2 => kc _ _ μ2 as2 F2 H2 (g.trans g2) (R2.unset i))
end
section
variable {X : Cx} {K : PySem.W.Frag} {Ex : L2.St → XK} {pos pos' np : Pos} {e : Expr} {es : List Expr} {t : TA} {u : DTA} {x n f : Str} {C fI : Addr} {fd : FuncData} {body suite : List Stmt} {b₀ : Stmt} {c : Value} {i : Nat} {tb : WX → TS} {ub : DTS} {ts : Addr → Value → Option Addr → TS} {us : Addr → Value → Option Addr → DTS}
theorem s_raise {p : Pos} (er : ErrD X.prog X.w K X.mg X.base x f C fI fd) (hr : Room 2 X.A) (tk : Tk X Ex) (ha : AD X K Ex (e :: es) t u) (hK : X.K = K := by rfl) (hc : X.calm = true := by rfl) (hg : Gl X x := by rfl)
    (hdb : (x == ("__debug__" : Str)) = false := by decide) (he : starEach (e :: es) X.env = (false, eval e X.env) :: starEach es X.env := by rfl) (hpl : (backTo pos (starEach es X.env)).any (·.1) = false := by rfl) :
    SD X K Ex (.Raise (some (.Call (.Name x p) (e :: es) [] pos)) none pos') (fun _ σ H => tMkO C (spErr K f) [] t σ H fun cls d H' => Ex σ cls d H') (uRaise C f u) := by
  subst hK
  exact ⟨ps_raise hc tk (pmk_oex er.T er.iC er.tI er.F hr er.b .nil pass0 hg er.gC ha.pe hdb he hpl), sim_raise er.T er.no ha.sim⟩
/-- the wish of an empty look -/
def xNote (X : Cx) : Value → Shared → Prop := fun e s' => wpAny (model X.prog X.w) X.A (noteFrame e X.env) (fun _ _ => True) (fun _ _ => True) s'
theorem takes_note (hs : X.stack = X.env :: X.outer) (hf : X.env.frame = some X.env.locals) (W : WX) : Takes (X.tr [] (xNote X)) W := fun u s' xx => by
  obtain ⟨a, B, sI, pins', σ', H', cls, d, rfl, J, nb, up, sky, na, os, ag, w⟩ := xx
  have hfr : X.A.frames = some (X.env :: X.outer) := by rw [← hs]; exact J.ok.frames
  have sky' : Sky B (X.env :: X.outer) a (Zc cls d) X.env.locals s'.heap := by rw [← hs]; exact sky
  exact wpAny_mono (Sky.land (E₁ := fun _ _ => True) (Q := fun _ _ => True) Zc.steady hfr hf sky' fun _ _ _ => True.intro) (fun _ _ _ => True.intro) fun _ _ _ => True.intro
theorem s_try (i : Nat) (hN : X.N.Nodup) (hc : Names X x c) (tk : Tk X Ex)
    (hb : ∀ (W : WX) (pn : List (Addr × Obj)) (xe : Value → Shared → Prop), Takes (X.tr pn xe) W → PassesOwn (model X.prog X.w) X.A X.env xe → BD (X.tr pn xe) K (WE W) body (tb W) ub)
    (hsu : ∀ (a : Addr) (oe : Obj) (cls : Value) (d : Option Addr) (pn : List (Addr × Obj)), Zc cls d oe → (∃ vs, oe.data = .fields vs) → BD (X.suite a ((a, oe) :: pn)) K X0 (b₀ :: suite) (ts a cls d) (us a cls d))
    (hi : X.N[i]? = some n := by rfl) (hs : X.stack = X.env :: X.outer := by rfl) (hf : X.env.frame = some X.env.locals := by rfl) (hln : X.env.kindOf n = some .local := by rfl) (hK : X.K = K := by rfl) :
    SD X K Ex (.Try body [.ExceptHandler (some (.Name x np)) (some n) (b₀ :: suite) pos'] [] [] pos) (fun D σ H => tb (wAs K c i ts (fun cls d σ H => Ex σ cls d H) D) D σ H) (uTry K c i ub us) := by
  subst hK
  exact ⟨ps_try_as hs hf hN hi hln hc tk (fun W pn xe a b => (hb W pn xe a b).pe) (fun a oe cls d pn z z2 => (hsu a oe cls d pn z z2).pe),
    sim_try (fun W => (hb W [] (xNote X) (takes_note hs hf W) PassesOwn.looking).sim) (fun a cls d => (hsu a { cls := cls, dict := d, data := .fields #[] } cls d [] ⟨rfl, rfl⟩ ⟨_, rfl⟩).sim)⟩
end
/-! ### the caught error -/
section
variable {K : PySem.W.Frag} {Z : Hp} {as as' as1 : List Addr} {F F' F1 H H' H1 : Hp} {Ex : L2.St → XK}
def tXfA (K : PySem.W.Frag) (a : Addr) (cls : Value) (d : Option Addr) (f : Str) (te : TE) : TE := fun σ H Q => te σ H fun x H1 => x = .ref a ∧ ∃ C, cls = .ref C ∧ XfC K C ∧ PySem.W.findIn K (.ref C) f = some none ∧ ∃ (dd : Addr) (fs : List (Str × V)) (v : V), d = some dd ∧ H1 dd = some (.xd fs) ∧ fs.lookup f = some v ∧ Q v H1
def uXf (K : PySem.W.Frag) (a : Addr) (cls : Value) (d : Option Addr) (f : Str) (ue : DTE) : DTE := fun ρ μ Q E => ue ρ μ (fun x μ1 => match x with
  | .exc a' C d' gs => a' = a ∧ cls = .ref C ∧ d' = d ∧ XfC K C ∧ PySem.W.findIn K (.ref C) f = some none ∧ (match gs.lookup f with
    | some v => Q v μ1
    | none => False)
  | _ => False) E
theorem sim_xf {a : Addr} {cls : Value} {d : Option Addr} {f : Str} {te : TE} {ue : DTE} (s : Sim K Ex te ue) : Sim K Ex (tXfA K a cls d f te) (uXf K a cls d f ue) := fun Z as F H σ ρ μ Q E Q' R X h k =>
  s Z as F H σ ρ μ _ E _ R X h fun v dv μ1 as1 F1 H1 g1 R1 r1 h1 => by
    cases r1 <;> try exact h1.elim
    · obtain ⟨_, _, _, _, _, h2⟩ := h1
      exact h2.elim
    · rename_i a' C dd fs gs e r
      obtain ⟨e1, e2, e3, e4, e5, h2⟩ := h1
      cases l : gs.lookup f with
      | none => rw [l] at h2; exact h2.elim
      | some w =>
        rw [l] at h2
        obtain ⟨v', l', rr⟩ := r.look l
        exact ⟨by rw [e1], C, e2, e4, e5, dd, fs, v', e3.symm, R1.mm.same _ _ e, l', k v' w μ1 as1 F1 H1 g1 R1 rr h2⟩
def rIsXA (K : PySem.W.Frag) (a : Addr) (cls : Value) (d : Option Addr) (c : V) (cv : Value) : List V → Hp → VK → Prop := fun xs H Q => ∃ C, cls = .ref C ∧ Vx.ExcX K C ∧ ∃ (dd : Addr) (fs : List (Str × V)) (b : Bool), d = some dd ∧ H dd = some (.xd fs) ∧ xs = [.ref a, c] ∧ PySem.W.kitOne K (.ref C) cv = some b ∧ Q (.bl b) H
def uIsX (K : PySem.W.Frag) (a : Addr) (cls : Value) (d : Option Addr) (cv : Value) (ue : DTE) : DTE := fun ρ μ Q E => ue ρ μ (fun x μ1 => match x with
  | .exc a' C d' (_ :: _) => a' = a ∧ cls = .ref C ∧ d' = d ∧ Vx.ExcX K C ∧ ∃ b, PySem.W.kitOne K (.ref C) cv = some b ∧ Q (.bl b) μ1
  | _ => False) E
theorem sim_isX {a : Addr} {cls : Value} {d : Option Addr} {c : V} {cv : Value} {te : TE} {ue : DTE} (s : Sim K Ex te ue) : Sim K Ex (tCB (rIsXA K a cls d c cv) (tCons te (tCons (tC c) tNil))) (uIsX K a cls d cv ue) := fun Z as F H σ ρ μ Q E Q' R X h k =>
  s Z as F H σ ρ μ _ E _ R X h fun v dv μ1 as1 F1 H1 g1 R1 r1 h1 => by
    cases r1 <;> try exact h1.elim
    rename_i a' C dd fs gs e r
    cases gs with
    | nil => exact h1.elim
    | cons g0 gs =>
      obtain ⟨e1, e2, e3, e4, b, e5, q⟩ := h1
      exact ⟨C, e2, e4, dd, fs, b, e3.symm, R1.mm.same _ _ e, by rw [e1], e5, k _ _ μ1 as1 F1 H1 g1 R1 (.bl _) q⟩
end
section
variable {X : Cx} {a : Addr} {oe : Obj} {cls : Value} {d : Option Addr} {pn : List (Addr × Obj)} {K : PySem.W.Frag} {pos p1 p2 : Pos} {e : Expr} {te : TE} {ue : DTE} {f n : Str}
theorem d_xf (hz : Zc cls d oe) (hf : ∃ vs, oe.data = .fields vs) (he : PD (X.suite a ((a, oe) :: pn)) K X0 e te ue) (hK : X.K = K := by rfl) (hb : attributeBase e f (X.suite a ((a, oe) :: pn)).env (eval e (X.suite a ((a, oe) :: pn)).env) = eval e (X.suite a ((a, oe) :: pn)).env := by rfl) :
    PD (X.suite a ((a, oe) :: pn)) K X0 (.Attribute e f pos) (tXfA K a cls d f te) (uXf K a cls d f ue) := by
  subst hK
  refine ⟨⟨fun pins s σ H Q I h => ?_⟩, sim_xf he.sim⟩
  refine attr_of hb (thn (he.pe.run pins s σ H _ I h) fun u s1 hh => ?_)
  obtain ⟨x, H1, I1, rx, ex, C, ec, T, hno, dd, fs, v, ed, ea, l, q⟩ := hh
  subst ex
  obtain rfl : u = Value.ref a := rx
  subst ec
  subst ed
  obtain ⟨ha, _⟩ := I1.pin (a, oe) (List.mem_append_left _ List.mem_cons_self)
  obtain ⟨vs, hd⟩ := hf
  have hx : ObjOk X.prog X.w H1 s1.heap dd (.xd fs) := I1.hok dd _ ea
  obtain ⟨mA, hns, hr⟩ := hx
  obtain ⟨od, ho, hl⟩ := lookIn_ns hns
  obtain ⟨u, hu, ru⟩ := RelO.some_of (v := v) (o := mA f) (by rw [← l]; exact hr f)
  have J : PySem.W.InstAt s1.heap a oe C (some od) := ⟨ha, hz.1, by unfold PySem.W.notCls; rw [hd] <;> rfl, by rw [hz.2]; exact ho⟩
  exact HandSPX.exc_get I1.kIn J T.ga T.gg T.exC (PySem.W.findObj_own T.hdC hno rfl (by rw [hl, hu])) (handed_of ru) ⟨v, H1, I1.tok _, ru, q⟩
theorem call_isXA {c : V} {cv : Value} (hcv : ∀ u, RelV c u → u = cv) (hz : Zc cls d oe) (hf : ∃ vs, oe.data = .fields vs) : CallR (X.suite a ((a, oe) :: pn)) (.builtin "isinstance") (rIsXA X.K a cls d c cv) := by
  intro pins s σ H xs us Q I r h
  obtain ⟨C, ec, T, dd, fs, b, ed, hd, ex, e, q⟩ := h
  exact Vx.call_isX T hz hf pins s σ H xs us Q I r ⟨ec, dd, fs, c, cv, b, ed, hd, ex, hcv, e, q⟩
/-- isinstance(e, C) of the caught error, C an own class -/
theorem d_isX {C : Addr} (hz : Zc cls d oe) (hf : ∃ vs, oe.data = .fields vs) (hm : X.mg "isinstance" = none) (hm2 : X.mg n = some (.ref C)) (he : PD (X.suite a ((a, oe) :: pn)) K X0 e te ue) (hg : Gl X "isinstance" := by rfl) (hg2 : Gl X n := by rfl) (hK : X.K = K := by rfl)
    (hd : (n == ("__debug__" : Str)) = false := by decide) (h1 : starEach [e, .Name n p1] X.env = (false, eval e X.env) :: starEach [.Name n p1] X.env := by rfl) (h2 : starEach [.Name n p1] X.env = (false, eval (.Name n p1) X.env) :: starEach [] X.env := by rfl) (h3 : (backTo pos (starEach [.Name n p1] X.env)).any (·.1) = false := by rfl) :
    PD (X.suite a ((a, oe) :: pn)) K X0 (.Call (.Name "isinstance" p2) [e, .Name n p1] [] pos) (tCB (rIsXA K a cls d (.ref C) (.ref C)) (tCons te (tCons (tC (.ref C)) tNil))) (uIsX K a cls d (.ref C) ue) := by
  subst hK
  exact ⟨pe_callB (X := X.suite a ((a, oe) :: pn)) (call_isXA (fun u z => z) hz hf) hg hm (by decide +kernel) (pa_cons he.pe (pa_cons (pe_glob (X := X.suite a ((a, oe) :: pn)) (v := .ref C) hg2 hm2 rfl hd) pa_nil h2) h1) (by decide) (by decide) h1 h3, sim_isX he.sim⟩
theorem d_isXB {T : String} (hz : Zc cls d oe) (hf : ∃ vs, oe.data = .fields vs) (hm : X.mg "isinstance" = none) (hm2 : X.mg n = none) (he : PD (X.suite a ((a, oe) :: pn)) K X0 e te ue) (hv : bootBuiltins n = some (.type T) := by decide +kernel) (hg : Gl X "isinstance" := by rfl) (hg2 : Gl X n := by rfl) (hK : X.K = K := by rfl)
    (hn : n ≠ "__name__" := by decide) (hd : (n == ("__debug__" : Str)) = false := by decide) (h1 : starEach [e, .Name n p1] X.env = (false, eval e X.env) :: starEach [.Name n p1] X.env := by rfl) (h2 : starEach [.Name n p1] X.env = (false, eval (.Name n p1) X.env) :: starEach [] X.env := by rfl) (h3 : (backTo pos (starEach [.Name n p1] X.env)).any (·.1) = false := by rfl) :
    PD (X.suite a ((a, oe) :: pn)) K X0 (.Call (.Name "isinstance" p2) [e, .Name n p1] [] pos) (tCB (rIsXA K a cls d (.ty T) (.type T)) (tCons te (tCons (tC (.ty T)) tNil))) (uIsX K a cls d (.type T) ue) := by
  subst hK
  exact ⟨pe_callB (X := X.suite a ((a, oe) :: pn)) (call_isXA (fun u z => z) hz hf) hg hm (by decide +kernel) (pa_cons he.pe (pa_cons (pe_bltn (X := X.suite a ((a, oe) :: pn)) (v := .ty T) hg2 hm2 hv rfl hn hd) pa_nil h2) h1) (by decide) (by decide) h1 h3, sim_isX he.sim⟩
end
end DX
set_option Elab.async false
set_option linter.all false
set_option maxRecDepth 100000
set_option maxHeartbeats 2000000
namespace Vx
open PySem PySem.Spec PyProof.Rows L2
section
variable {X : Cx} {CX : CXT} {k : Nat} {C f : Addr} {sp : Sp} {E : XK} {pins : List (Addr × Obj)} {σ : L2.St} {H : Hp} {s : Shared} {Q : VK} {A : Around}
/-- a def called somewhere below the running body -/
theorem run_in {us : List Value} {vs : List V} (sb : Sub X k A) (F : FnR X.prog X.w X.K X.mg X.base CX k f sp) (hx : Passes CX X E) (I : L2.Inv X pins σ H s) (r : Vals vs us) (h : sp vs H Q E) :
    codeAny (model X.prog X.w) A (.call (.ref f) ⟨us, []⟩) (fun r s' => match r with | .ok (.ret v) => EP X pins σ Q v s' | .ok _ => False | .error e => X.xe e s') s := by
  have e0 : Env0 X.prog X.w X.K X.mg X.base A X.stack s H := by
    have e := I.env0
    exact ⟨by rw [sb.fr]; exact e.frames, e.mod, e.bs, e.bsz, e.funs, e.frf, e.hok, e.bare⟩
  refine codeAny_mono (F A X.stack s H us vs Q E sb.room e0 r h) fun r s' hq => ?_
  cases r with
  | error e => exact hx pins σ H s e s' I hq
  | ok fl =>
    cases fl with
    | ret u => exact I.after hq
    | next => exact False.elim hq
    | brk => exact False.elim hq
    | cont => exact False.elim hq
end
section
variable {prog : Program} {w : World} {A : Around} {E : Value → Shared → Prop} {s : Shared} {K : PySem.W.Frag} {x C L f : Addr} {h₀ : Heap} {m : Str → Option Value} {ox : Obj} {od : Option Obj} {b : Value}
open PySem.W in
theorem ne_body (hu : A.units < cLine) (X : K.In s.heap) (I : InstAt s.heap x ox C od) (he : findIn K (.ref C) "__eq__" = some (some (.ref f))) (hf : isFn K (.ref f) = true) {Q : Value → Shared → Prop}
    (h : wpAny (model prog w) A (call (.ref f) [.ref x, b]) (fun v s' => ∃ r, v = .bool r ∧ Q (.bool (!r)) s') E s) :
    wpAny (model prog w) A (Builtin.«object.__ne__» ⟨[.ref x, b], []⟩) (fun fin s' => ∃ v, fin = .done (.ret v) ∧ Q v s') E s := by
  unfold Builtin.«object.__ne__»
  obtain ⟨hh, g, d, t, os⟩ := s
  have st : wpAny (model prog w) A (callSpecialIfBound? (.ref x) "__eq__" [b]) (fun r s' => ∃ v, r = some (.bool v) ∧ Q (.bool (!v)) s') E ⟨hh, g, d, t, os⟩ :=
    ifBound_K X I he hf (wpAny_mono h (fun v s' hv => by obtain ⟨r, rfl, q⟩ := hv; exact ⟨r, rfl, q⟩) fun _ _ z => z)
  repeat (first | with_reducible refine wpAny_cRoomFor hu ?_ | with_reducible refine wpAny_bind (wpAny_mono st (fun r s' hr => ?_) fun _ _ z => z) | wp_step)
  obtain ⟨v, rfl, q⟩ := hr
  refine wpAny_bind (wpAny_truthy_bool ?_)
  exact wpAny_pure ⟨_, rfl, q⟩
open PySem.W in
theorem ne_K {Q : Value → Shared → Prop} {tb : Value} (hu : A.units + 1 < cLine) (F : Fr h₀ L s.heap m) (X₀ : K.In h₀) (I : InstAt s.heap x ox C od) (hb : Looks (model prog w) s.heap (typeOf b) tb) (hn : notFirst K C tb = true)
    (hs : findIn K (.ref C) "__ne__" = some (some (.builtin "object.__ne__"))) (he : findIn K (.ref C) "__eq__" = some (some (.ref f))) (hf : isFn K (.ref f) = true) (ho : mroIn K C (.type "object") = some true)
    (h : wpAny (model prog w) A.in1 (call (.ref f) [.ref x, b]) (fun v s' => ∃ r, v = .bool r ∧ Q (.bool (!r)) s') E s) : wpAny (model prog w) A (richCompare .NotEq (.ref x) b) Q E s := by
  have X := X₀.keeps F.keep
  have hu0 : A.units < cLine := Nat.lt_trans (Nat.lt_succ_self _) hu
  have cb : wpAny (model prog w) A (call (.builtin "object.__ne__") ([.ref x] ++ [b])) (fun v s' => ∃ r, v = .bool r ∧ Q v s') E s := by
    refine wpAny_call (codeAny_call_builtin PySem.F.cmp_object.ne.plain PySem.F.cmpEntry_ne (check_slot PySem.F.cmpKind_ne PySem.F.cmpSplit_ne (I.type.andThen (looks_mroIn X ho)) (PySem.F.cmpArgs_ne _ _) ?_))
    have z : wpAny (model prog w) A.in1 (Builtin.«object.__ne__» ⟨[.ref x, b], []⟩) (fun fin s' => ∃ v, fin = .done (.ret v) ∧ ∃ r, v = .bool r ∧ Q v s') E s :=
      ne_body (Q := fun v s' => ∃ r, v = .bool r ∧ Q v s') (A := A.in1) hu X I he hf (wpAny_mono h (fun v s' hv => by obtain ⟨r, rfl, q⟩ := hv; exact ⟨r, rfl, _, rfl, q⟩) fun _ _ z => z)
    refine wpAny_mono z (fun fin s' hv => ?_) fun _ _ y => y
    obtain ⟨v, rfl, r, rfl, q⟩ := hv
    exact ⟨r, rfl, q⟩
  have one : wpAny (model prog w) A (tryCompare (.ref x) "__ne__" b) (fun r s' => ∃ v, r = some v ∧ Q v s') E s := by
    unfold tryCompare
    refine wpAny_bind ?_
    simp only [callSpecialIfBound?, bindSpecialIfBound?]
    refine wpAny_holding (wpAny_bind (wpAny_bind (wpAny_bind (I.type.here ((looks_findIn X hs).here ?_)))))
    simp only [PySem.F.cmp_object.ne.bind]
    refine wpAny_bind (wpAny_askSetting (wpAny_ite ?_))
    have fin : wpAny (model prog w) A (call (.builtin "object.__ne__") ([.ref x] ++ [b]) >>= fun v => pure (some v)) (fun r s' => ∃ v, r = some (.bool v) ∧ Q (.bool v) s') E s :=
      wpAny_bind (wpAny_mono cb (fun v s' h' => by obtain ⟨r, rfl, q⟩ := h'; exact wpAny_pure ⟨r, rfl, q⟩) fun _ _ h' => h')
    have fin2 := wpAny_mono fin (Q' := fun r s' => wpAny (model prog w) A (match r with | some .notImplemented => pure none | none => pure none | some v => pure (some v)) (fun r s' => ∃ v, r = some v ∧ Q v s') E s') (fun r s' h' => by obtain ⟨v, rfl, q⟩ := h'; exact wpAny_pure ⟨_, rfl, q⟩) fun _ _ z => z
    split
    · exact wpAny_bind (wpAny_pure (wpAny_pure fin2))
    · exact wpAny_tryCatch (wpAny_bind (wpAny_pure (wpAny_pure fin2)))
  unfold richCompare
  simp only [oneThing_ref]
  refine wpAny_holding (wpAny_bind (wpAny_cRoomFor hu0 ?_))
  refine wpAny_bind (I.type.here (wpAny_bind (hb.here ?_)))
  split
  · rename_i q
    have e : subIn K tb (.ref C) = some false := by
      rcases Bool.or_eq_true_iff.mp hn with e | e
      · rw [beq_iff_eq.mp e] at q; simp at q
      · exact beq_iff_eq.mp e
    refine wpAny_bind ((looks_subIn X e).here ?_)
    simp only [Bool.false_eq_true, if_false]
    refine wpAny_bind (wpAny_mono one (fun r s' z => ?_) fun _ _ e => e)
    obtain ⟨v, rfl, hq⟩ := z
    exact wpAny_pure hq
  · refine wpAny_bind (wpAny_pure ?_)
    simp only [Bool.false_eq_true, if_false]
    refine wpAny_bind (wpAny_mono one (fun r s' z => ?_) fun _ _ e => e)
    obtain ⟨v, rfl, hq⟩ := z
    exact wpAny_pure hq
end
section
variable {X : Cx} {CX : CXT} {k : Nat} {C f : Addr} {sp : Sp} {E : XK}
/-- o != y: not o == y, by the own == -/
def rNeOwn (C : Addr) (sp : Sp) (E : XK) : R2 := fun x y H Q => (∃ a dx fs, x = .ref a ∧ H a = some (.ins C dx fs)) ∧ (∃ b dy gs, y = .ref b ∧ H b = some (.ins C dy gs)) ∧ sp [x, y] H (fun v H' => ∃ r, v = .bl r ∧ Q (.bl (!r)) H') E
theorem op_neOwn (nf : PySem.W.notFirst X.K C (.ref C) = true) (hs : PySem.W.findIn X.K (.ref C) "__ne__" = some (some (.builtin "object.__ne__"))) (he : PySem.W.findIn X.K (.ref C) "__eq__" = some (some (.ref f))) (fn : PySem.W.isFn X.K (.ref f) = true)
    (ho : PySem.W.mroIn X.K C (.type "object") = some true) (F : FnR X.prog X.w X.K X.mg X.base CX k f sp) (hr : Room (k + 1) X.A) (hx : Passes CX X E) : OpR X (compareOp .NotEq) (rNeOwn C sp E) := by
  intro pins s σ H x y v u Q I rx ry hq
  obtain ⟨⟨a, dx, fs, rfl, ha⟩, ⟨b, dy, gs, rfl, hb⟩, hsp⟩ := hq
  have ev : v = Value.ref a := rx
  have eu : u = Value.ref b := ry
  have sb : Sub X k X.A.in1 := (⟨hr, rfl⟩ : Sub X (k + 1) X.A).in1
  have cl := wpAny_call (run_in (us := [v, u]) (vs := [V.ref a, V.ref b]) sb F hx I (.cons rx (.cons ry .nil)) hsp)
  subst ev eu
  obtain ⟨mA, J, _⟩ := ins_get I.hok ha
  obtain ⟨od, J, _⟩ := J.look
  obtain ⟨mB, J', _⟩ := ins_get I.hok hb
  obtain ⟨od', J', _⟩ := J'.look
  obtain ⟨m, hF⟩ := I.fr
  show wpAny (model X.prog X.w) X.A (richCompare .NotEq (.ref a) (.ref b)) (EP X pins σ Q) X.xe s
  refine ne_K (hu_of hr) hF I.ok.mod.kin J J'.type nf hs he fn ho (wpAny_mono cl (fun v s' hv => ?_) fun _ _ z => z)
  obtain ⟨v', H', I', rv, r, rfl, q⟩ := hv
  exact ⟨r, rv, .bl (!r), H', I', rfl, q⟩
end
end Vx
set_option Elab.async false
set_option linter.all false
set_option maxRecDepth 100000
set_option maxHeartbeats 4000000
namespace DX
open PySem PySem.Spec PyProof.Rows L2
/-! ### own special methods, walks of pairs, small things -/
def isC (C : Addr) (μ : Mem) (x : D) : Prop := match view μ x with
  | .ins C' _ => C' = C
  | _ => False
abbrev EF : Addr → List (Str × D) → Mem → Prop := fun _ _ _ => False
section
variable {K : PySem.W.Frag} {Z : Hp} {as as' as1 : List Addr} {F F' F1 H H' H1 : Hp} {Ex : L2.St → XK}
theorem isC_at {C : Addr} {μ : Mem} (M : Mm K Z as F H μ) {v : V} {d : D} (r : Rep K as F v d) (h : isC C μ d) : ∃ a dx fs, v = .ref a ∧ H a = some (.ins C dx fs) := by
  unfold isC at h
  cases e : view μ d with
  | ins C' gs =>
    rw [e] at h
    have h : C' = C := h
    subst h
    obtain ⟨a, dx, fs, rfl, q, x⟩ := view_ins M r e
    exact ⟨a, dx, fs, rfl, q⟩
  | _ => rw [e] at h; exact h.elim
/-- a promise at work, nothing raised -/
theorem sp_useM {S : DSp} {μ : Mem} {vs : List V} {ds : List D} {Q : D → Mem → Prop} {Q' : VK} (M : Mm K Z as F H μ) (r : RepL K as F vs ds) (h : S ds μ Q EF)
    (k : ∀ v d μ' as' F' H', Gr as F as' F' → Mm K Z as' F' H' μ' → Rep K as' F' v d → Q d μ' → Q' v H') : toSp K S vs H Q' E0 := ⟨Z, as, F, ds, μ, Q, EF, r, M, h, k, fun _ _ _ _ _ _ _ _ _ _ z => z.elim⟩
end
section
variable {X : Cx} {CX : CXT} {k : Nat} {C f : Addr} {sp : Sp} {Ex : L2.St → XK}
theorem passN {X : Cx} (σ : L2.St) : PassesAt (L2.CX X.prog X.w) X σ E0 := fun pins H s e s' I c => passL pins σ H s e s' I c
/-- a def called somewhere below the running body -/
theorem run_inQ {E : XK} {pins : List (Addr × Obj)} {σ : L2.St} {H : Hp} {s : Shared} {Q : VK} {A : Around} {us : List Value} {vs : List V} (sb : Sub X k A) (F : Gd.FnG X.prog X.w X.K X.mg X.base CX k f sp) (g : Gd.Calm0 A) (hx : PassesAt CX X σ E) (I : L2.Inv X pins σ H s) (r : Vals vs us) (h : sp vs H Q E) :
    codeAny (model X.prog X.w) A (.call (.ref f) ⟨us, []⟩) (fun r s' => match r with | .ok (.ret v) => EP X pins σ Q v s' | .ok _ => False | .error e => X.xe e s') s := by
  have e0 : Env0 X.prog X.w X.K X.mg X.base A X.stack s H := by
    have e := I.env0
    exact ⟨by rw [sb.fr]; exact e.frames, e.mod, e.bs, e.bsz, e.funs, e.frf, e.hok, e.bare⟩
  refine codeAny_mono (F A X.stack s H us vs Q E g sb.room e0 r h) fun r s' hq => ?_
  cases r with
  | error e => exact hx pins H s e s' I hq
  | ok fl =>
    cases fl with
    | ret u => exact I.after hq
    | next => exact False.elim hq
    | brk => exact False.elim hq
    | cont => exact False.elim hq
theorem calm1 {A : Around} (g : Gd.Calm0 A) : Gd.Calm0 A.in1 := g
/-! o[i] -/
structure GetI (K : PySem.W.Frag) (C f : Addr) : Prop where
  at_ : PySem.W.findIn K (.ref C) "__getitem__" = some (some (.ref f))
  fi : PySem.W.fnIn K f = true
  fn : PySem.W.isFn K (.ref f) = true
def tGetQ (C : Addr) (sp : Sp) (E : L2.St → XK) (ta tb : TE) : TE := fun σ H Q => ta σ H fun x H1 => tb σ H1 fun y H2 => (∃ a dx fs, x = .ref a ∧ H2 a = some (.ins C dx fs)) ∧ sp [x, y] H2 Q (E σ)
theorem pe_getQ {a b : Expr} {pos : Pos} {ta tb : TE} (ha : PE X a ta) (hb : PE X b tb) (G : GetI X.K C f) (F : Gd.FnG X.prog X.w X.K X.mg X.base CX k f sp) (g : Gd.Calm0 X.A) (hr : Room (k + 1) X.A) (hx : ∀ σ, PassesAt CX X σ (Ex σ))
    (hs : ∀ o i : Value, subscripted b true o i = runValue (.builtin "lifetime.subscript" ⟨[o, i], []⟩)) : PE X (.Subscript a b pos) (tGetQ C sp Ex ta tb) := by
  refine ⟨fun pins s σ H Q I h => ?_⟩
  refine Subscript_ (binT ha hb I h fun v u s2 x y H2 I2 rx ry q => ?_)
  obtain ⟨⟨r, dx, fs, rfl, hr1⟩, hsp⟩ := q
  have ev : v = Value.ref r := rx
  have sb : Sub X k X.A.in1 := (⟨hr, rfl⟩ : Sub X (k + 1) X.A).in1
  have cl := run_inQ (us := [v, u]) (vs := [V.ref r, y]) sb F (calm1 g) (hx σ) I2 (.cons rx (.cons ry .nil)) hsp
  subst ev
  obtain ⟨mA, J, _⟩ := ins_get I2.hok hr1
  obtain ⟨od, J, _⟩ := J.look
  obtain ⟨m, hF⟩ := I2.fr
  exact PySem.W.sub_K hF I2.ok.mod.kin J G.at_ G.fi G.fn (wpAny_call cl) (hs _ _)
/-! o[i] = v -/
structure SetI (K : PySem.W.Frag) (C f : Addr) : Prop where
  nq : PySem.W.noSeq K C = true
  at_ : PySem.W.findIn K (.ref C) "__setitem__" = some (some (.ref f))
  fn : PySem.W.isFn K (.ref f) = true
def gSetQ (C : Addr) (sp : Sp) (E : L2.St → XK) (to ti : TE) : TG := fun v σ H Q => to σ H fun o H1 => ti σ H1 fun i H2 => (∃ a dx fs, o = .ref a ∧ H2 a = some (.ins C dx fs)) ∧ sp [o, i, v] H2 (fun _ H3 => Q σ H3) (E σ)
theorem pg_setQ {o i : Expr} {pos : Pos} {to ti : TE} (ho : PE X o to) (hi : PE X i ti) (G : SetI X.K C f) (F : Gd.FnG X.prog X.w X.K X.mg X.base CX k f sp) (g : Gd.Calm0 X.A) (hr : Room k X.A) (hx : ∀ σ, PassesAt CX X σ (Ex σ))
    (ha : ∀ v, assign (.Subscript o i pos) X.env v = (do
      let ov ← holding [v] (eval o X.env)
      let iv ← holding [v, ov] (eval i X.env)
      standAt pos
      holding [v, ov, iv] (setItem ov iv v)
      release [v, ov, iv] []) := by intro _; rfl) : PG X (.Subscript o i pos) (gSetQ C sp Ex to ti) := by
  refine ⟨fun pins s σ H v u Q I r h => ?_⟩
  rw [ha]
  refine wpAny_bind (wpAny_holding (thn (ho.run pins s σ H _ I h) fun ov s1 ⟨x, H1, I1, r1, q1⟩ => ?_))
  refine wpAny_bind (wpAny_holding (thn (hi.run pins s1 σ H1 _ I1 q1) fun iv s2 ⟨y, H2, I2, r2, q2⟩ => ?_))
  obtain ⟨⟨a, dx, fs, rfl, ha⟩, hsp⟩ := q2
  have eo : ov = Value.ref a := r1
  refine wpAny_bind (wpAny_standAt (wpAny_bind (wpAny_holding ?_)))
  have cl := run_gW (us := [ov, iv, u]) (vs := [V.ref a, y, v]) F g hr (hx σ) I2 (.cons r1 (.cons r2 (.cons r .nil))) hsp
  subst eo
  obtain ⟨mA, J, _⟩ := ins_get I2.hok ha
  obtain ⟨od, J, _⟩ := J.look
  obtain ⟨m, hF⟩ := I2.fr
  refine PySem.W.ksp_setItem hF I2.ok.mod.kin J G.nq G.at_ G.fn (wpAny_mono cl (fun r s' z => ?_) fun _ _ z => z)
  obtain ⟨v', H', I', rv, q⟩ := z
  exact wpAny_release ⟨σ, H', I', q⟩
/-! len(o) -/
structure LenI (K : PySem.W.Frag) (C f : Addr) : Prop where
  at_ : PySem.W.findIn K (.ref C) "__len__" = some (some (.ref f))
  fn : PySem.W.isFn K (.ref f) = true
def rLenQ (C : Addr) (sp : Sp) : List V → Hp → VK → Prop := fun xs H Q => (∃ a dx fs, xs = [.ref a] ∧ H a = some (.ins C dx fs)) ∧ sp xs H (fun v H' => ∃ n : Nat, v = .int n ∧ n < 1000000 ∧ Q (.int n) H') E0
theorem call_lenQ (G : LenI X.K C f) (F : Gd.FnG X.prog X.w X.K X.mg X.base (L2.CX X.prog X.w) k f sp) (g : Gd.Calm0 X.A) (hr : Room (k + 1) X.A) : CallR X (.builtin "len") (rLenQ C sp) := by
  intro pins s σ H xs us Q I r h
  obtain ⟨⟨a, dx, fs, rfl, ha⟩, hsp⟩ := h
  obtain ⟨u, rfl, rx⟩ := vals1 r
  cases rx
  have sb : Sub X k X.A.in1 := (⟨hr, rfl⟩ : Sub X (k + 1) X.A).in1
  obtain ⟨mA, J, _⟩ := ins_get I.hok ha
  obtain ⟨od, J, _⟩ := J.look
  obtain ⟨m, hF⟩ := I.fr
  refine PySem.W.len_K hF I.ok.mod.kin J G.at_ G.fn (wpAny_mono (wpAny_call (run_inQ (us := [.ref a]) (vs := [V.ref a]) sb F (calm1 g) (passN σ) I (.cons rfl .nil) hsp)) (fun v s' hv => ?_) fun _ _ z => z)
  obtain ⟨v', H', I', rv, n, rfl, hn, q⟩ := hv
  obtain ⟨t, rfl⟩ := rv
  exact ⟨⟨by omega, by omega⟩, .int n, H', I'.tok _, ⟨_, rfl⟩, q⟩
/-! o == y, o != y, x in o, o < y -/
theorem call_cmpQ {pins : List (Addr × Obj)} {σ : L2.St} {H : Hp} {s : Shared} {Q : VK} {us : List Value} {vs : List V} (F : Gd.FnG X.prog X.w X.K X.mg X.base (L2.CX X.prog X.w) k f sp) (g : Gd.Calm0 X.A) (hr : Room k X.A) (I : L2.Inv X pins σ H s) (r : Vals vs us) (h : sp vs H Q E0) :
    wpAny (model X.prog X.w) X.A (call (.ref f) us) (PySem.W.CmpBack (EP X pins σ Q)) X.xe s :=
  wpAny_mono (run_gW (E := fun _ => E0) F g hr (passN σ) I r h) (fun _ _ z => Vx.cmpBack_of z) fun _ _ z => z
structure CmpI (K : PySem.W.Frag) (C f : Addr) (m : Str) : Prop where
  at_ : PySem.W.findIn K (.ref C) m = some (some (.ref f))
  fn : PySem.W.isFn K (.ref f) = true
/-- y comes not first -/
def rCmpQ (K : PySem.W.Frag) (C : Addr) (sp : Sp) : R2 := fun x y H Q => (∃ a dx fs, x = .ref a ∧ H a = some (.ins C dx fs)) ∧ (∃ t, TyX K H y t ∧ PySem.W.notFirst K C t = true) ∧ sp [x, y] H Q E0
theorem op_cmpQ {op : CmpOp} (hc : ∀ v u, compareOp op v u = richCompare op v u) (G : CmpI X.K C f (cmpInfo op).2.1) (F : Gd.FnG X.prog X.w X.K X.mg X.base (L2.CX X.prog X.w) k f sp) (g : Gd.Calm0 X.A) (hr : Room k X.A) : OpR X (compareOp op) (rCmpQ X.K C sp) := by
  intro pins s σ H x y v u Q I rx ry hq
  obtain ⟨⟨a, dx, fs, rfl, ha⟩, ⟨t, ty, nf⟩, hsp⟩ := hq
  have ev : v = Value.ref a := rx
  have cl := call_cmpQ F g hr I (us := [v, u]) (vs := [V.ref a, y]) (.cons rx (.cons ry .nil)) hsp
  subst ev
  obtain ⟨mA, J, _⟩ := ins_get I.hok ha
  obtain ⟨od, J, _⟩ := J.look
  obtain ⟨m, hF⟩ := I.fr
  obtain ⟨PP, KX, hP, _⟩ := L2.kit_of I ry ty
  rw [hc]
  exact PySem.W.cmp_K hr.units0 hF I.ok.mod.kin J (KX.ty _ _ I.kIn hP) nf G.at_ G.fn cl
structure NeI (K : PySem.W.Frag) (C f : Addr) : Prop where
  hs : PySem.W.findIn K (.ref C) "__ne__" = some (some (.builtin "object.__ne__"))
  he : PySem.W.findIn K (.ref C) "__eq__" = some (some (.ref f))
  fn : PySem.W.isFn K (.ref f) = true
  ho : PySem.W.mroIn K C (.type "object") = some true
def rNeQ (K : PySem.W.Frag) (C : Addr) (sp : Sp) : R2 := fun x y H Q => (∃ a dx fs, x = .ref a ∧ H a = some (.ins C dx fs)) ∧ (∃ t, TyX K H y t ∧ PySem.W.notFirst K C t = true) ∧ sp [x, y] H (fun v H' => ∃ r, v = .bl r ∧ Q (.bl (!r)) H') E0
theorem op_neQ (G : NeI X.K C f) (F : Gd.FnG X.prog X.w X.K X.mg X.base (L2.CX X.prog X.w) k f sp) (g : Gd.Calm0 X.A) (hr : Room (k + 1) X.A) : OpR X (compareOp .NotEq) (rNeQ X.K C sp) := by
  intro pins s σ H x y v u Q I rx ry hq
  obtain ⟨⟨a, dx, fs, rfl, ha⟩, ⟨t, ty, nf⟩, hsp⟩ := hq
  have ev : v = Value.ref a := rx
  have sb : Sub X k X.A.in1 := (⟨hr, rfl⟩ : Sub X (k + 1) X.A).in1
  have cl := wpAny_call (run_inQ (us := [v, u]) (vs := [V.ref a, y]) sb F (calm1 g) (passN σ) I (.cons rx (.cons ry .nil)) hsp)
  subst ev
  obtain ⟨mA, J, _⟩ := ins_get I.hok ha
  obtain ⟨od, J, _⟩ := J.look
  obtain ⟨m, hF⟩ := I.fr
  obtain ⟨PP, KX, hP, _⟩ := L2.kit_of I ry ty
  show wpAny (model X.prog X.w) X.A (richCompare .NotEq (.ref a) u) (EP X pins σ Q) X.xe s
  refine Vx.ne_K (hu_of hr) hF I.ok.mod.kin J (KX.ty _ _ I.kIn hP) nf G.hs G.he G.fn G.ho (wpAny_mono cl (fun v s' hv => ?_) fun _ _ z => z)
  obtain ⟨v', H', I', rv, r, rfl, q⟩ := hv
  exact ⟨r, rv, .bl (!r), H', I', rfl, q⟩
def rInQ (C : Addr) (sp : Sp) (neg : Bool) : R2 := fun x y H Q => (∃ a dx fs, y = .ref a ∧ H a = some (.ins C dx fs)) ∧ sp [y, x] H (fun v H' => ∃ b, v = .bl b ∧ Q (.bl (if neg then !b else b)) H') E0
theorem op_inQ (G : CmpI X.K C f "__contains__") (F : Gd.FnG X.prog X.w X.K X.mg X.base (L2.CX X.prog X.w) k f sp) (g : Gd.Calm0 X.A) (hr : Room k X.A) : OpR X (compareOp .In) (rInQ C sp false) := by
  intro pins s σ H x y v u Q I rx ry hq
  obtain ⟨⟨a, dx, fs, rfl, ha⟩, hsp⟩ := hq
  have eu : u = Value.ref a := ry
  have cl := run_gW (E := fun _ => E0) (us := [u, v]) (vs := [V.ref a, x]) F g hr (passN σ) I (.cons ry (.cons rx .nil)) hsp
  subst eu
  obtain ⟨mA, J, _⟩ := ins_get I.hok ha
  obtain ⟨od, J, _⟩ := J.look
  obtain ⟨m, hF⟩ := I.fr
  refine PySem.W.in_K hF I.ok.mod.kin J G.at_ G.fn (wpAny_mono cl (fun r s' z => ?_) fun _ _ z => z)
  obtain ⟨v', H', I', rv, b, rfl, q⟩ := z
  have er : r = Value.bool b := rv
  subst er
  exact wpAny_truthy_bool ⟨.bl b, H', I', rfl, q⟩
end
section
variable {X : Cx} {k : Nat} {C q f : Addr} {mc : Value} {sp : Sp} {Ex : L2.St → XK} {o e : Expr} {es : List Expr} {m : Str} {pos apos : Pos} {ta : TE} {t : TA} {pl : Sem Bool}
/-! C.m(..) of a static method -/
def tSMethQ (C : Addr) (sp : Sp) (E : L2.St → XK) (ta : TE) (t : TA) : TE := fun σ H Q => ta σ H fun x H1 => x = .ref C ∧ t σ H1 fun vs H2 => sp vs H2 Q (E σ)
theorem pe_smethQ (hO : PE X o ta) (cr : ClX.CRead X.K C mc) (c : Vx.SMet X.K C mc m q f) (F : Gd.FnG X.prog X.w X.K X.mg X.base (L2.CX X.prog X.w) k f sp) (g : Gd.Calm0 X.A) (hr : Room k X.A) (tk : Tk X Ex) (hA : PA X (e :: es) t)
    (h1 : starEach (e :: es) X.env = (false, eval e X.env) :: starEach es X.env := by rfl) (h2 : (backTo pos (starEach es X.env)).any (·.1) = false := by rfl)
    (hW : eval (.Call (.Attribute o m apos) (e :: es) [] pos) X.env = (do
      let ov ← eval o X.env
      standAt apos.atName
      let (f, first) ← holding [ov] (getMethod ov m pl)
      callWith pos f first (backTo pos (starEach (e :: es) X.env)) (backToKw pos (keywordEach [] X.env))) := by rfl) : PE X (.Call (.Attribute o m apos) (e :: es) [] pos) (tSMethQ C sp Ex ta t) := by
  refine ⟨fun pn s σ H Q I h => PySem.W.methodCall_KW (pl := pl) (thn (hO.run pn s σ H _ I h) fun u s1 hh => ?_) hW⟩
  obtain ⟨x, H1, I1, rx, ex, y⟩ := hh
  subst ex
  obtain rfl : u = Value.ref C := rx
  obtain ⟨rest, hp⟩ := c.rc
  refine PySem.W.method_cls I1.kIn cr.ga (PySem.W.cls_bind I1.kIn cr.rd c.at_ (wpAny_call (PySem.W.sm_get (s := { s1 with toks := s1.toks + 1 }) I1.kIn hp (PySem.W.handed_on rfl ?_))))
  have I2 : L2.Inv X pn σ H1 { s1 with toks := s1.toks + 1 } := I1.tok _
  refine PySem.W.callWith_K (h₀ := X.base) I2.ok.mod.kin c.kp (thn (hA.run pos pn _ σ H1 _ I2 y) fun us s3 hh => ?_) h1 h2
  obtain ⟨vs, H2, I3, rv, q2⟩ := hh
  exact ⟨I3.kIn, run_gW F g hr (tk_pass tk σ) I3 rv q2⟩
theorem pe_smethQ0 (hO : PE X o ta) (cr : ClX.CRead X.K C mc) (c : Vx.SMet X.K C mc m q f) (F : Gd.FnG X.prog X.w X.K X.mg X.base (L2.CX X.prog X.w) k f sp) (g : Gd.Calm0 X.A) (hr : Room k X.A) (tk : Tk X Ex)
    (hW : eval (.Call (.Attribute o m apos) [] [] pos) X.env = (do
      let ov ← eval o X.env
      standAt apos.atName
      let (f, first) ← holding [ov] (getMethod ov m pl)
      callWith pos f first (backTo pos (starEach [] X.env)) (backToKw pos (keywordEach [] X.env))) := by rfl) : PE X (.Call (.Attribute o m apos) [] [] pos) (tSMethQ C sp Ex ta tNil) := by
  refine ⟨fun pn s σ H Q I h => PySem.W.methodCall_KW (pl := pl) (thn (hO.run pn s σ H _ I h) fun u s1 hh => ?_) hW⟩
  obtain ⟨x, H1, I1, rx, ex, y⟩ := hh
  subst ex
  obtain rfl : u = Value.ref C := rx
  obtain ⟨rest, hp⟩ := c.rc
  refine PySem.W.method_cls I1.kIn cr.ga (PySem.W.cls_bind I1.kIn cr.rd c.at_ (wpAny_call (PySem.W.sm_get (s := { s1 with toks := s1.toks + 1 }) I1.kIn hp (PySem.W.handed_on rfl ?_))))
  have I2 : L2.Inv X pn σ H1 { s1 with toks := s1.toks + 1 } := I1.tok _
  exact PySem.W.callWith_K0 I2.kIn c.kp (run_gW (us := []) F g hr (tk_pass tk σ) I2 .nil y)
end
/-! ### by data -/
def uGet (C : Addr) (S : DSp) (ua ub : DTE) : DTE := fun ρ μ Q E => ua ρ μ (fun x μ1 => ub ρ μ1 (fun y μ2 => isC C μ2 x ∧ S [x, y] μ2 Q (E ρ)) E) E
def uGSetO (C : Addr) (S : DSp) (uo ui : DTE) : DTG := fun d ρ μ Q E => uo ρ μ (fun o μ1 => ui ρ μ1 (fun i μ2 => isC C μ2 o ∧ S [o, i, d] μ2 (fun _ μ3 => Q ρ μ3) (E ρ)) E) E
def dLenO (C : Addr) (S : DSp) : DC := one fun x μ Q => isC C μ x ∧ S [x] μ (fun r μ' => ∃ n : Nat, r = .int n ∧ n < 1000000 ∧ Q (.int n) μ') EF
def dCmpO (K : PySem.W.Frag) (C : Addr) (S : DSp) : DR2 := fun x y μ Q => isC C μ x ∧ (∃ t, tyOf μ y = some t ∧ TyOk K t ∧ PySem.W.notFirst K C (tyVal t) = true) ∧ S [x, y] μ Q EF
def dNeO (K : PySem.W.Frag) (C : Addr) (S : DSp) : DR2 := fun x y μ Q => isC C μ x ∧ (∃ t, tyOf μ y = some t ∧ TyOk K t ∧ PySem.W.notFirst K C (tyVal t) = true) ∧ S [x, y] μ (fun r μ' => ∃ b, r = .bl b ∧ Q (.bl (!b)) μ') EF
def dInO (C : Addr) (S : DSp) (neg : Bool) : DR2 := fun x y μ Q => isC C μ y ∧ S [y, x] μ (fun r μ' => ∃ b, r = .bl b ∧ Q (.bl (if neg then !b else b)) μ') EF
def uSMeth (C : Addr) (S : DSp) (uo : DTE) (u : DTA) : DTE := fun ρ μ Q E => uo ρ μ (fun x μ1 => (match x with | .val v => v = V.ref C | _ => False) ∧ u ρ μ1 (fun ds μ2 => S ds μ2 Q (E ρ)) E) E
section
variable {K : PySem.W.Frag} {Z : Hp} {as as' as1 : List Addr} {F F' F1 H H' H1 : Hp} {Ex : L2.St → XK} {C : Addr} {S : DSp}
theorem sim_get {ta tb : TE} {ua ub : DTE} (a : Sim K Ex ta ua) (b : Sim K Ex tb ub) : Sim K Ex (tGetQ C (toSp K S) Ex ta tb) (uGet C S ua ub) := fun Z as F H σ ρ μ Q E Q' R X h k =>
  a Z as F H σ ρ μ _ E _ R X h fun v d μ1 as1 F1 H1 g1 R1 r1 h1 => b Z as1 F1 H1 σ ρ μ1 _ E _ R1 (X.up g1) h1 fun v2 d2 μ2 as2 F2 H2 g2 R2 r2 h2 =>
    ⟨isC_at R2.mm (r1.up g2) h2.1, sp_use R2 (X.up (g1.trans g2)) (.cons (r1.up g2) (.cons r2 .nil)) h2.2 fun v d μ' as' F' H' g M r q => k v d μ' as' F' H' ((g1.trans g2).trans g) (R2.up g M) r q⟩
theorem sim_gSetO {ta tb : TE} {ua ub : DTE} (a : Sim K Ex ta ua) (b : Sim K Ex tb ub) : SimG K Ex (gSetQ C (toSp K S) Ex ta tb) (uGSetO C S ua ub) := fun Z as F H σ ρ μ v d Q E Q' R X r h k =>
  a Z as F H σ ρ μ _ E _ R X h fun v1 d1 μ1 as1 F1 H1 g1 R1 r1 h1 => b Z as1 F1 H1 σ ρ μ1 _ E _ R1 (X.up g1) h1 fun v2 d2 μ2 as2 F2 H2 g2 R2 r2 h2 =>
    ⟨isC_at R2.mm (r1.up g2) h2.1, sp_use R2 (X.up (g1.trans g2)) (.cons (r1.up g2) (.cons r2 (.cons (r.up (g1.trans g2)) .nil))) h2.2 fun v d μ' as' F' H' g M r q => k σ ρ μ' as' F' H' ((g1.trans g2).trans g) (R2.up g M) q⟩
theorem sim_lenO : SimC K (rLenQ C (toSp K S)) (dLenO C S) := simC_one fun Z as F H μ v d Q Q' M r z k => by
  obtain ⟨a, dx, fs, rfl, q⟩ := isC_at M r z.1
  refine ⟨⟨a, dx, fs, rfl, q⟩, sp_useM M (.cons r .nil) z.2 fun v d' μ' as' F' H' g M' r' q' => ?_⟩
  obtain ⟨n, rfl, hn, q'⟩ := q'
  cases r'
  exact ⟨n, rfl, hn, k _ _ μ' as' F' H' g M' (.int _) q'⟩
theorem sim_cmpO : SimR K (rCmpQ K C (toSp K S)) (dCmpO K C S) := fun Z as F H μ x y d e Q Q' M rx ry z k => by
  obtain ⟨hc, ⟨t, ht, ok, nf⟩, hs⟩ := z
  exact ⟨isC_at M rx hc, ⟨_, ty_of M ry ht ok, nf⟩, sp_useM M (.cons rx (.cons ry .nil)) hs k⟩
theorem sim_neO : SimR K (rNeQ K C (toSp K S)) (dNeO K C S) := fun Z as F H μ x y d e Q Q' M rx ry z k => by
  obtain ⟨hc, ⟨t, ht, ok, nf⟩, hs⟩ := z
  refine ⟨isC_at M rx hc, ⟨_, ty_of M ry ht ok, nf⟩, sp_useM M (.cons rx (.cons ry .nil)) hs fun v d' μ' as' F' H' g M' r' q' => ?_⟩
  obtain ⟨b, rfl, q'⟩ := q'
  cases r'
  exact ⟨b, rfl, k _ _ μ' as' F' H' g M' (.bl _) q'⟩
theorem sim_inO (neg : Bool) : SimR K (rInQ C (toSp K S) neg) (dInO C S neg) := fun Z as F H μ x y d e Q Q' M rx ry z k => by
  obtain ⟨hc, hs⟩ := z
  refine ⟨isC_at M ry hc, sp_useM M (.cons ry (.cons rx .nil)) hs fun v d' μ' as' F' H' g M' r' q' => ?_⟩
  obtain ⟨b, rfl, q'⟩ := q'
  cases r'
  exact ⟨b, rfl, k _ _ μ' as' F' H' g M' (.bl _) q'⟩
theorem sim_smeth {to : TE} {uo : DTE} {t : TA} {u : DTA} (o : Sim K Ex to uo) (a : SimA K Ex t u) : Sim K Ex (tSMethQ C (toSp K S) Ex to t) (uSMeth C S uo u) := fun Z as F H σ ρ μ Q E Q' R X h k =>
  o Z as F H σ ρ μ _ E _ R X h fun v d μ1 as1 F1 H1 g1 R1 r1 h1 => by
    refine ⟨?_, a Z as1 F1 H1 σ ρ μ1 _ E _ R1 (X.up g1) h1.2 fun vs ds μ2 as2 F2 H2 g2 R2 r2 h2 => sp_use R2 (X.up (g1.trans g2)) r2 h2 fun v d μ' as' F' H' g M r q => k v d μ' as' F' H' ((g1.trans g2).trans g) (R2.up g M) r q⟩
    cases r1 <;> first | exact h1.1 | exact h1.1.elim
end
section
variable {X : Cx} {K : PySem.W.Frag} {Ex : L2.St → XK} {pos apos : Pos} {a b e o : Expr} {es : List Expr} {ta tb te to : TE} {ua ub ue uo : DTE} {t : TA} {u : DTA} {C f q : Addr} {k : Nat} {S : DSp} {m : Str} {mc : Value} {pl : Sem Bool}
theorem d_getO (G : GetI K C f) (F : FnD X.prog X.w K X.mg X.base k f S) (gd : Gd.Calm0 X.A) (hr : Room (k + 1) X.A) (tk : Tk X Ex) (ha : PD X K Ex a ta ua) (hb : PD X K Ex b tb ub) (hK : X.K = K := by rfl)
    (hs : ∀ o i : Value, subscripted b true o i = runValue (.builtin "lifetime.subscript" ⟨[o, i], []⟩) := by intro _ _; rfl) : PD X K Ex (.Subscript a b pos) (tGetQ C (toSp K S) Ex ta tb) (uGet C S ua ub) := by
  subst hK
  exact ⟨pe_getQ ha.pe hb.pe G F gd hr (fun σ => tk_pass tk σ) hs, sim_get ha.sim hb.sim⟩
theorem g_setO (G : SetI K C f) (F : FnD X.prog X.w K X.mg X.base k f S) (gd : Gd.Calm0 X.A) (hr : Room k X.A) (tk : Tk X Ex) (ha : PD X K Ex a ta ua) (hb : PD X K Ex b tb ub) (hK : X.K = K := by rfl)
    (has : ∀ v, assign (.Subscript a b pos) X.env v = (do
      let ov ← holding [v] (eval a X.env)
      let iv ← holding [v, ov] (eval b X.env)
      standAt pos
      holding [v, ov, iv] (setItem ov iv v)
      release [v, ov, iv] []) := by intro _; rfl) : GD X K Ex (.Subscript a b pos) (gSetQ C (toSp K S) Ex ta tb) (uGSetO C S ua ub) := by
  subst hK
  exact ⟨pg_setQ ha.pe hb.pe G F gd hr (fun σ => tk_pass tk σ) has, sim_gSetO ha.sim hb.sim⟩
theorem call_lenO (G : LenI K C f) (F : FnD X.prog X.w K X.mg X.base k f S) (gd : Gd.Calm0 X.A) (hr : Room (k + 1) X.A) (hK : X.K = K) : CallR X (.builtin "len") (rLenQ C (toSp K S)) := by
  subst hK
  exact call_lenQ G F gd hr
theorem op_eqO (G : CmpI K C f "__eq__") (F : FnD X.prog X.w K X.mg X.base k f S) (gd : Gd.Calm0 X.A) (hr : Room k X.A) (hK : X.K = K) : OpR X (compareOp .Eq) (rCmpQ K C (toSp K S)) := by
  subst hK
  exact op_cmpQ (op := .Eq) (fun _ _ => rfl) G F gd hr
theorem op_ltO (G : CmpI K C f "__lt__") (F : FnD X.prog X.w K X.mg X.base k f S) (gd : Gd.Calm0 X.A) (hr : Room k X.A) (hK : X.K = K) : OpR X (compareOp .Lt) (rCmpQ K C (toSp K S)) := by
  subst hK
  exact op_cmpQ (op := .Lt) (fun _ _ => rfl) G F gd hr
theorem op_leO (G : CmpI K C f "__le__") (F : FnD X.prog X.w K X.mg X.base k f S) (gd : Gd.Calm0 X.A) (hr : Room k X.A) (hK : X.K = K) : OpR X (compareOp .LtE) (rCmpQ K C (toSp K S)) := by
  subst hK
  exact op_cmpQ (op := .LtE) (fun _ _ => rfl) G F gd hr
theorem op_neO (G : NeI K C f) (F : FnD X.prog X.w K X.mg X.base k f S) (gd : Gd.Calm0 X.A) (hr : Room (k + 1) X.A) (hK : X.K = K) : OpR X (compareOp .NotEq) (rNeQ K C (toSp K S)) := by
  subst hK
  exact op_neQ G F gd hr
theorem op_inO (G : CmpI K C f "__contains__") (F : FnD X.prog X.w K X.mg X.base k f S) (gd : Gd.Calm0 X.A) (hr : Room k X.A) (hK : X.K = K) : OpR X (compareOp .In) (rInQ C (toSp K S) false) := by
  subst hK
  exact op_inQ G F gd hr
theorem d_smeth (cr : ClX.CRead K C mc) (c : Vx.SMet K C mc m q f) (F : FnD X.prog X.w K X.mg X.base k f S) (gd : Gd.Calm0 X.A) (hr : Room k X.A) (tk : Tk X Ex) (ho : PD X K Ex o to uo) (ha : AD X K Ex (e :: es) t u) (hK : X.K = K := by rfl)
    (h1 : starEach (e :: es) X.env = (false, eval e X.env) :: starEach es X.env := by rfl) (h2 : (backTo pos (starEach es X.env)).any (·.1) = false := by rfl)
    (hW : eval (.Call (.Attribute o m apos) (e :: es) [] pos) X.env = (do
      let ov ← eval o X.env
      standAt apos.atName
      let (f, first) ← holding [ov] (getMethod ov m pl)
      callWith pos f first (backTo pos (starEach (e :: es) X.env)) (backToKw pos (keywordEach [] X.env))) := by rfl) : PD X K Ex (.Call (.Attribute o m apos) (e :: es) [] pos) (tSMethQ C (toSp K S) Ex to t) (uSMeth C S uo u) := by
  subst hK
  exact ⟨pe_smethQ ho.pe cr c F gd hr tk ha.pe h1 h2 hW, sim_smeth ho.sim ha.sim⟩
theorem d_smeth0 (cr : ClX.CRead K C mc) (c : Vx.SMet K C mc m q f) (F : FnD X.prog X.w K X.mg X.base k f S) (gd : Gd.Calm0 X.A) (hr : Room k X.A) (tk : Tk X Ex) (ho : PD X K Ex o to uo) (hK : X.K = K := by rfl)
    (hW : eval (.Call (.Attribute o m apos) [] [] pos) X.env = (do
      let ov ← eval o X.env
      standAt apos.atName
      let (f, first) ← holding [ov] (getMethod ov m pl)
      callWith pos f first (backTo pos (starEach [] X.env)) (backToKw pos (keywordEach [] X.env))) := by rfl) : PD X K Ex (.Call (.Attribute o m apos) [] [] pos) (tSMethQ C (toSp K S) Ex to tNil) (uSMeth C S uo uNil) := by
  subst hK
  exact ⟨pe_smethQ0 ho.pe cr c F gd hr tk hW, sim_smeth ho.sim sim_nil⟩
end
end DX
set_option Elab.async false
set_option linter.all false
set_option maxRecDepth 100000
set_option maxHeartbeats 4000000
namespace Vx
open PySem
open AutoSeq1 (wpAny_loadPart')
theorem meets_enumerate_newT (t : Addr) (items : Array Value) :
    Meets (Builtin.«enumerate.__new__» ⟨[.type "enumerate", .ref t], []⟩) (fun _ R s => s.heap.IsTuple t items ∧
      R (.ok (.ret (.ref (s.heap.push { cls := .type "tuple_iterator", data := .fields #[.ref t, .int 0 0] }).objs.size)))
        { s with heap := (s.heap.push { cls := .type "tuple_iterator", data := .fields #[.ref t, .int 0 0] }).push { cls := .type "enumerate", data := .fields #[.none, .bool false, .ref s.heap.objs.size, rawInt 0, .none, .none] } }) :=
  .of_wp fun prog w A R s h => by
    obtain ⟨hp, g, d, tk, os⟩ := s; obtain ⟨hL, h⟩ := h
    have hsub := sub_enumerate
    wp_walk
    refine wpAny_stack_any fun st => wpAny_pure ?_
    split
    · rename_i c _ _ _ _ _
      cases (c == Value.type "enumerate")
      · wp_walk using wpAny_pyIter_tuple hL
        exact ⟨_, rfl, h⟩
      · wp_walk using wpAny_pyIter_tuple hL
        exact ⟨_, rfl, h⟩
    · wp_walk using wpAny_pyIter_tuple hL
      exact ⟨_, rfl, h⟩
section
variable {prog : Program} {w : World} {A : Around} {E : Value → Shared → Prop} {s : Shared}
theorem call_enumerate_tuple {t : Addr} {items : Array Value} {Q : Value → Shared → Prop} (hL : s.heap.IsTuple t items)
    (h : ∀ h', IsEnum h' (s.heap.objs.size + 1) s.heap.objs.size 0 .none → h'.IsTupleIter s.heap.objs.size t 0 → h'.objs.size = s.heap.objs.size + 2 →
      (∀ b o, s.heap.get? b = some o → h'.get? b = some o) → Q (.ref (s.heap.objs.size + 1)) { s with heap := h' }) :
    wpAny (model prog w) A (call (.type "enumerate") [.ref t]) Q E s := by
  refine callType_new F.called_enumerate (by decide) (F.typeCall_enumerate_1 _) (F.newCall_enumerate_1 _) (fun obj => F.args_object_init_2 obj _) F.entry_enumerate_new
    (meets_enumerate_newT t items) ⟨hL, ?_⟩
  have hz : (s.heap.push { cls := .type "tuple_iterator", data := .fields #[.ref t, .int 0 0] }).objs.size = s.heap.objs.size + 1 := Heap.size_push ..
  show _ ∧ _
  rw [hz]
  have he : IsEnum ((s.heap.push { cls := .type "tuple_iterator", data := .fields #[.ref t, .int 0 0] }).push
      { cls := .type "enumerate", data := .fields #[.none, .bool false, .ref s.heap.objs.size, rawInt 0, .none, .none] }) (s.heap.objs.size + 1) s.heap.objs.size 0 .none := by
    have := Heap.get?_push_size (s.heap.push { cls := .type "tuple_iterator", data := .fields #[.ref t, .int 0 0] })
      (o := { cls := .type "enumerate", data := .fields #[.none, .bool false, .ref s.heap.objs.size, rawInt 0, .none, .none] }) rfl
    rw [hz] at this; exact this
  refine ⟨⟨_, he, rfl⟩, h _ he ⟨_, Heap.get?_push_of_some _ (Heap.get?_push_size _ rfl), rfl, rfl⟩ (by rw [Heap.size_push, hz]) fun b o x => Heap.get?_push_of_some _ (Heap.get?_push_of_some _ x)⟩
end
end Vx
namespace Vx
open PySem PySem.Spec PyProof.Rows L2
/-- enumerate of a tuple at a, which has the items xs -/
def IteT (K : PySem.W.Frag) (a : Addr) (xs : List V) : It :=
  ⟨fun i H => SqT K H a xs ∧ i < xs.length, fun i H v H' => ∃ T x, v = .ref T ∧ H T = none ∧ H' = upd H T (.tup [.int (i : Nat), x]) ∧ xs[i]? = some x, fun i H => SqT K H a xs ∧ xs.length ≤ i⟩
theorem turn_enumT {P : Program} {w : World} {K : PySem.W.Frag} {elts : List Expr} {kk : Nat} {tpos : Pos} {xs : List V} (a e it : Addr) (hai : a ≠ it) (hae : e ≠ a) :
    Turn P w K (.Tuple elts kk tpos) (IteT K a xs) [e, it] e (fun i h => (∃ old, IsEnum h e it ((i : Nat) : Int) old) ∧ h.IsTupleIter it a i ∧ e ≠ it ∧ i ≤ xs.length) where
  mem := by simp
  obj := fun i h st b hb => by
    obtain ⟨⟨old, he⟩, ⟨o, ho, hc, hd⟩, _⟩ := st
    have e' : b = e ∨ b = it := by simpa using hb
    rcases e' with z | z
    · rw [z]; exact ⟨_, he, fun v q => nomatch q⟩
    · rw [z]; exact ⟨o, ho, fun v q => by rw [hd] at q; cases q⟩
  keep := fun i h h' st k => let ⟨⟨old, he⟩, hi, hne, hz⟩ := st; ⟨⟨old, k e (by simp) _ he⟩, hi.at fun o q => k it (by simp) o q, hne, hz⟩
  item := by
    intro X hP hw hK hc i pins s σ H E I hf st hg
    subst hP hw hK
    obtain ⟨⟨old, he⟩, hit, hne, _⟩ := st
    obtain ⟨hq, hi⟩ := hg
    have hx : xs[i]? = some xs[i] := List.getElem?_eq_getElem hi
    obtain ⟨its, rv, p, hz⟩ := I.tuple hq
    obtain ⟨u, hu, ru⟩ := rv.get hx
    have hel : e < s.heap.objs.size := Heap.lt_size he
    have hil : it < s.heap.objs.size := by obtain ⟨_, q, _⟩ := hit; exact Heap.lt_size q
    have hlt : i < its.toArray.size := by
      have := rv.length
      rw [List.size_toArray]
      omega
    refine wpAny_pyNext_enum_itemD (Draws.tuple (A := X.A.in1) (I.ok.hd hc) it a hai its.toArray) he ⟨hit, p⟩ hlt hne (by simp [hne, hae]) fun u' h' tk hPx ho hst' hT hsz hk => ?_
    have eu : u' = u := by
      have h1 : its.toArray[i]? = some u := by simpa using hu
      rw [h1] at hPx
      exact (Option.some.inj hPx).symm
    subst eu
    refine ⟨_, rfl, wpAny_letOwnedTupleGo_enum (s := { s with heap := h', toks := tk + 1 }) ho fun h'' he' sb => ?_⟩
    have hT2 : h''.get? s.heap.objs.size = some { cls := .type "tuple", data := .seq #[.int i tk, u'] } := (sb.2 _ (Nat.ne_of_gt hel)).trans hT
    have new : ObjOk X.prog X.w (upd H s.heap.objs.size (.tup [.int (i : Nat), xs[i]])) h'' s.heap.objs.size (.tup [.int (i : Nat), xs[i]]) :=
      ⟨by show 2 ≤ sizeLine; decide, [.int i tk, u'], .cons ⟨_, rfl⟩ (.cons ru .nil), ⟨_, hT2, rfl, _, rfl⟩⟩
    have I1 : Inv X pins σ (upd H s.heap.objs.size (.tup [.int (i : Nat), xs[i]])) { s with heap := h'', toks := tk + 1 } :=
      I.turnedNew (ch := [e, it]) (fun b ob hb q => (sb.2 b (fun z => hb (by simp [z]))).trans (hk b ob (fun z => hb (by simp [z])) (fun z => hb (by simp [z])) q)) hf (Nat.le_refl _) new
    refine ⟨.ref s.heap.objs.size, _, I1, rfl, ⟨_, _, rfl, I.hok.fresh (Nat.le_refl _), rfl, hx⟩, ⟨⟨u', ?_⟩, hst'.1.at fun o q => (sb.2 it (Ne.symm hne)).trans q, hne, hi⟩, fun b hb => ?_⟩
    · have e1 : ((i + 1 : Nat) : Int) = (i : Int) + 1 := by omega
      rw [e1]; exact he'
    · have hb' : b < s.heap.objs.size := by
        have e' : b = e ∨ b = it := by simpa using hb
        rcases e' with z | z
        · rw [z]; exact hel
        · rw [z]; exact hil
      rw [upd_ne (Nat.ne_of_lt hb')]
      exact (hf b hb).1
  done := by
    intro X hP hw hK hc i pins s σ H E I hf st hg
    subst hP hw hK
    obtain ⟨⟨old, he⟩, hit, hne, hle⟩ := st
    obtain ⟨hq, hi⟩ := hg
    obtain rfl : i = xs.length := by omega
    obtain ⟨its, rv, p, hz⟩ := I.tuple hq
    obtain ⟨f0, f1, f2, f3, f4, f5⟩ := hf it (by simp)
    have hl := rv.length
    have zz : its.toArray.size = xs.length := by rw [List.size_toArray]; omega
    exact wpAny_pyNext_enum_endD (Draws.tuple (A := X.A.in1) (I.ok.hd hc) it a hai its.toArray) he ⟨by rw [zz]; exact hit, p⟩ fun h' eb => ⟨rfl, I.turned (t' := s.toks) (fun b o hb q => eb b o hb q) f0 f1 f3 f4 f5⟩
  self := fun A i s Q E st h => let ⟨⟨_, he⟩, _⟩ := st; wpAny_pyIter_enum he h
def iEnumT (K : PySem.W.Frag) (ta : TA) : TI := fun σ H R => ta σ H fun vs H1 => ∃ a xs, vs = [.ref a] ∧ SqT K H1 a xs ∧ R (IteT K a xs) H1
theorem pi_enumT {X : Cx} {e : Expr} {ta : TA} {p pos tpos : Pos} {elts : List Expr} {kk : Nat} (hg : Gl X "enumerate") (hm : X.mg "enumerate" = none) (ha : PA X [e] ta) (hs : starEach [e] X.env = [(false, eval e X.env)] := by rfl) :
    PI X (.Tuple elts kk tpos) (.Call (.Name "enumerate" p) [e] [] pos) (iEnumT X.K ta) := by
  refine ⟨fun pins s σ H R I h => ?_⟩
  refine Call_ (ld_blt I hg hm boot_enumerate (PyProof.Rows.callWith_type1 (thn (ha.run pos pins s σ H _ I h) fun us s1 ⟨vs, H1, I1, r1, q1⟩ => ?_) hs rfl))
  obtain ⟨a, xs, ex, hq, q⟩ := q1
  subst ex
  cases r1 with
  | cons r rr =>
    cases rr
    cases r
    obtain ⟨its, rv, p', hz⟩ := I1.tuple hq
    have hal : a < s1.heap.objs.size := by
      obtain ⟨o, q, _⟩ := p'
      exact Heap.lt_size q
    refine call_enumerate_tuple p' fun h' he hit hsz hk => wpAny_pyIter_enum he ?_
    have I2 : Inv X pins σ H1 { s1 with heap := h' } := I1.kept (t' := s1.toks) hk
    refine ⟨s1.heap.objs.size + 1, [s1.heap.objs.size + 1, s1.heap.objs.size], _, _, H1, rfl, I2, turn_enumT (xs := xs) a (s1.heap.objs.size + 1) s1.heap.objs.size (Nat.ne_of_lt hal) (Nat.ne_of_gt (Nat.lt_succ_of_lt hal)), ⟨⟨.none, he⟩, hit, Nat.succ_ne_self _, Nat.zero_le _⟩, fun b hb => ?_, q⟩
    have e' : b = s1.heap.objs.size + 1 ∨ b = s1.heap.objs.size := by simpa using hb
    have hle : s1.heap.objs.size ≤ b := by
      rcases e' with z | z
      · rw [z]; exact Nat.le_add_right _ _
      · rw [z]; exact Nat.le_refl _
    exact I1.fpOk hle (I1.hok.fresh hle)
end Vx
set_option Elab.async false
set_option linter.all false
set_option maxRecDepth 100000
set_option maxHeartbeats 4000000
namespace DX
open PySem PySem.Spec PyProof.Rows L2
/-! ### enumerate, zip, lists as targets, small built-ins -/
def iEnumA (K : PySem.W.Frag) (ta : TA) : TI := fun σ H R => ta σ H fun vs H1 => ∃ a xs, vs = [.ref a] ∧ ((SqL K H1 a xs ∧ R (Ite K a) H1) ∨ (SqT K H1 a xs ∧ R (Vx.IteT K a xs) H1))
theorem pi_enumA {X : Cx} {e : Expr} {ta : TA} {p pos tpos : Pos} {elts : List Expr} {kk : Nat} (hg : Gl X "enumerate") (hm : X.mg "enumerate" = none) (ha : PA X [e] ta) (hs : starEach [e] X.env = [(false, eval e X.env)] := by rfl) :
    PI X (.Tuple elts kk tpos) (.Call (.Name "enumerate" p) [e] [] pos) (iEnumA X.K ta) := by
  refine ⟨fun pins s σ H R I h => ?_⟩
  refine Call_ (ld_blt I hg hm boot_enumerate (PyProof.Rows.callWith_type1 (thn (ha.run pos pins s σ H _ I h) fun us s1 ⟨vs, H1, I1, r1, q1⟩ => ?_) hs rfl))
  obtain ⟨a, xs, ex, ⟨hq, q⟩ | ⟨hq, q⟩⟩ := q1
  · subst ex
    cases r1 with
    | cons r rr =>
      cases rr
      cases r
      obtain ⟨its, rv, p', hz⟩ := I1.list hq
      refine call_enumerate_list p'.isList fun h' he hit hsz hk => wpAny_pyIter_enum he ?_
      have I2 : L2.Inv X pins σ H1 { s1 with heap := h' } := I1.kept (t' := s1.toks) hk
      refine ⟨s1.heap.objs.size + 1, [s1.heap.objs.size + 1, s1.heap.objs.size], _, _, H1, rfl, I2, turn_enum a (s1.heap.objs.size + 1) s1.heap.objs.size, ⟨⟨.none, he⟩, hit, Nat.succ_ne_self _⟩, fun b hb => ?_, q⟩
      have e' : b = s1.heap.objs.size + 1 ∨ b = s1.heap.objs.size := by simpa using hb
      have hle : s1.heap.objs.size ≤ b := by
        rcases e' with z | z
        · rw [z]; exact Nat.le_add_right _ _
        · rw [z]; exact Nat.le_refl _
      exact I1.fpOk hle (I1.hok.fresh hle)
  · subst ex
    cases r1 with
    | cons r rr =>
      cases rr
      cases r
      obtain ⟨its, rv, p', hz⟩ := I1.tuple hq
      have hal : a < s1.heap.objs.size := by
        obtain ⟨o, q, _⟩ := p'
        exact Heap.lt_size q
      refine Vx.call_enumerate_tuple p' fun h' he hit hsz hk => wpAny_pyIter_enum he ?_
      have I2 : L2.Inv X pins σ H1 { s1 with heap := h' } := I1.kept (t' := s1.toks) hk
      refine ⟨s1.heap.objs.size + 1, [s1.heap.objs.size + 1, s1.heap.objs.size], _, _, H1, rfl, I2, Vx.turn_enumT (xs := xs) a (s1.heap.objs.size + 1) s1.heap.objs.size (Nat.ne_of_lt hal) (Nat.ne_of_gt (Nat.lt_succ_of_lt hal)), ⟨⟨.none, he⟩, hit, Nat.succ_ne_self _, Nat.zero_le _⟩, fun b hb => ?_, q⟩
      have e' : b = s1.heap.objs.size + 1 ∨ b = s1.heap.objs.size := by simpa using hb
      have hle : s1.heap.objs.size ≤ b := by
        rcases e' with z | z
        · rw [z]; exact Nat.le_add_right _ _
        · rw [z]; exact Nat.le_refl _
      exact I1.fpOk hle (I1.hok.fresh hle)
/-- pairs of a number and an item -/
def denum : Nat → List D → List D
  | _, [] => []
  | n, d :: ds => .tup [.int n, d] :: denum (n + 1) ds
theorem denum_len : ∀ (n : Nat) (ds : List D), (denum n ds).length = ds.length
  | _, [] => rfl
  | n, _ :: ds => congrArg Nat.succ (denum_len (n + 1) ds)
theorem denum_get : ∀ {n : Nat} {ds : List D} {i : Nat} {e : D}, (denum n ds)[i]? = some e → ∃ d, ds[i]? = some d ∧ e = .tup [.int ((n + i : Nat) : Int), d]
  | _, [], _, _, h => by simp [denum] at h
  | n, d :: ds, 0, e, h => by
    simp [denum] at h
    exact ⟨d, rfl, h.symm⟩
  | n, d :: ds, i + 1, e, h => by
    obtain ⟨d', h1, h2⟩ := denum_get (n := n + 1) (ds := ds) (i := i) (e := e) (by simpa [denum] using h)
    refine ⟨d', by simpa using h1, ?_⟩
    rw [h2]
    congr 3
    omega
def dzip : List D → List D → List D
  | x :: xs, y :: ys => .tup [x, y] :: dzip xs ys
  | _, _ => []
theorem dzip_len : ∀ (xs ys : List D), (dzip xs ys).length = min xs.length ys.length
  | [], _ => by simp [dzip]
  | _ :: _, [] => by simp [dzip]
  | x :: xs, y :: ys => by simp [dzip, dzip_len xs ys]
theorem dzip_get : ∀ {xs ys : List D} {i : Nat} {e : D}, (dzip xs ys)[i]? = some e → ∃ x y, xs[i]? = some x ∧ ys[i]? = some y ∧ e = .tup [x, y]
  | [], _, _, _, h => by simp [dzip] at h
  | _ :: _, [], _, _, h => by simp [dzip] at h
  | x :: xs, y :: ys, 0, e, h => by
    simp [dzip] at h
    exact ⟨x, y, rfl, rfl, h.symm⟩
  | x :: xs, y :: ys, i + 1, e, h => by
    obtain ⟨x', y', h1, h2, h3⟩ := dzip_get (xs := xs) (ys := ys) (i := i) (e := e) (by simpa [dzip] using h)
    exact ⟨x', y', by simpa using h1, by simpa using h2, h3⟩
section
variable {K : PySem.W.Frag} {Z : Hp} {as as' as1 : List Addr} {F F' F1 H H' H1 : Hp} {Ex : L2.St → XK}
theorem pair_new {μ : Mem} (M : Mm K Z as F H μ) {T : Addr} {x y : V} {d e : D} (nT : H T = none) (rx : Rep K as F x d) (ry : Rep K as F y e) : ∃ F2, Gr as F as F2 ∧ Mm K Z as F2 (upd H T (.tup [x, y])) μ ∧ Rep K as F2 (.ref T) (.tup [d, e]) :=
  have g := Gr.upd (as := as) (o := .tup [x, y]) (M.newF nT)
  ⟨_, g, M.addF nT, .tup upd_same (.cons (rx.up g) (.cons (ry.up g) .nil))⟩
theorem itD_enumL {v : V} {d : D} {a : Addr} (ev : v = .ref a) (r : Rep K as F v d) {ds : List D} : ItD K as F (Ite K a) (denum 0 ds) (fun μ => view μ d = .lst ds) := by
  subst ev
  have at_ : ∀ Z as' F' H' μ, Gr as F as' F' → Mm K Z as' F' H' μ → view μ d = .lst ds → ∃ vs, SqL K H' a vs ∧ RepL K as' F' vs ds := fun Z as' F' H' μ g M c => by
    obtain ⟨b, vs, e, q, x⟩ := view_lst M (r.up g) c
    cases e
    exact ⟨vs, q, x⟩
  refine ⟨fun Z i as' F' H' μ g M c hi => ?_, fun Z i as' F' H' μ v H2 d' g M c hd y => ?_, fun Z i as' F' H' μ g M c hi => ?_⟩
  · rw [denum_len] at hi
    obtain ⟨vs, q, x⟩ := at_ Z as' F' H' μ g M c
    obtain ⟨w, w1, _⟩ := x.get (List.getElem?_eq_getElem hi)
    exact ⟨vs, w, q, w1⟩
  · obtain ⟨vs, q, x⟩ := at_ Z as' F' H' μ g M c
    obtain ⟨d0, h1, h2⟩ := denum_get hd
    obtain ⟨w, w1, w2⟩ := x.get h1
    obtain ⟨T, x', rfl, nT, rfl, y⟩ := y
    have := y vs q
    rw [w1] at this
    cases this
    subst h2
    rw [Nat.zero_add]
    exact pair_new M nT (.int _) w2
  · rw [denum_len] at hi
    obtain ⟨vs, q, x⟩ := at_ Z as' F' H' μ g M c
    exact ⟨vs, q, by rw [x.len]; exact hi⟩
theorem itD_enumT {a : Addr} {vs : List V} {ds : List D} (hq : SqT K F a vs) (x : RepL K as F vs ds) : ItD K as F (Vx.IteT K a vs) (denum 0 ds) (fun _ => True) := by
  refine ⟨fun Z i as' F' H' μ g M c hi => ?_, fun Z i as' F' H' μ v H2 d' g M c hd y => ?_, fun Z i as' F' H' μ g M c hi => ?_⟩
  · rw [denum_len] at hi
    exact ⟨SqT.ext (SqT.ext hq g.f) M.same, by rw [x.len]; exact hi⟩
  · obtain ⟨d0, h1, h2⟩ := denum_get hd
    obtain ⟨w, w1, w2⟩ := x.get h1
    obtain ⟨T, x', rfl, nT, rfl, y⟩ := y
    rw [w1] at y
    cases y
    subst h2
    rw [Nat.zero_add]
    exact pair_new M nT (.int _) (w2.up g)
  · rw [denum_len] at hi
    exact ⟨SqT.ext (SqT.ext hq g.f) M.same, by rw [x.len]; exact hi⟩
def uIEnum (u : DTA) : DTI := fun ρ μ R E => u ρ μ (fun ds μ1 => match ds with
  | [x] => match view μ1 x with
    | .lst xs => R (denum 0 xs) (fun μ => view μ x = .lst xs) μ1
    | .tup xs => R (denum 0 xs) (fun _ => True) μ1
    | _ => False
  | _ => False) E
/-- the frozen tuple at hand -/
theorem view_tupF {μ : Mem} (M : Mm K Z as F H μ) {v : V} {d : D} (r : Rep K as F v d) {ds : List D} (e : view μ d = .tup ds) : ∃ a vs, v = .ref a ∧ SqT K F a vs ∧ RepL K as F vs ds := by
  cases r with
  | tup q x => cases e; exact ⟨_, _, rfl, SqT.of q, x⟩
  | kt q x => cases e; exact ⟨_, _, rfl, q, x⟩
  | ob q =>
    rename_i k a
    have e : (match μ[k]? with | some (DX.M.lst ds) => D.lst ds | some (.ins C fs) => .ins C fs | _ => .ob k) = .tup ds := e
    split at e <;> cases e
  | _ => cases e
theorem sim_iEnum {t : TA} {u : DTA} (a : SimA K Ex t u) : SimI K Ex (iEnumA K t) (uIEnum u) := fun Z as F H σ ρ μ R E R' r X h k =>
  a Z as F H σ ρ μ _ E _ r X h fun vs ds μ1 as1 F1 H1 g1 R1 r1 h1 => by
    match vs, ds, r1, h1 with
    | _, [x], .cons ra .nil, h1 =>
        have h1 : (match view μ1 x with | .lst xs => R (denum 0 xs) (fun μ => view μ x = .lst xs) μ1 | .tup xs => R (denum 0 xs) (fun _ => True) μ1 | _ => False) := h1
        cases e : view μ1 x with
        | lst xs =>
          rw [e] at h1
          obtain ⟨b, ws, rfl, q, y⟩ := view_lst R1.mm ra e
          exact ⟨b, ws, rfl, .inl ⟨q, k _ _ _ μ1 as1 F1 H1 g1 R1 (itD_enumL rfl ra) h1⟩⟩
        | tup xs =>
          rw [e] at h1
          obtain ⟨b, ws, rfl, q, y⟩ := view_tupF R1.mm ra e
          exact ⟨b, ws, rfl, .inr ⟨SqT.ext q R1.mm.same, k _ _ _ μ1 as1 F1 H1 g1 R1 (itD_enumT q y) h1⟩⟩
        | _ => rw [e] at h1; exact h1.elim
    | _, [], _, h1 => exact h1.elim
    | _, _ :: _ :: _, _, h1 => exact h1.elim
theorem itD_zipL {v w : V} {d e : D} {a b : Addr} (ev : v = .ref a) (ew : w = .ref b) (r : Rep K as F v d) (s : Rep K as F w e) {ds es : List D} : ItD K as F (Itz K a b) (dzip ds es) (fun μ => view μ d = .lst ds ∧ view μ e = .lst es) := by
  subst ev ew
  have at_ : ∀ {a : Addr} {d : D} {ds : List D}, Rep K as F (.ref a) d → ∀ Z as' F' H' μ, Gr as F as' F' → Mm K Z as' F' H' μ → view μ d = .lst ds → ∃ vs, SqL K H' a vs ∧ RepL K as' F' vs ds := fun r Z as' F' H' μ g M c => by
    obtain ⟨b, vs, e, q, x⟩ := view_lst M (r.up g) c
    cases e
    exact ⟨vs, q, x⟩
  refine ⟨fun Z i as' F' H' μ g M c hi => ?_, fun Z i as' F' H' μ v H2 d' g M c hd y => ?_, fun Z i as' F' H' μ g M c hi => ?_⟩
  · rw [dzip_len] at hi
    obtain ⟨vs, q, x⟩ := at_ r Z as' F' H' μ g M c.1
    obtain ⟨ws, q2, x2⟩ := at_ s Z as' F' H' μ g M c.2
    obtain ⟨w, w1, _⟩ := x.get (i := i) (List.getElem?_eq_getElem (by omega))
    obtain ⟨w', w2, _⟩ := x2.get (i := i) (List.getElem?_eq_getElem (by omega))
    exact ⟨vs, ws, w, w', q, q2, w1, w2⟩
  · obtain ⟨vs, q, x⟩ := at_ r Z as' F' H' μ g M c.1
    obtain ⟨ws, q2, x2⟩ := at_ s Z as' F' H' μ g M c.2
    obtain ⟨d0, e0, h1, h2, h3⟩ := dzip_get hd
    obtain ⟨w, w1, w2⟩ := x.get h1
    obtain ⟨w', w1', w2'⟩ := x2.get h2
    obtain ⟨T, x', y', rfl, nT, rfl, y1, y2⟩ := y
    have t1 := y1 vs q
    rw [w1] at t1
    cases t1
    have t2 := y2 ws q2
    rw [w1'] at t2
    cases t2
    subst h3
    exact pair_new M nT w2 w2'
  · rw [dzip_len] at hi
    obtain ⟨vs, q, x⟩ := at_ r Z as' F' H' μ g M c.1
    obtain ⟨ws, q2, x2⟩ := at_ s Z as' F' H' μ g M c.2
    refine ⟨vs, ws, q, q2, ?_⟩
    rw [x.len, x2.len]
    omega
theorem itD_zipT {a b : Addr} {vs ws : List V} {ds es : List D} (hq : SqT K F a vs) (x : RepL K as F vs ds) (hq2 : SqT K F b ws) (x2 : RepL K as F ws es) : ItD K as F (RZ.ItzT K a b) (dzip ds es) (fun _ => True) := by
  have up : ∀ {a : Addr} {vs : List V}, SqT K F a vs → ∀ Z as' F' H' μ, Gr as F as' F' → Mm K Z as' F' H' μ → SqT K H' a vs := fun h Z as' F' H' μ g M => SqT.ext (SqT.ext h g.f) M.same
  refine ⟨fun Z i as' F' H' μ g M c hi => ?_, fun Z i as' F' H' μ v H2 d' g M c hd y => ?_, fun Z i as' F' H' μ g M c hi => ?_⟩
  · rw [dzip_len] at hi
    obtain ⟨w, w1, _⟩ := x.get (i := i) (List.getElem?_eq_getElem (by omega))
    obtain ⟨w', w2, _⟩ := x2.get (i := i) (List.getElem?_eq_getElem (by omega))
    exact ⟨vs, ws, w, w', up hq Z as' F' H' μ g M, up hq2 Z as' F' H' μ g M, w1, w2⟩
  · obtain ⟨d0, e0, h1, h2, h3⟩ := dzip_get hd
    obtain ⟨w, w1, w2⟩ := x.get h1
    obtain ⟨w', w1', w2'⟩ := x2.get h2
    obtain ⟨T, x', y', rfl, nT, rfl, y1, y2⟩ := y
    have t1 := y1 vs (up hq Z as' F' H' μ g M)
    rw [w1] at t1
    cases t1
    have t2 := y2 ws (up hq2 Z as' F' H' μ g M)
    rw [w1'] at t2
    cases t2
    subst h3
    exact pair_new M nT (w2.up g) (w2'.up g)
  · rw [dzip_len] at hi
    refine ⟨vs, ws, up hq Z as' F' H' μ g M, up hq2 Z as' F' H' μ g M, ?_⟩
    rw [x.len, x2.len]
    omega
def uIZip (u : DTA) : DTI := fun ρ μ R E => u ρ μ (fun ds μ1 => match ds with
  | [x, y] => match view μ1 x, view μ1 y with
    | .lst xs, .lst ys => R (dzip xs ys) (fun μ => view μ x = .lst xs ∧ view μ y = .lst ys) μ1
    | .tup xs, .tup ys => R (dzip xs ys) (fun _ => True) μ1
    | _, _ => False
  | _ => False) E
theorem sim_iZip {t : TA} {u : DTA} (a : SimA K Ex t u) : SimI K Ex (RZ.iZipA K t) (uIZip u) := fun Z as F H σ ρ μ R E R' r X h k =>
  a Z as F H σ ρ μ _ E _ r X h fun vs ds μ1 as1 F1 H1 g1 R1 r1 h1 => by
    match vs, ds, r1, h1 with
    | _, [x, y], .cons ra (.cons rb .nil), h1 =>
          have h1 : (match view μ1 x, view μ1 y with | .lst xs, .lst ys => R (dzip xs ys) (fun μ => view μ x = .lst xs ∧ view μ y = .lst ys) μ1 | .tup xs, .tup ys => R (dzip xs ys) (fun _ => True) μ1 | _, _ => False) := h1
          split at h1
          · rename_i xs ys e e2
            obtain ⟨b, ws, rfl, q, z⟩ := view_lst R1.mm ra e
            obtain ⟨c, us, rfl, q2, z2⟩ := view_lst R1.mm rb e2
            exact ⟨b, c, ws, us, rfl, .inl ⟨q, q2, k _ _ _ μ1 as1 F1 H1 g1 R1 (itD_zipL rfl rfl ra rb) h1⟩⟩
          · rename_i xs ys e e2
            obtain ⟨b, ws, rfl, q, z⟩ := view_tupF R1.mm ra e
            obtain ⟨c, us, rfl, q2, z2⟩ := view_tupF R1.mm rb e2
            exact ⟨b, c, ws, us, rfl, .inr ⟨SqT.ext q R1.mm.same, SqT.ext q2 R1.mm.same, k _ _ _ μ1 as1 F1 H1 g1 R1 (itD_zipT q z q2 z2) h1⟩⟩
          · exact h1.elim
    | _, [], _, h1 => exact h1.elim
    | _, [_], _, h1 => exact h1.elim
    | _, _ :: _ :: _ :: _, _, h1 => exact h1.elim
/-! a list or a tuple as what is taken apart -/
def uGUn (n : Nat) (w : DTGs) : DTG := fun d ρ μ Q E => match view μ d with
  | .tup ds => ds.length = n ∧ w ds ρ μ Q E
  | .lst ds => ds.length = n ∧ w ds ρ μ Q E
  | _ => False
def gUn (K : PySem.W.Frag) (n : Nat) (s : TGs) : TG := fun v σ H Q => gTup K n s v σ H Q ∨ gUnl K n s v σ H Q
theorem sim_gUn {n : Nat} {s : TGs} {w : DTGs} (b : SimGs K Ex s w) : SimG K Ex (gUn K n s) (uGUn n w) := fun Z as F H σ ρ μ v d Q E Q' R X r h k => by
  have h : (match view μ d with | .tup ds => ds.length = n ∧ w ds ρ μ Q E | .lst ds => ds.length = n ∧ w ds ρ μ Q E | _ => False) := h
  cases e : view μ d with
  | tup ds =>
    rw [e] at h
    obtain ⟨p, vs, rfl, q, x⟩ := view_tup R.mm r e
    exact .inl ⟨p, vs, rfl, q, by rw [x.len]; exact h.1, b Z as F H σ ρ μ vs ds Q E Q' R X x h.2 k⟩
  | lst ds =>
    rw [e] at h
    obtain ⟨p, vs, rfl, q, x⟩ := view_lst R.mm r e
    exact .inr ⟨p, vs, rfl, q, by rw [x.len]; exact h.1, b Z as F H σ ρ μ vs ds Q E Q' R X x h.2 k⟩
  | _ => rw [e] at h; exact h.elim
theorem pg_un {X : Cx} {pos : Pos} {es : List Expr} {k : Nat} {t : TGs} {n : Nat} (hc : X.calm = true) (h : PGs X es t)
    (hn : (assignEach es X.env).length = n := by rfl) (hst : (assignEach es X.env).findIdx? (·.1) = none := by rfl) : PG X (.Tuple es k pos) (gUn X.K n t) :=
  ⟨fun pins s σ H v u Q I r hw => hw.elim (fun z => (pg_tup hc h hn hst).run pins s σ H v u Q I r z) fun z => (pg_unl hc h hn hst).run pins s σ H v u Q I r z⟩
/-! [x] * n -/
def dRep (m : Bool) : DR2 := fun x y μ Q => match viewT μ x, y with
  | .lst xs, .int k => (-(2 ^ 63) ≤ k ∧ k < 2 ^ 63 ∧ xs.length * k.toNat ≤ sizeLine) ∧ (if m = true then Q (.ob μ.length) (μ ++ [.lst (List.replicate k.toNat xs).flatten]) else Q (.lst (List.replicate k.toNat xs).flatten) μ)
  | _, _ => False
theorem rep_flat {vs : List V} {ds : List D} (x : RepL K as F vs ds) : ∀ n : Nat, RepL K as F (List.replicate n vs).flatten (List.replicate n ds).flatten
  | 0 => .nil
  | n + 1 => by rw [List.replicate_succ, List.replicate_succ, List.flatten_cons, List.flatten_cons]; exact x.append (rep_flat x n)
theorem sim_rep (m : Bool) : SimR K rRep (dRep m) := fun Z as F H μ x y d e Q Q' M rx ry z k => by
  unfold dRep at z
  split at z
  · rename_i xs j e1
    cases ry
    obtain ⟨a, vs, rfl, q, x⟩ := viewT_lst M rx e1
    exact ⟨a, j, vs, rfl, rfl, q, z.1.1, z.1.2.1, by rw [x.len]; exact z.1.2.2, new_lst M (rep_flat x j.toNat) z.2 k⟩
  · exact z.elim
/-! max, min of two -/
def dTwo (f : Int → Int → Int) : DC := fun ds μ Q => match ds with
  | [.int i, .int j] => Q (.int (f i j)) μ
  | _ => False
theorem sim_two {f : Int → Int → Int} : SimC K (fun xs H Q => ∃ i j, xs = [.int i, .int j] ∧ Q (.int (f i j)) H) (dTwo f) := fun Z as F H μ vs ds Q Q' M rs z k => by
  have z : (match (generalizing := false) ds with | [.int i, .int j] => Q (.int (f i j)) μ | _ => False) := z
  split at z
  · cases rs with
    | cons ra rb =>
      cases rb with
      | cons rb rc =>
        cases rc
        cases ra
        cases rb
        exact ⟨_, _, rfl, k _ _ μ as F H Gr.refl M (.int _) z⟩
  · exact z.elim
theorem sim_ipI {f : Int → Int → Int} : SimR K (ipI f) (dI fun i j => .int (f i j)) := simR_int (rI_int f)
/-! a, b = x, y -/
def uPar (i j : Nat) (u : DTA) : DTS := fun De E ρ μ => u ρ μ (fun ds μ1 => match ds with
  | [x, y] => De.nx ((ρ.set i (some x)).set j (some y)) μ1
  | _ => False) E
theorem sim_par {i j : Nat} {t : TA} {u : DTA} (a : SimA K Ex t u) : SimS K Ex (tPar i j t) (uPar i j u) := fun Z as F H σ ρ μ De E D' R X h kn kr kb kc =>
  a Z as F H σ ρ μ _ E _ R X h fun vs ds μ1 as1 F1 H1 g1 R1 r1 h1 => by
    have h1 : (match (generalizing := false) ds with | [x, y] => De.nx ((ρ.set i (some x)).set j (some y)) μ1 | _ => False) := h1
    split at h1
    · cases r1 with
      | cons ra rb =>
        cases rb with
        | cons rb rc =>
          cases rc
          exact ⟨_, _, rfl, kn _ _ μ1 as1 F1 H1 g1 ⟨R1.mm, (R1.env.set ra i).set rb j⟩ h1⟩
    · exact h1.elim
end
section
variable {X : Cx} {K : PySem.W.Frag} {Ex : L2.St → XK} {pos : Pos} {a b c e o : Expr} {es : List Expr} {gs : TGs} {ugs : DTGs}
theorem i_enum {ta : TA} {ua : DTA} {p tpos : Pos} {elts : List Expr} {kk : Nat} (hm : X.mg "enumerate" = none) (h : AD X K Ex [a] ta ua) (hK : X.K = K := by rfl) (hg : Gl X "enumerate" := by rfl) (hs : starEach [a] X.env = [(false, eval a X.env)] := by rfl) : ID X K Ex (.Tuple elts kk tpos) (.Call (.Name "enumerate" p) [a] [] pos) (iEnumA K ta) (uIEnum ua) := by
  subst hK
  exact ⟨pi_enumA hg hm h.pe hs, sim_iEnum h.sim⟩
theorem i_zip {ta : TA} {ua : DTA} {p tpos : Pos} {elts : List Expr} {kk : Nat} (hm : X.mg "zip" = none) (h : AD X K Ex [a, b] ta ua) (hK : X.K = K := by rfl) (hg : Gl X "zip" := by rfl) (hs : starEach [a, b] X.env = (false, eval a X.env) :: starEach [b] X.env := by rfl) (hpl : (backTo pos (starEach [b] X.env)).any (·.1) = false := by rfl) : ID X K Ex (.Tuple elts kk tpos) (.Call (.Name "zip" p) [a, b] [] pos) (RZ.iZipA K ta) (uIZip ua) := by
  subst hK
  exact ⟨RZ.pi_zipA hg hm h.pe hs hpl, sim_iZip h.sim⟩
theorem g_un {k : Nat} (n : Nat) (h : GsD X K Ex es gs ugs) (hc : X.calm = true := by rfl) (hK : X.K = K := by rfl) (hn : (assignEach es X.env).length = n := by rfl) (hst : (assignEach es X.env).findIdx? (·.1) = none := by rfl) : GD X K Ex (.Tuple es k pos) (gUn K n gs) (uGUn n ugs) := by
  subst hK
  exact ⟨pg_un hc h.pe hn hst, sim_gUn h.sim⟩
theorem s_par (i j : Nat) {x y : Str} {ta : TA} {ua : DTA} {px py pt : Pos} {kt k2 pt2} (hN : X.N.Nodup) (ha : AD X K Ex [a, b] ta ua) (hij : i ≠ j := by decide) (hc : X.calm = true := by rfl) (hi : X.N[i]? = some x := by rfl) (hj : X.N[j]? = some y := by rfl)
    (hx : X.env.scope.names.lookup x = some .local := by rfl) (hy : X.env.scope.names.lookup y = some .local := by rfl)
    (hw : swappedStores [.Tuple [.Name x px, .Name y py] kt pt] (.Tuple [a, b] k2 pt2) X.env = pure (some [x, y]) := by rfl)
    (hs : swapsWithSole [.Tuple [.Name x px, .Name y py] kt pt] (.Tuple [a, b] k2 pt2) pos.line X.env = pure false := by rfl) :
    SD X K Ex (.Assign [.Tuple [.Name x px, .Name y py] kt pt] (.Tuple [a, b] k2 pt2) pos) (tPar i j ta) (uPar i j ua) := ⟨ps_par hc hN hi hj hij hx hy ha.pe hw hs, sim_par ha.sim⟩
end
end DX
set_option Elab.async false
set_option linter.all false
set_option maxRecDepth 100000
set_option maxHeartbeats 4000000
namespace DX
open PySem PySem.Spec PyProof.Rows L2
/-! ### what a law's world says, piece by piece -/
structure TopF (K : PySem.W.Frag) (mg : Str → Option Value) (x qual : Str) (st : Stmt) (f : Addr) (fd : FuncData) (ps : List Str) : Prop where
  a : mg x = some (.ref f)
  d : DefAt K x qual st f fd
  b : L2.Binds K fd ps []
structure MetF (K : PySem.W.Frag) (C : Addr) (x qual : Str) (st : Stmt) (f : Addr) (fd : FuncData) (ps : List Str) : Prop where
  m : Meth K C x f
  d : DefAt K x qual st f fd
  b : L2.Binds K fd ps []
structure SmtF (K : PySem.W.Frag) (C q : Addr) (x qual : Str) (st : Stmt) (f : Addr) (fd : FuncData) (ps : List Str) : Prop where
  s : Vx.SMet K C (.type "type") x q f
  d : DefAt K x qual st f fd
  b : L2.Binds K fd ps []
structure PrpF (K : PySem.W.Frag) (C q : Addr) (x qual : Str) (st : Stmt) (f : Addr) (fd : FuncData) (ps : List Str) : Prop where
  p : PropOf K C x q f
  d : DefAt K x qual st f fd
  b : L2.Binds K fd ps []
structure ClsF (K : PySem.W.Frag) (mg : Str → Option Value) (n : Str) (C : Addr) : Prop where
  a : mg n = some (.ref C)
  o : OwnT K C
  k : KitO K C
  s : PySem.W.kitOne K (.ref C) (.ref C) = some true
theorem ClsF.cl {K : PySem.W.Frag} {mg : Str → Option Value} {n : Str} {C : Addr} (c : ClsF K mg n C) : Cls K C := c.o.cl
structure GlobC (K : PySem.W.Frag) (mg : Str → Option Value) (n : Str) (v : V) (d : D) where
  u : Value
  m : mg n = some u
  r : RelV v u
  p : ∀ as F, Rep K as F v d
theorem Fun.dat {K : PySem.W.Frag} {x qual : Str} {st : Stmt} {f : Addr} {fd : FuncData} (F : Fun K x qual st f fd) : DefAt K x qual st f fd := by
  obtain ⟨oc, od, kV, doc, pm, an, cdv, ct, osl, e, l, c⟩ := F.ex
  exact ⟨⟨oc, od, .none, kV, doc, pm, an, cdv, ct, osl, e, l, c⟩, F.kp⟩
/-! ### the memory: what stands where -/
theorem at_l {α : Type} {xs ys : List α} {k : Nat} (h : k < xs.length) : (xs ++ ys)[k]? = xs[k]? := List.getElem?_append_left h
theorem at_r {α : Type} {xs ys : List α} (i : Nat) : (xs ++ ys)[xs.length + i]? = ys[i]? := by
  rw [List.getElem?_append_right (by omega)]
  congr 1
  omega
theorem at_r0 {α : Type} {xs ys : List α} : (xs ++ ys)[xs.length]? = ys[0]? := at_r 0
theorem at_rn {α : Type} {xs ys : List α} {n : Nat} (h : xs.length = n) (i : Nat) : (xs ++ ys)[n + i]? = ys[i]? := h ▸ at_r i
theorem at_rn0 {α : Type} {xs ys : List α} {n : Nat} (h : xs.length = n) : (xs ++ ys)[n]? = ys[0]? := at_rn h 0
theorem set_l {α : Type} {xs ys : List α} {k : Nat} {v : α} (h : k < xs.length) : (xs ++ ys).set k v = xs.set k v ++ ys := List.set_append_left _ _ h
theorem set_rn {α : Type} {xs ys : List α} {n : Nat} (h : xs.length = n) (i : Nat) {v : α} : (xs ++ ys).set (n + i) v = xs ++ ys.set i v := by
  rw [List.set_append_right _ _ (by omega)]
  congr 2
  omega
theorem set_rn0 {α : Type} {xs ys : List α} {n : Nat} (h : xs.length = n) {v : α} : (xs ++ ys).set n v = xs ++ ys.set 0 v := set_rn h 0
theorem take_n {α : Type} {xs ys : List α} {n : Nat} (h : xs.length = n) : (xs ++ ys).take n = xs := by rw [← h]; exact List.take_left'  rfl
theorem lt_of_at {α : Type} {xs : List α} {k : Nat} {x : α} (h : xs[k]? = some x) : k < xs.length := (List.getElem?_eq_some_iff.mp h).1
theorem seq_step {a b : DTS} {De : DEnds} {E : XD} {ρ : Rho} {μ : Mem} (h : ∀ nx : Rho → Mem → Prop, (∀ ρ μ, b De E ρ μ → nx ρ μ) → a { De with nx := nx } E ρ μ) : uSeq a b De E ρ μ := h _ fun _ _ z => z
/-! loops over a list of data by an invariant -/
theorem for_inv {ug : DTG} {ub : DTS} {chk : Mem → Prop} {De : DEnds} {E : XD} (I : List D → Rho → Mem → Prop) (hI : ∀ ds ρ μ, I ds ρ μ → chk μ) (hn : ∀ ρ μ, I [] ρ μ → De.nx ρ μ)
    (hs : ∀ d ds ρ μ (go : Rho → Mem → Prop), I (d :: ds) ρ μ → (∀ ρ μ, I ds ρ μ → go ρ μ) → ug d ρ μ (fun ρ1 μ1 => ub { De with nx := go, ct := go, bk := De.nx } E ρ1 μ1) E) : ∀ ds ρ μ, I ds ρ μ → uForGo ug ub chk De E ds ρ μ
  | [], ρ, μ, h => ⟨hI _ _ _ h, hn _ _ h⟩
  | d :: ds, ρ, μ, h => ⟨hI _ _ _ h, hs d ds ρ μ _ h fun ρ1 μ1 h1 => for_inv I hI hn hs ds ρ1 μ1 h1⟩
theorem lc_inv {ug : DTG} {ut : DTT} {ue : DTE} {ρw : Rho} {chk : Mem → Prop} {fin : List D → Mem → Prop} (I : List D → List D → Mem → Prop) (hI : ∀ ds acc μ, I ds acc μ → chk μ) (hn : ∀ acc μ, I [] acc μ → fin acc μ)
    (hs : ∀ d ds acc μ (go : List D → Mem → Prop), I (d :: ds) acc μ → (∀ acc μ, I ds acc μ → go acc μ) → ug d ρw μ (fun ρ1 μ1 => ut ρ1 μ1 (fun b μ2 => if b = true then ue ρ1 μ2 (fun y μ3 => acc.length < 1000000 ∧ go (acc ++ [y]) μ3) XN else go acc μ2) XN) XN) : ∀ ds acc μ, I ds acc μ → uLcGo ug ut ue ρw chk fin ds acc μ
  | [], acc, μ, h => ⟨hI _ _ _ h, hn _ _ h⟩
  | d :: ds, acc, μ, h => ⟨hI _ _ _ h, hs d ds acc μ _ h fun acc1 μ1 h1 => lc_inv I hI hn hs ds acc1 μ1 h1⟩
/-- a loop cut: what is left when it is done -/
theorem for_map {ug : DTG} {ub : DTS} {chk : Mem → Prop} {De : DEnds} {E : XD} {ds : List D} {ρ : Rho} {μ : Mem} (J : Nat → Rho → Mem → Prop) (h0 : J 0 ρ μ) (hI : ∀ n ρ μ, J n ρ μ → chk μ) (hn : ∀ ρ μ, J ds.length ρ μ → De.nx ρ μ)
    (hs : ∀ n d ρ μ (go : Rho → Mem → Prop), ds[n]? = some d → J n ρ μ → (∀ ρ μ, J (n + 1) ρ μ → go ρ μ) → ug d ρ μ (fun ρ1 μ1 => ub { De with nx := go, ct := go, bk := De.nx } E ρ1 μ1) E) : uForGo ug ub chk De E ds ρ μ := by
  refine for_inv (fun es ρ μ => ∃ n, es = ds.drop n ∧ n ≤ ds.length ∧ J n ρ μ) (fun es ρ μ ⟨n, _, _, h⟩ => hI n ρ μ h) (fun ρ μ ⟨n, e, l, h⟩ => ?_) (fun d es ρ μ go ⟨n, e, l, h⟩ k => ?_) ds ρ μ ⟨0, rfl, Nat.zero_le _, h0⟩
  · have : ds.length ≤ n := List.drop_eq_nil_iff.mp e.symm
    have : n = ds.length := by omega
    subst this
    exact hn ρ μ h
  · have hl : n < ds.length := by
      rcases Nat.lt_or_ge n ds.length with z | z
      · exact z
      · rw [List.drop_eq_nil_iff.mpr z] at e; cases e
    rw [List.drop_eq_getElem_cons hl] at e
    injection e with e1 e2
    exact hs n d ρ μ go (by rw [e1]; exact List.getElem?_eq_getElem hl) h fun ρ μ j => k ρ μ ⟨n + 1, e2, hl, j⟩
theorem lc_map {ug : DTG} {ut : DTT} {ue : DTE} {ρw : Rho} {chk : Mem → Prop} {fin : List D → Mem → Prop} {ds : List D} {μ : Mem} (J : Nat → List D → Mem → Prop) (h0 : J 0 [] μ) (hI : ∀ n acc μ, J n acc μ → chk μ) (hn : ∀ acc μ, J ds.length acc μ → fin acc μ)
    (hs : ∀ n d acc μ (go : List D → Mem → Prop), ds[n]? = some d → J n acc μ → (∀ acc μ, J (n + 1) acc μ → go acc μ) → ug d ρw μ (fun ρ1 μ1 => ut ρ1 μ1 (fun b μ2 => if b = true then ue ρ1 μ2 (fun y μ3 => acc.length < 1000000 ∧ go (acc ++ [y]) μ3) XN else go acc μ2) XN) XN) : uLcGo ug ut ue ρw chk fin ds [] μ := by
  refine lc_inv (fun es acc μ => ∃ n, es = ds.drop n ∧ n ≤ ds.length ∧ J n acc μ) (fun es ρ μ ⟨n, _, _, h⟩ => hI n ρ μ h) (fun ρ μ ⟨n, e, l, h⟩ => ?_) (fun d es ρ μ go ⟨n, e, l, h⟩ k => ?_) ds [] μ ⟨0, rfl, Nat.zero_le _, h0⟩
  · have : ds.length ≤ n := List.drop_eq_nil_iff.mp e.symm
    have : n = ds.length := by omega
    subst this
    exact hn ρ μ h
  · have hl : n < ds.length := by
      rcases Nat.lt_or_ge n ds.length with z | z
      · exact z
      · rw [List.drop_eq_nil_iff.mpr z] at e; cases e
    rw [List.drop_eq_getElem_cons hl] at e
    injection e with e1 e2
    exact hs n d ρ μ go (by rw [e1]; exact List.getElem?_eq_getElem hl) h fun ρ μ j => k ρ μ ⟨n + 1, e2, hl, j⟩
end DX
set_option Elab.async false
set_option linter.all false
set_option maxRecDepth 100000
set_option maxHeartbeats 4000000
namespace DX
open PySem PySem.Spec PyProof.Rows L2
theorem v_non {μ : Mem}  : view μ .non = .non := rfl
theorem vT_non {μ : Mem}  : viewT μ .non = .non := rfl
theorem ty_non {μ : Mem}  : tyOf μ .non = some .non := rfl
theorem v_bl {μ : Mem} (b : Bool) : view μ (.bl b) = (.bl b) := rfl
theorem vT_bl {μ : Mem} (b : Bool) : viewT μ (.bl b) = (.bl b) := rfl
theorem ty_bl {μ : Mem} (b : Bool) : tyOf μ (.bl b) = some .bl := rfl
theorem v_int {μ : Mem} (i : Int) : view μ (.int i) = (.int i) := rfl
theorem vT_int {μ : Mem} (i : Int) : viewT μ (.int i) = (.int i) := rfl
theorem ty_int {μ : Mem} (i : Int) : tyOf μ (.int i) = some .int := rfl
theorem v_str {μ : Mem} (x : Str) : view μ (.str x) = (.str x) := rfl
theorem vT_str {μ : Mem} (x : Str) : viewT μ (.str x) = (.str x) := rfl
theorem ty_str {μ : Mem} (x : Str) : tyOf μ (.str x) = some .str := rfl
theorem v_byt {μ : Mem} (b : Array UInt8) : view μ (.byt b) = (.byt b) := rfl
theorem vT_byt {μ : Mem} (b : Array UInt8) : viewT μ (.byt b) = (.byt b) := rfl
theorem ty_byt {μ : Mem} (b : Array UInt8) : tyOf μ (.byt b) = some .byt := rfl
theorem v_lst {μ : Mem} (xs : List D) : view μ (.lst xs) = (.lst xs) := rfl
theorem vT_lst {μ : Mem} (xs : List D) : viewT μ (.lst xs) = (.lst xs) := rfl
theorem ty_lst {μ : Mem} (xs : List D) : tyOf μ (.lst xs) = some .lst := rfl
theorem v_tup {μ : Mem} (xs : List D) : view μ (.tup xs) = (.tup xs) := rfl
theorem vT_tup {μ : Mem} (xs : List D) : viewT μ (.tup xs) = (.tup xs) := rfl
theorem ty_tup {μ : Mem} (xs : List D) : tyOf μ (.tup xs) = some .tup := rfl
theorem v_kt {μ : Mem} (xs : List D) : view μ (.kt xs) = (.tup xs) := rfl
theorem vT_kt {μ : Mem} (xs : List D) : viewT μ (.kt xs) = (.kt xs) := rfl
theorem ty_kt {μ : Mem} (xs : List D) : tyOf μ (.kt xs) = some .tup := rfl
theorem v_kl {μ : Mem} (xs : List D) : view μ (.kl xs) = (.lst xs) := rfl
theorem vT_kl {μ : Mem} (xs : List D) : viewT μ (.kl xs) = (.kl xs) := rfl
theorem ty_kl {μ : Mem} (xs : List D) : tyOf μ (.kl xs) = some .lst := rfl
theorem v_ins {μ : Mem} (C : Addr) (fs : List (Str × D)) : view μ (.ins C fs) = (.ins C fs) := rfl
theorem vT_ins {μ : Mem} (C : Addr) (fs : List (Str × D)) : viewT μ (.ins C fs) = (.ins C fs) := rfl
theorem ty_ins {μ : Mem} (C : Addr) (fs : List (Str × D)) : tyOf μ (.ins C fs) = some (.own C) := rfl
theorem v_val {μ : Mem} (v : V) : view μ (.val v) = (.val v) := rfl
theorem vT_val {μ : Mem} (v : V) : viewT μ (.val v) = (.val v) := rfl
theorem ty_val {μ : Mem} (v : V) : tyOf μ (.val v) = none := rfl
theorem look_hd {n : Str} {d : D} {r : List (Str × D)} : List.lookup n ((n, d) :: r) = some d := by
  rw [List.lookup_cons, beq_self_eq_true]
theorem atI_nat {xs : List D} (n : Nat) : atI xs (n : Int) = xs[n]? := by
  unfold atI ixN
  rw [if_pos (Int.natCast_nonneg n)]
  by_cases h : n < xs.length
  · rw [if_pos (by omega)]; rfl
  · rw [if_neg (by omega), List.getElem?_eq_none (by omega)]; rfl
theorem at0 {xs : List D} : atI xs 0 = xs[0]? := atI_nat 0
theorem at1 {xs : List D} : atI xs 1 = xs[1]? := atI_nat 1
theorem at2 {xs : List D} : atI xs 2 = xs[2]? := atI_nat 2
theorem at3 {xs : List D} : atI xs 3 = xs[3]? := atI_nat 3
theorem eqok_int {a b : Int} : dEqOk (.int a) (.int b) = true := rfl
theorem eqok_str {a b : Str} : dEqOk (.str a) (.str b) = true := rfl
theorem eqok_bl {a b : Bool} : dEqOk (.bl a) (.bl b) = true := rfl
theorem deqv_int {a b : Int} : deqv (.int a) (.int b) = (a == b) := rfl
theorem deqv_str {a b : Str} : deqv (.str a) (.str b) = (a == b) := rfl
theorem deqv_bl {a b : Bool} : deqv (.bl a) (.bl b) = (a == b) := rfl
theorem ty_view {μ : Mem} {x : D} {C : Addr} {fs : List (Str × D)} (h : view μ x = .ins C fs) : tyOf μ x = some (.own C) := by
  cases x with
  | ob k =>
    have h : (match μ[k]? with | some (DX.M.lst ds) => D.lst ds | some (.ins C fs) => .ins C fs | _ => .ob k) = .ins C fs := h
    show (match μ[k]? with | some (DX.M.lst _) => some Ty.lst | some (.ins C _) => some (.own C) | some (.dic _) => some .dic | none => none) = _
    split at h <;> first | (cases h; rename_i e; rw [e]) | cases h
  | ins C' gs => cases h; rfl
  | _ => cases h
theorem v_obL {μ : Mem} {k : Nat} {ds : List D} (h : μ[k]? = some (.lst ds)) : view μ (.ob k) = .lst ds := by
  show (match μ[k]? with | some (DX.M.lst ds) => D.lst ds | some (.ins C fs) => .ins C fs | _ => .ob k) = _
  rw [h]
theorem v_obI {μ : Mem} {k : Nat} {C : Addr} {fs : List (Str × D)} (h : μ[k]? = some (.ins C fs)) : view μ (.ob k) = .ins C fs := by
  show (match μ[k]? with | some (DX.M.lst ds) => D.lst ds | some (.ins C fs) => .ins C fs | _ => .ob k) = _
  rw [h]
theorem vT_obL {μ : Mem} {k : Nat} {ds : List D} (h : μ[k]? = some (.lst ds)) : viewT μ (.ob k) = .lst ds := by
  show (match μ[k]? with | some (DX.M.lst ds) => D.lst ds | some (.ins C fs) => .ins C fs | _ => .ob k) = _
  rw [h]
theorem set_r0 {α : Type} {xs ys : List α} {v : α} : (xs ++ ys).set xs.length v = xs ++ ys.set 0 v := set_rn0 rfl
theorem putD_nil {f : Str} {d : D} : putD f d [] = [(f, d)] := rfl
theorem putD_hd {f : Str} {d e : D} {r : List (Str × D)} : putD f d ((f, e) :: r) = (f, d) :: r := if_pos rfl
theorem ixN_nat {n m : Nat} (h : m < n) : ixN n (m : Int) = some m := by
  unfold ixN
  rw [if_pos (Int.natCast_nonneg m), if_pos (by omega)]
  rfl
theorem view_app {μ l : Mem} {x : D} {ds : List D} (h : view μ x = .lst ds) : view (μ ++ l) x = .lst ds := by
  cases x with
  | ob k =>
    have h' : (match μ[k]? with | some (DX.M.lst ds) => D.lst ds | some (.ins C fs) => .ins C fs | _ => .ob k) = .lst ds := h
    split at h' <;> first | (cases h'; rename_i e; exact v_obL ((at_l (lt_of_at e)).trans e)) | cases h'
  | _ => exact h
theorem view_appI {μ l : Mem} {x : D} {C : Addr} {fs : List (Str × D)} (h : view μ x = .ins C fs) : view (μ ++ l) x = .ins C fs := by
  cases x with
  | ob k =>
    have h' : (match μ[k]? with | some (DX.M.lst ds) => D.lst ds | some (.ins C fs) => .ins C fs | _ => .ob k) = .ins C fs := h
    split at h' <;> first | (cases h'; rename_i e; exact v_obI ((at_l (lt_of_at e)).trans e)) | cases h'
  | _ => exact h
theorem fz_lst {μ : Mem} {n f : Nat} {ds : List D} : fz μ n (f + 1) (.lst ds) = .lst (ds.map (fz μ n f)) := rfl
theorem fz_tup {μ : Mem} {n f : Nat} {ds : List D} : fz μ n (f + 1) (.tup ds) = .tup (ds.map (fz μ n f)) := rfl
theorem fz_int {μ : Mem} {n : Nat} {i : Int} : ∀ f, fz μ n f (.int i) = .int i
  | 0 => rfl
  | _ + 1 => rfl
theorem fz_bl {μ : Mem} {n : Nat} {i : Bool} : ∀ f, fz μ n f (.bl i) = .bl i
  | 0 => rfl
  | _ + 1 => rfl
theorem fz_str {μ : Mem} {n : Nat} {i : Str} : ∀ f, fz μ n f (.str i) = .str i
  | 0 => rfl
  | _ + 1 => rfl
theorem fz_non {μ : Mem} {n : Nat} : ∀ f, fz μ n f .non = .non
  | 0 => rfl
  | _ + 1 => rfl
theorem fz_obL {μ : Mem} {n f k : Nat} {ds : List D} (hk : ¬ k < n) (h : μ[k]? = some (.lst ds)) : fz μ n (f + 1) (.ob k) = .lst (ds.map (fz μ n f)) := by
  show (if k < n then D.ob k else match μ[k]? with | some (DX.M.lst ds) => .lst (ds.map (fz μ n f)) | some (.ins C fs) => .ins C (fs.map fun p => (p.1, fz μ n f p.2)) | some (.dic kvs) => .dic (kvs.map fun p => (p.1, fz μ n f p.2)) | _ => .ob k) = _
  rw [if_neg hk, h]
theorem fz_obI {μ : Mem} {n f k : Nat} {C : Addr} {fs : List (Str × D)} (hk : ¬ k < n) (h : μ[k]? = some (.ins C fs)) : fz μ n (f + 1) (.ob k) = .ins C (fs.map fun p => (p.1, fz μ n f p.2)) := by
  show (if k < n then D.ob k else match μ[k]? with | some (DX.M.lst ds) => .lst (ds.map (fz μ n f)) | some (.ins C fs) => .ins C (fs.map fun p => (p.1, fz μ n f p.2)) | some (.dic kvs) => .dic (kvs.map fun p => (p.1, fz μ n f p.2)) | _ => .ob k) = _
  rw [if_neg hk, h]
theorem cldL_all {n : Nat} : ∀ {ds : List D}, (∀ d ∈ ds, cld n d = true) → cldL n ds = true
  | [], _ => rfl
  | d :: ds, h => by
    show (cld n d && cldL n ds) = true
    rw [h d List.mem_cons_self, cldL_all fun e he => h e (List.mem_cons_of_mem _ he)]
    rfl
theorem cldL_bl {n : Nat} (bs : List Bool) : cldL n (bs.map .bl) = true := cldL_all fun d hd => by
  obtain ⟨b, _, rfl⟩ := List.mem_map.mp hd
  rfl
theorem isLst_at {μ : Mem} {k : Nat} {ds : List D} (h : μ[k]? = some (.lst ds)) : isLst μ (.ob k) := by
  unfold isLst
  rw [v_obL h]
  trivial
end DX
set_option Elab.async false
set_option linter.all false
set_option maxRecDepth 100000
set_option maxHeartbeats 4000000
namespace DX
open PySem PySem.Spec PyProof.Rows L2
/-! ### dicts whose keys are ints and texts -/
def dKey : D → Option Key
  | .int i => some (.inl i)
  | .str x => some (.inr x)
  | _ => none
def valD (kvs : List (Key × D)) (k : Key) : Option D := (kvs.find? fun kv => decide (kv.1 = k)).map (·.2)
def dputK (kvs : List (Key × D)) (k : Key) (v : D) : List (Key × D) := if (kvs.any fun kv => decide (kv.1 = k)) = true then kvs.map (fun kv => if kv.1 = k then (kv.1, v) else kv) else kvs ++ [(k, v)]
def dicAt (μ : Mem) : D → Option (List (Key × D))
  | .ob k => match μ[k]? with
    | some (.dic kvs) => some kvs
    | _ => none
  | .dic kvs => some kvs
  | .fd kvs => some kvs
  | _ => none
section
variable {K : PySem.W.Frag} {Z : Hp} {as as' as1 : List Addr} {F F' F1 H H' H1 : Hp} {Ex : L2.St → XK}
theorem rep_key {v : V} {d : D} {k : Key} (r : Rep K as F v d) (h : dKey d = some k) : v = kV k := by
  cases r <;> first | (cases h; rfl) | cases h
theorem valV_cons (n : Key) (v : V) (vs : List (Key × V)) (k : Key) : valV ((n, v) :: vs) k = if n = k then some v else valV vs k := by
  by_cases e : n = k
  · rw [if_pos e]; exact valV_pos e
  · rw [if_neg e]; exact valV_neg e
theorem valD_cons (n : Key) (v : D) (vs : List (Key × D)) (k : Key) : valD ((n, v) :: vs) k = if n = k then some v else valD vs k := by
  unfold valD
  rw [List.find?_cons]
  by_cases e : n = k
  · rw [if_pos e]; simp [e]
  · rw [if_neg e]; simp [e]
theorem RepK.val : ∀ {vs : List (Key × V)} {ds : List (Key × D)} (k : Key), RepK K as F vs ds → (∀ d, valD ds k = some d → ∃ v, valV vs k = some v ∧ Rep K as F v d) ∧ (valD ds k = none → valV vs k = none)
  | _, _, k, .nil => ⟨fun d e => by simp [valD] at e, fun _ => rfl⟩
  | _, _, k, .cons (n := n) (v := v) (vs := vs) (d := d) (ds := ds) h r => by
    rw [valV_cons, valD_cons]
    by_cases e : n = k
    · rw [if_pos e, if_pos e]
      exact ⟨fun d' z => by cases z; exact ⟨v, rfl, h⟩, fun z => nomatch z⟩
    · rw [if_neg e, if_neg e]
      exact RepK.val k r
theorem RepK.any : ∀ {vs : List (Key × V)} {ds : List (Key × D)} (k : Key), RepK K as F vs ds → (vs.any fun kv => decide (kv.1 = k)) = (ds.any fun kv => decide (kv.1 = k))
  | _, _, _, .nil => rfl
  | _, _, k, .cons h r => by rw [List.any_cons, List.any_cons, RepK.any k r]
theorem RepK.upd_ {k : Key} {v : V} {d : D} (q : Rep K as F v d) : ∀ {vs : List (Key × V)} {ds : List (Key × D)}, RepK K as F vs ds → RepK K as F (vs.map fun kv => if kv.1 = k then (kv.1, v) else kv) (ds.map fun kv => if kv.1 = k then (kv.1, d) else kv)
  | _, _, .nil => .nil
  | _, _, .cons (n := n) (v := x) (d := e) h r => by
    rw [List.map_cons, List.map_cons]
    by_cases z : n = k
    · rw [if_pos z, if_pos z]; exact .cons q (RepK.upd_ q r)
    · rw [if_neg z, if_neg z]; exact .cons h (RepK.upd_ q r)
theorem RepK.snoc {k : Key} {v : V} {d : D} (q : Rep K as F v d) : ∀ {vs : List (Key × V)} {ds : List (Key × D)}, RepK K as F vs ds → RepK K as F (vs ++ [(k, v)]) (ds ++ [(k, d)])
  | _, _, .nil => .cons q .nil
  | _, _, .cons h r => .cons h (RepK.snoc q r)
theorem RepK.put {k : Key} {v : V} {d : D} (q : Rep K as F v d) {vs : List (Key × V)} {ds : List (Key × D)} (r : RepK K as F vs ds) : RepK K as F (putK vs k v) (dputK ds k d) := by
  unfold putK dputK
  rw [r.any k]
  split
  · exact r.upd_ q
  · exact r.snoc q
theorem RepK.len : ∀ {vs : List (Key × V)} {ds : List (Key × D)}, RepK K as F vs ds → vs.length = ds.length
  | _, _, .nil => rfl
  | _, _, .cons _ r => congrArg Nat.succ (RepK.len r)
theorem dic_ob {μ : Mem} (M : Mm K Z as F H μ) {v : V} {n : Nat} {kvs : List (Key × D)} (r : Rep K as F v (.ob n)) (h : μ[n]? = some (.dic kvs)) : ∃ a ks, v = .ref a ∧ as[n]? = some a ∧ H a = some (.dK ks) ∧ RepK K as F ks kvs := by
  cases r with
  | ob q =>
    obtain ⟨b, hb, y⟩ := M.at_ n _ h
    obtain rfl := Option.some.inj (q.symm.trans hb)
    obtain ⟨vs, e1, e2⟩ := y
    exact ⟨_, vs, rfl, q, e1, e2⟩
theorem DGet.r {a : Addr} {kvs : List (Key × V)} {k : Key} (e : Rd H a (.dK kvs)) : DGet H a (kV k) (valV kvs k) := .inl ⟨kvs, k, e, rfl, rfl⟩
theorem dic_at {μ : Mem} (M : Mm K Z as F H μ) {v : V} {d : D} {kvs : List (Key × D)} (r : Rep K as F v d) (h : dicAt μ d = some kvs) : ∃ a ks, v = .ref a ∧ Rd H a (.dK ks) ∧ RepK K as F ks kvs := by
  cases r with
  | ob q =>
    rename_i n a
    have h : (match μ[n]? with | some (DX.M.dic kvs) => some kvs | _ => none) = some kvs := h
    cases z : μ[n]? with
    | none => rw [z] at h; cases h
    | some m =>
      rw [z] at h
      obtain ⟨b, hb, y⟩ := M.at_ n m z
      obtain rfl := Option.some.inj (q.symm.trans hb)
      cases m with
      | dic ks => cases h; obtain ⟨vs, e1, e2⟩ := y; exact ⟨a, vs, rfl, .inl e1, e2⟩
      | _ => cases h
  | dic q x => cases h; exact ⟨_, _, rfl, .inl (M.same _ _ q), x⟩
  | fd q x => cases h; exact ⟨_, _, rfl, .inr ⟨_, M.same _ _ q⟩, x⟩
  | _ => cases h
/-! {} -/
def uDNew : DTE := fun _ μ Q _ => Q (.ob μ.length) (μ ++ [.dic []])
theorem sim_dnew : Sim K Ex tDNewK uDNew := fun Z as F H σ ρ μ Q E Q' R X h k => fun p np =>
  k _ _ _ (as ++ [p]) F _ Gr.add (R.up Gr.add (R.mm.addM (m := .dic []) np ⟨[], upd_same, .nil⟩)) (rep_ob R.mm.len) h
/-! d[y], y in d, d.get(y), d[y] = v -/
def uDGet (uo ui : DTE) : DTE := fun ρ μ Q E => uo ρ μ (fun x μ1 => ui ρ μ1 (fun y μ2 => ∃ kvs k d, dicAt μ2 x = some kvs ∧ dKey y = some k ∧ valD kvs k = some d ∧ Q d μ2) E) E
theorem sim_dget {to ti : TE} {uo ui : DTE} (a : Sim K Ex to uo) (b : Sim K Ex ti ui) : Sim K Ex (tDGet to ti) (uDGet uo ui) := fun Z as F H σ ρ μ Q E Q' R X h k =>
  a Z as F H σ ρ μ _ E _ R X h fun v d μ1 as1 F1 H1 g1 R1 r1 h1 => b Z as1 F1 H1 σ ρ μ1 _ E _ R1 (X.up g1) h1 fun v2 d2 μ2 as2 F2 H2 g2 R2 r2 h2 => by
    obtain ⟨kvs, key, d, e1, e2, e3, q⟩ := h2
    obtain ⟨p, ks, rfl, hp, rk⟩ := dic_at R2.mm (r1.up g2) e1
    obtain ⟨w, w1, w2⟩ := (rk.val key).1 d e3
    cases rep_key r2 e2
    exact ⟨p, w, rfl, by rw [← w1]; exact DX.DGet.r hp, k w d μ2 as2 F2 H2 (g1.trans g2) R2 w2 q⟩
def uDIn (neg : Bool) (ui uo : DTE) : DTE := fun ρ μ Q E => ui ρ μ (fun y μ1 => uo ρ μ1 (fun x μ2 => ∃ kvs k, dicAt μ2 x = some kvs ∧ dKey y = some k ∧ Q (.bl (if neg then !(valD kvs k).isSome else (valD kvs k).isSome)) μ2) E) E
theorem val_some {ks : List (Key × V)} {kvs : List (Key × D)} (rk : RepK K as F ks kvs) (key : Key) : (valV ks key).isSome = (valD kvs key).isSome := by
  cases e : valD kvs key with
  | none => rw [(rk.val key).2 e]; rfl
  | some d => obtain ⟨w, w1, _⟩ := (rk.val key).1 d e; rw [w1]; rfl
theorem sim_din {to ti : TE} {uo ui : DTE} (b : Sim K Ex ti ui) (a : Sim K Ex to uo) : Sim K Ex (tDIn ti to) (uDIn false ui uo) := fun Z as F H σ ρ μ Q E Q' R X h k =>
  b Z as F H σ ρ μ _ E _ R X h fun v2 d2 μ1 as1 F1 H1 g1 R1 r1 h1 => a Z as1 F1 H1 σ ρ μ1 _ E _ R1 (X.up g1) h1 fun v d μ2 as2 F2 H2 g2 R2 r2 h2 => by
    obtain ⟨kvs, key, e1, e2, q⟩ := h2
    obtain ⟨p, ks, rfl, hp, rk⟩ := dic_at R2.mm r2 e1
    cases rep_key (r1.up g2) e2
    exact ⟨p, valV ks key, rfl, DX.DGet.r hp, k _ _ μ2 as2 F2 H2 (g1.trans g2) R2 (.bl _) (by rw [val_some rk]; exact q)⟩
theorem sim_dnotin {to ti : TE} {uo ui : DTE} (b : Sim K Ex ti ui) (a : Sim K Ex to uo) : Sim K Ex (tDNotIn ti to) (uDIn true ui uo) := fun Z as F H σ ρ μ Q E Q' R X h k =>
  b Z as F H σ ρ μ _ E _ R X h fun v2 d2 μ1 as1 F1 H1 g1 R1 r1 h1 => a Z as1 F1 H1 σ ρ μ1 _ E _ R1 (X.up g1) h1 fun v d μ2 as2 F2 H2 g2 R2 r2 h2 => by
    obtain ⟨kvs, key, e1, e2, q⟩ := h2
    obtain ⟨p, ks, rfl, hp, rk⟩ := dic_at R2.mm r2 e1
    cases rep_key (r1.up g2) e2
    exact ⟨p, valV ks key, rfl, DX.DGet.r hp, k _ _ μ2 as2 F2 H2 (g1.trans g2) R2 (.bl _) (by rw [val_some rk]; exact q)⟩
def uDGet1 (uo ui : DTE) : DTE := fun ρ μ Q E => uo ρ μ (fun x μ1 => (∃ kvs, dicAt μ1 x = some kvs) ∧ ui ρ μ1 (fun y μ2 => ∃ kvs k, dicAt μ2 x = some kvs ∧ dKey y = some k ∧ Q ((valD kvs k).getD .non) μ2) E) E
theorem sim_dget1 {to ti : TE} {uo ui : DTE} (a : Sim K Ex to uo) (b : Sim K Ex ti ui) : Sim K Ex (tDGet1 to ti) (uDGet1 uo ui) := fun Z as F H σ ρ μ Q E Q' R X h k =>
  a Z as F H σ ρ μ _ E _ R X h fun v d μ1 as1 F1 H1 g1 R1 r1 h1 => by
    obtain ⟨⟨kvs0, e0⟩, h1⟩ := h1
    obtain ⟨p, ks0, rfl, hp0, _⟩ := dic_at R1.mm r1 e0
    refine ⟨p, rfl, .inl ⟨ks0, hp0⟩, b Z as1 F1 H1 σ ρ μ1 _ E _ R1 (X.up g1) h1 fun v2 d2 μ2 as2 F2 H2 g2 R2 r2 h2 => ?_⟩
    obtain ⟨kvs, key, e1, e2, q⟩ := h2
    obtain ⟨p2, ks, ep, hp, rk⟩ := dic_at R2.mm (r1.up g2) e1
    cases ep
    cases rep_key r2 e2
    refine ⟨valV ks key, DX.DGet.r hp, ?_⟩
    cases e : valD kvs key with
    | none =>
      rw [e] at q
      rw [(rk.val key).2 e]
      exact k _ _ μ2 as2 F2 H2 (g1.trans g2) R2 .non q
    | some d =>
      rw [e] at q
      obtain ⟨w, w1, w2⟩ := (rk.val key).1 d e
      rw [w1]
      exact k _ _ μ2 as2 F2 H2 (g1.trans g2) R2 w2 q
def uDPut (uo ui ue : DTE) : DTS := fun De E ρ μ => ue ρ μ (fun v μ1 => uo ρ μ1 (fun x μ2 => ui ρ μ2 (fun y μ3 => ∃ n kvs k, x = .ob n ∧ μ3[n]? = some (.dic kvs) ∧ dKey y = some k ∧ kvs.length < 1000000 ∧ De.nx ρ (μ3.set n (.dic (dputK kvs k v)))) E) E) E
theorem sim_dput {to ti te : TE} {uo ui ue : DTE} (a : Sim K Ex to uo) (b : Sim K Ex ti ui) (c : Sim K Ex te ue) : SimS K Ex (sDPut to ti te) (uDPut uo ui ue) := fun Z as F H σ ρ μ De E D' R X h kn kr kb kc =>
  c Z as F H σ ρ μ _ E _ R X h fun v d μ1 as1 F1 H1 g1 R1 r1 h1 => a Z as1 F1 H1 σ ρ μ1 _ E _ R1 (X.up g1) h1 fun v2 d2 μ2 as2 F2 H2 g2 R2 r2 h2 =>
    b Z as2 F2 H2 σ ρ μ2 _ E _ R2 (X.up (g1.trans g2)) h2 fun v3 d3 μ3 as3 F3 H3 g3 R3 r3 h3 => by
      obtain ⟨n, kvs, key, rfl, e1, e2, hl, q⟩ := h3
      obtain ⟨p, ks, rfl, hn, hp, rk⟩ := dic_ob R3.mm (r2.up g3) e1
      cases rep_key r3 e2
      refine ⟨p, _, rfl, DPut.k hp (by rw [rk.len]; exact Nat.lt_of_lt_of_le hl (by decide)), ?_⟩
      exact kn σ ρ _ as3 F3 _ ((g1.trans g2).trans g3) ⟨R3.mm.put (m := .dic (dputK kvs key d)) hn ⟨_, upd_same, rk.put ((r1.up g2).up g3)⟩, R3.env⟩ q
/-! {k: v for ..} -/
def uDcGo (ug : DTG) (ut : DTT) (uk uv : DTE) (ρw : Rho) (chk : Mem → Prop) (fin : List (Key × D) → Mem → Prop) : List D → List (Key × D) → Mem → Prop
  | [], acc, μ => chk μ ∧ fin acc μ
  | d :: ds, acc, μ => chk μ ∧ ug d ρw μ (fun ρ1 μ1 => ut ρ1 μ1 (fun b μ2 => if b = true then uk ρ1 μ2 (fun y μ3 => uv ρ1 μ3 (fun z μ4 => ∃ k, dKey y = some k ∧ acc.length < 1000000 ∧ uDcGo ug ut uk uv ρw chk fin ds (dputK acc k z) μ4) XN) XN else uDcGo ug ut uk uv ρw chk fin ds acc μ2) XN) XN
def uDc (ui : DTI) (ug : DTG) (ut : DTT) (uk uv : DTE) (vs : List Nat) : DTE := fun ρ μ Q E => ui ρ μ (fun ds chk μ1 => uDcGo ug ut uk uv (wipeD ρ vs) chk (fun acc μ2 => Q (.ob μ2.length) (μ2 ++ [.dic acc])) ds [] μ1) E
theorem sim_dc {wi : TI} {ui : DTI} {g : TG} {ug : DTG} {tt : TT} {ut : DTT} {tk tv : TE} {uk uv : DTE} {vs : List Nat} (i : SimI K Ex wi ui) (gs : SimG K X0 g ug) (ts : SimT K X0 tt ut) (ks_ : Sim K X0 tk uk) (es : Sim K X0 tv uv) (wp : Wip g vs) (mono : Mono g) :
    Sim K Ex (tDc wi g tt tk tv vs) (uDc ui ug ut uk uv vs) := fun Z as F H σ ρ μ Q E Q' R X h k =>
  i Z as F H σ ρ μ _ E _ R X h fun J ds chk μ1 as1 F1 H1 g1 R1 it h1 => fun D nD => by
    have nZ : Z D = none := by
      cases e : Z D with
      | none => rfl
      | some o => have := (R1.mm.hid D o e).1; rw [nD] at this; cases this
    let fin : List (Key × DX.D) → Mem → Prop := fun acc μ2 => Q (.ob μ2.length) (μ2 ++ [.dic acc])
    have h1 : uDcGo ug ut uk uv (wipeD ρ vs) chk fin ds [] μ1 := h1
    refine ⟨fun i n H' => n = ds.length - i ∧ i ≤ ds.length ∧ ∃ as' F' μ' av acc, Gr as1 F1 as' F' ∧ RepK K as' F' av acc ∧ Mm K (upd Z D (.dK av)) as' F' H' μ' ∧ uDcGo ug ut uk uv (wipeD ρ vs) chk fin (ds.drop i) acc μ',
      ⟨ds.length, by simp, Nat.zero_le _, as1, F1, μ1, [], [], Gr.refl, .nil, R1.mm.hide nD, by rw [List.drop_zero]; exact h1⟩, ?_⟩
    rintro i n H' ⟨rfl, hi, as', F', μ', av, acc, g2, ra, M2, q⟩
    have ha := (M2.hid D _ upd_same).1
    by_cases hlt : i < ds.length
    · rw [List.drop_eq_getElem_cons hlt] at q
      obtain ⟨c, q⟩ := q
      refine .inr ⟨it.go _ i as' F' H' μ' g2 M2 c hlt, fun H3 => ∃ as3 F3 μ3 av acc, Gr as1 F1 as3 F3 ∧ RepK K as3 F3 av acc ∧ Mm K (upd Z D (.dK av)) as3 F3 H3 μ3 ∧ uDcGo ug ut uk uv (wipeD ρ vs) chk fin (ds.drop (i + 1)) acc μ3,
        fun H3 z => ⟨ds.length - (i + 1), by omega, rfl, hlt, z⟩, fun x H2 y => ?_⟩
      obtain ⟨F2, g3, M3, r3⟩ := it.yld _ i as' F' H' μ' x H2 _ g2 M2 c (List.getElem?_eq_getElem hlt) y
      have gA := g2.trans g3
      have R3 : Rp K (upd Z D (.dK av)) as' F2 H2 (L2.wipe σ vs) (wipeD ρ vs) μ' := ⟨M3, (R1.env.up gA).wipe vs⟩
      refine mono _ _ _ _ _ (fun σ2 H2 z => ?_) (wp _ _ _ _ (gs _ as' F2 H2 (L2.wipe σ vs) (wipeD ρ vs) μ' x _ _ XN (fun σ4 H4 => tt σ4 H4 fun b H5 => if b = true then tk σ4 H5 fun y H6 => tv σ4 H6 fun z H7 => ∃ a2 key, y = kV key ∧ H7 D = some (.dK a2) ∧ a2.length < sizeLine ∧ (∃ as3 F3 μ3 av acc, Gr as1 F1 as3 F3 ∧ RepK K as3 F3 av acc ∧ Mm K (upd Z D (.dK av)) as3 F3 (upd H7 D (.dK (putK a2 key z))) μ3 ∧ uDcGo ug ut uk uv (wipeD ρ vs) chk fin (ds.drop (i + 1)) acc μ3)
          else ∃ as3 F3 μ3 av acc, Gr as1 F1 as3 F3 ∧ RepK K as3 F3 av acc ∧ Mm K (upd Z D (.dK av)) as3 F3 H5 μ3 ∧ uDcGo ug ut uk uv (wipeD ρ vs) chk fin (ds.drop (i + 1)) acc μ3) R3 XL.no r3 q fun σ4 ρ4 μ4 as4 F4 H4 g4 R4 q4 => ?_))
      · exact ⟨z.1.trans (wipe_wipe σ vs), z.2⟩
      · refine ts _ as4 F4 H4 σ4 ρ4 μ4 _ XN _ R4 XL.no q4 fun b μ5 as5 F5 H5 g5 R5 q5 => ?_
        have gB := (gA.trans g4).trans g5
        have rB := ((ra.up g3).up g4).up g5
        cases b with
        | false =>
          rw [if_neg Bool.false_ne_true] at q5 ⊢
          exact ⟨as5, F5, μ5, av, acc, gB, rB, R5.mm, q5⟩
        | true =>
          rw [if_pos rfl] at q5 ⊢
          refine ks_ _ as5 F5 H5 σ4 ρ4 μ5 _ XN _ R5 XL.no q5 fun w0 d0 μ60 as60 F60 H60 g60 R60 r60 q60 => ?_
          refine es _ as60 F60 H60 σ4 ρ4 μ60 _ XN _ R60 XL.no q60 fun w d6 μ6 as6 F6 H6 g6 R6 r6 q6 => ?_
          have rC := (rB.up g60).up g6
          obtain ⟨key, ek, hl, q7⟩ := q6
          refine ⟨av, key, rep_key r60 ek, (R6.mm.hid D _ upd_same).1, ?_, as6, F6, μ6, putK av key w, dputK acc key d6, (gB.trans g60).trans g6, rC.put r6, R6.mm.rehide, q7⟩
          rw [rC.len]
          exact Nat.lt_of_lt_of_le hl (by decide)
    · have e : ds.drop i = [] := List.drop_eq_nil_of_le (by omega)
      rw [e] at q
      obtain ⟨c, q⟩ := q
      refine .inl ⟨it.stop _ i as' F' H' μ' g2 M2 c (by omega), ?_⟩
      have gA := g1.trans g2
      have M4 := M2.showM (m := .dic acc) nZ ⟨av, ha, ra.up Gr.add⟩
      exact k _ _ _ _ F' H' (gA.trans Gr.add) ⟨M4, R1.env.up (g2.trans Gr.add)⟩ (rep_ob M2.len) q
end
section
variable {X : Cx} {K : PySem.W.Frag} {Ex : L2.St → XK} {pos pos' apos cpos : Pos} {a b o i e : Expr} {to ti te : TE} {uo ui ue : DTE} {tg : Expr} {g : TG} {ug : DTG}
theorem d_dnew : PD X K Ex (.Dict [] [] pos) tDNewK uDNew := ⟨pe_dnewK, sim_dnew⟩
theorem d_dget (hu : X.A.units + 1 < cLine) (ho : PD X K Ex o to uo) (hi : PD X K Ex i ti ui) (hs : NoSl i := by exact fun _ _ => rfl) : PD X K Ex (.Subscript o i pos) (tDGet to ti) (uDGet uo ui) := ⟨pe_dget hu ho.pe hi.pe hs, sim_dget ho.sim hi.sim⟩
theorem d_dget1 (hu : X.A.units + 1 < cLine) (ho : PD X K Ex o to uo) (he : PD X K Ex e te ue) (m : M1 X o "get" apos e cpos := by exact ⟨rfl, rfl, rfl, rfl⟩) : PD X K Ex (.Call (.Attribute o "get" apos) [e] [] cpos) (tDGet1 to te) (uDGet1 uo ue) := ⟨pe_dget1 hu ho.pe he.pe m, sim_dget1 ho.sim he.sim⟩
theorem s_dput (hu : X.A.units + 1 < cLine) (ho : PD X K Ex o to uo) (hi : PD X K Ex i ti ui) (he : PD X K Ex e te ue) (hs : swapsWith e (some (.Subscript o i pos')) pos.line X.env = pure false := by rfl) : SD X K Ex (.Assign [.Subscript o i pos'] e pos) (sDPut to ti te) (uDPut uo ui ue) := ⟨ps_dput hu ho.pe hi.pe he.pe hs, sim_dput ho.sim hi.sim he.sim⟩
theorem d_dc {kx vx iter : Expr} {ifs : List Expr} {scope : Scope} (own : List (Str × Nat)) {wi : TI} {uw : DTI} {tt : TT} {ut : DTT} {tk tv : TE} {uk uv : DTE} (hN : X.N.Nodup) (hi : ID X K Ex tg iter wi uw) (ok : BlkOk X.N X.env.scope scope own)
    (hg : ∀ (s : Shared) (H : Hp) (C : Addr) (cl : List (Str × Addr)) (fp : List Addr), GD (X.blk s H scope (compEnvC scope cl C X.env) fp) K X0 tg g ug) (ht : ∀ (s : Shared) (H : Hp) (C : Addr) (cl : List (Str × Addr)) (fp : List Addr), TsD (X.blk s H scope (compEnvC scope cl C X.env) fp) K X0 ifs tt ut)
    (hk : ∀ (s : Shared) (H : Hp) (C : Addr) (cl : List (Str × Addr)) (fp : List Addr), PD (X.blk s H scope (compEnvC scope cl C X.env) fp) K X0 kx tk uk) (he : ∀ (s : Shared) (H : Hp) (C : Addr) (cl : List (Str × Addr)) (fp : List Addr), PD (X.blk s H scope (compEnvC scope cl C X.env) fp) K X0 vx tv uv)
    (wp : Wip g (own.map (·.2))) (mn : Mono g) (hc : X.calm = true := by rfl) (hs : ∀ x, foldedSetIterable iter X.env x = pure x := by intro _; rfl) :
    PD X K Ex (.DictComp kx vx [⟨tg, iter, ifs, 0⟩] scope pos) (tDc wi g tt tk tv (own.map (·.2))) (uDc uw ug ut uk uv (own.map (·.2))) :=
  ⟨pe_dc hc hN hi.pe ok (fun s H C cl fp => (hg s H C cl fp).pe) (fun s H C cl fp => (ht s H C cl fp).pe) (fun s H C cl fp => (hk s H C cl fp).pe) (fun s H C cl fp => (he s H C cl fp).pe) hs,
    sim_dc hi.sim (hg X.s_0 (fun _ => none) 0 [] []).sim (ht X.s_0 (fun _ => none) 0 [] []).sim (hk X.s_0 (fun _ => none) 0 [] []).sim (he X.s_0 (fun _ => none) 0 [] []).sim wp mn⟩
end
end DX
set_option Elab.async false
set_option linter.all false
set_option maxRecDepth 100000
set_option maxHeartbeats 4000000
namespace DX
open PySem PySem.Spec PyProof.Rows L2
/-! ### sorted ints, [::-1], remove, tuples of ints in order -/
section
variable {K : PySem.W.Frag} {Z : Hp} {as as' as1 : List Addr} {F F' F1 H H' H1 : Hp} {Ex : L2.St → XK}
theorem new_ints {μ : Mem} (M : Mm K Z as F H μ) {ns : List Int} {Q : D → Mem → Prop} {Q' : VK} {p : Addr} (np : H p = none) (q : Q (.lst (ns.map .int)) μ)
    (k : ∀ v d' μ' as' F' H', Gr as F as' F' → Mm K Z as' F' H' μ' → Rep K as' F' v d' → Q d' μ' → Q' v H') : Q' (.ref p) (upd H p (.lst (ns.map V.int))) :=
  have g := Gr.upd (as := as) (o := .lst (ns.map V.int)) (M.newF np)
  k _ _ μ as _ _ g (M.addF np) (.lst upd_same ((rep_ints ns).up g)) q
def dSorted : DC := one fun x μ Q => ∃ ns : List Int, view μ x = .lst (ns.map .int) ∧ ∀ ns' : List Int, ns'.Perm ns → ns'.Pairwise (· ≤ ·) → Q (.lst (ns'.map .int)) μ
theorem sim_sorted : SimC K (rSortedI K) dSorted := simC_one fun Z as F H μ v d Q Q' M r z k => by
  obtain ⟨ns, e, z⟩ := z
  obtain ⟨a, vs, rfl, q, x⟩ := view_lst M r e
  cases ints_rep x
  exact ⟨a, ns, rfl, q, fun ns' p hp ho np => new_ints M np (z ns' hp ho) k⟩
theorem call_sortedA {X : Cx} (hK : X.K = K) : CallR X (.builtin "sorted") (rSortedI K) := hK ▸ cr_sortedI
def uSortKw (b : Bool) (u : DTA) (uk : DTA) : DTE := fun ρ μ Q E => u ρ μ (fun ds μ1 => uk ρ μ1 (fun zs μ2 => zs = [.bl b] ∧ ∃ x, ds = [x] ∧ ∃ ns : List Int, view μ2 x = .lst (ns.map .int) ∧ ∀ ns' : List Int, ns'.Perm ns → OrdB b ns' → Q (.lst (ns'.map .int)) μ2) E) E
theorem sim_sortKw {b : Bool} {t tk : TA} {u uk : DTA} (a : SimA K Ex t u) (c : SimA K Ex tk uk) : Sim K Ex (tCKw (rSortedKw K b [.bl b]) t tk) (uSortKw b u uk) := fun Z as F H σ ρ μ Q E Q' R X h k =>
  a Z as F H σ ρ μ _ E _ R X h fun vs ds μ1 as1 F1 H1 g1 R1 r1 h1 => c Z as1 F1 H1 σ ρ μ1 _ E _ R1 (X.up g1) h1 fun ws zs μ2 as2 F2 H2 g2 R2 r2 h2 => by
    obtain ⟨rfl, x, rfl, ns, e, z⟩ := h2
    cases r1 with
    | cons ra rb =>
      cases rb
      cases r2 with
      | cons rc rd =>
        cases rd
        cases rc
        obtain ⟨p, us, rfl, q, y⟩ := view_lst R2.mm (ra.up g2) e
        cases ints_rep y
        exact ⟨p, ns, rfl, rfl, q, fun ns' p hp ho np => new_ints R2.mm np (z ns' hp ho) fun v d' μ' as' F' H' g M r q => k v d' μ' as' F' H' ((g1.trans g2).trans g) (R2.up g M) r q⟩
def uRev (u : DTE) : DTE := fun ρ μ Q E => u ρ μ (fun x μ1 => ∃ ds, view μ1 x = .lst ds ∧ Q (.lst ds.reverse) μ1) E
theorem sim_rev {t : TE} {u : DTE} (a : Sim K Ex t u) : Sim K Ex (tRevL K t) (uRev u) := fun Z as F H σ ρ μ Q E Q' R X h k =>
  a Z as F H σ ρ μ _ E _ R X h fun v d μ1 as1 F1 H1 g1 R1 r1 h1 => by
    obtain ⟨ds, e, q⟩ := h1
    obtain ⟨p, vs, rfl, hq, x⟩ := view_lst R1.mm r1 e
    refine ⟨p, vs, rfl, hq, fun l nl => ?_⟩
    have g := Gr.upd (as := as1) (o := .lst vs.reverse) (R1.mm.newF nl)
    exact k _ _ μ1 as1 _ _ (g1.trans g) (R1.up g (R1.mm.addF nl)) (.lst upd_same (x.up g).reverse) q
def dRemove : DM := fun x ds μ Q => match x, ds with
  | .ob n, [.int i] => ∃ (ns : List Int) (j : Nat), μ[n]? = some (.lst (ns.map .int)) ∧ ns[j]? = some i ∧ (∀ m : Nat, m < j → ns[m]? ≠ some i) ∧ Q .non (μ.set n (.lst ((ns.eraseIdx j).map .int)))
  | _, _ => False
theorem sim_remove : SimM K rRemI dRemove := fun Z as F H μ v d vs ds Q Q' M r rs z k => by
  unfold dRemove at z
  split at z
  · rename_i n i
    obtain ⟨ns, j, e, e2, e3, q⟩ := z
    cases r
    rename_i a hn
    match vs, rs with
    | _, .cons (.int _) .nil =>
      obtain ⟨b, hb, y⟩ := M.at_ n _ e
      obtain rfl := Option.some.inj (hn.symm.trans hb)
      obtain ⟨us, u1, u2⟩ := y
      cases ints_rep u2
      refine ⟨a, ns, i, j, rfl, rfl, u1, e2, e3, ?_⟩
      exact k _ _ _ as F _ Gr.refl (M.put (m := .lst ((ns.eraseIdx j).map .int)) hn ⟨_, upd_same, rep_ints _⟩) .non q
  · exact z.elim
def dLtT : DR2 := fun x y μ Q => ∃ ns ms : List Int, view μ x = .tup (ns.map .int) ∧ view μ y = .tup (ms.map .int) ∧ Q (.bl (HT.lexLt ns ms)) μ
theorem sim_ltT : SimR K (rLtT K) dLtT := fun Z as F H μ x y d e Q Q' M rx ry z k => by
  obtain ⟨ns, ms, e1, e2, q⟩ := z
  obtain ⟨a, vs, rfl, h1, x1⟩ := view_tup M rx e1
  obtain ⟨b, us, rfl, h2, x2⟩ := view_tup M ry e2
  cases ints_rep x1
  cases ints_rep x2
  exact ⟨a, b, ns, ms, rfl, rfl, h1, h2, k _ _ μ as F H Gr.refl M (.bl _) q⟩
theorem op_ltTA {X : Cx} (hu : X.A.units < cLine) (hK : X.K = K) : OpR X (compareOp .Lt) (rLtT K) := hK ▸ op_ltT hu
end
structure KD (X : Cx) (K : PySem.W.Frag) (Ex : L2.St → XK) (kws : List Keyword) (t : TA) (u : DTA) : Prop where
  pe : PK X kws t
  sim : SimA K Ex t u
section
variable {X : Cx} {K : PySem.W.Frag} {Ex : L2.St → XK} {pos p ps : Pos} {e : Expr} {es : List Expr} {kws : List Keyword} {te : TE} {ue : DTE} {t tk : TA} {u uk : DTA} {x : Str}
theorem k_nil : KD X K Ex [] tNil uNil := ⟨pk_nil, sim_nil⟩
theorem k_cons {nm : Option Str} {kpos : Pos} (h : PD X K Ex e te ue) (r : KD X K Ex kws t u) : KD X K Ex (⟨nm, e, kpos⟩ :: kws) (tCons te t) (uCons ue u) := ⟨pk_cons h.pe r.pe, sim_cons h.sim r.sim⟩
theorem d_rev {k : Nat} {p1 p2 p3 : Pos} (h : PD X K Ex e te ue) (hK : X.K = K := by rfl) : PD X K Ex (.Subscript e (.Slice none none (some (.UnaryOp .USub (.Constant (.int 1) k p1) p2)) p3) pos) (tRevL K te) (uRev ue) := by
  subst hK
  exact ⟨pe_revL h.pe, sim_rev h.sim⟩
theorem d_sortKw {b : Bool} (hm : X.mg "sorted" = none) (ha : AD X K Ex (e :: es) t u) (hk : KD X K Ex kws tk uk) (hK : X.K = K := by rfl) (hg : Gl X "sorted" := by rfl)
    (he : backTo pos (starEach (e :: es) X.env) = (false, eval e X.env) :: backTo pos (starEach es X.env) := by rfl) (hpl : (backTo pos (starEach (e :: es) X.env)).any (·.1) = false := by rfl)
    (hall : (backToKw pos (keywordEach kws X.env)).all (·.1.isSome) = true := by rfl) (hnone : (backToKw pos (keywordEach kws X.env)).any (·.1.isNone) = false := by rfl) (hks : (backToKw pos (keywordEach kws X.env)).filterMap (·.1) = [Str.ofString "reverse"] := by rfl) :
    PD X K Ex (.Call (.Name "sorted" p) (e :: es) kws pos) (tCKw (rSortedKw K b [.bl b]) t tk) (uSortKw b u uk) := by
  subst hK
  exact ⟨pe_callBK cr_sortedRev hg hm (by decide +kernel) ha.pe hk.pe (by decide) (by decide) he hpl hall hnone hks, sim_sortKw ha.sim hk.sim⟩
end
end DX
set_option Elab.async false
set_option linter.all false
set_option maxRecDepth 100000
set_option maxHeartbeats 4000000
namespace DX
open PySem PySem.Spec PyProof.Rows L2
/-! ### xs[i] op= y -/
def rGetN : V → V → Hp → VK → Prop := fun o i H Q => ∃ (p : Addr) (xs : List V) (j : Nat) (z : V), o = .ref p ∧ i = .int (j : Nat) ∧ H p = some (.lst xs) ∧ xs[j]? = some z ∧ Q z H
theorem pget_list {X : Cx} : PGet X rGetN := by
  intro pins s σ H o i ov iv Q I ro ri h
  obtain ⟨p, xs, j, z, rfl, rfl, hp, hz, q⟩ := h
  cases ro
  obtain ⟨t, rfl⟩ := ri
  obtain ⟨its, r, pl, hl⟩ := I.list (SqL.of hp)
  obtain ⟨w, ew, rw'⟩ := r.get hz
  have hn := line63
  have hlen := r.length
  have hj : j < xs.length := (List.getElem?_eq_some_iff.mp hz).1
  refine wpAny_getItem_list pl.isList (by omega) (by omega) (by rw [Int.toNat_natCast]; simpa using ew) ?_
  exact ⟨z, H, I, rw', q⟩
def uAugIx (uo ui ue : DTE) (dr : DR2) : DTS := fun De E ρ μ => uo ρ μ (fun o μ1 => ui ρ μ1 (fun i μ2 => ∃ n j xs d, o = .ob n ∧ i = .int (j : Nat) ∧ μ2[n]? = some (.lst xs) ∧ xs[j]? = some d ∧ ue ρ μ2 (fun y μ3 => dr d y μ3 fun z μ4 => ∃ ys, μ4[n]? = some (.lst ys) ∧ j < ys.length ∧ De.nx ρ (μ4.set n (.lst (ys.set j z)))) E) E) E
section
variable {K : PySem.W.Frag} {Z : Hp} {as as' as1 : List Addr} {F F' F1 H H' H1 : Hp} {Ex : L2.St → XK}
theorem lst_at {μ : Mem} (M : Mm K Z as F H μ) {v : V} {n : Nat} {ds : List D} (r : Rep K as F v (.ob n)) (h : μ[n]? = some (.lst ds)) : ∃ a vs, v = .ref a ∧ as[n]? = some a ∧ H a = some (.lst vs) ∧ RepL K as F vs ds := by
  cases r
  rename_i a q
  obtain ⟨b, hb, y⟩ := M.at_ n _ h
  obtain rfl := Option.some.inj (q.symm.trans hb)
  obtain ⟨vs, e1, e2⟩ := y
  exact ⟨a, vs, rfl, q, e1, e2⟩
theorem sim_augIx {to ti te : TE} {uo ui ue : DTE} {r : TIp} {dr : DR2} (a : Sim K Ex to uo) (b : Sim K Ex ti ui) (c : Sim K Ex te ue) (s : SimR K r dr) : SimS K Ex (tAugS to ti te rGetN r rSetL) (uAugIx uo ui ue dr) := fun Z as F H σ ρ μ De E D' R X h kn kr kb kc =>
  a Z as F H σ ρ μ _ E _ R X h fun v1 d1 μ1 as1 F1 H1 g1 R1 r1 h1 => b Z as1 F1 H1 σ ρ μ1 _ E _ R1 (X.up g1) h1 fun v2 d2 μ2 as2 F2 H2 g2 R2 r2 h2 => by
    obtain ⟨n, j, xs, d, rfl, rfl, e1, e2, h3⟩ := h2
    obtain ⟨p, vs, rfl, hn, hp, x⟩ := lst_at R2.mm (r1.up g2) e1
    obtain ⟨w, w1, w2⟩ := x.get e2
    cases r2
    refine ⟨p, vs, j, w, rfl, rfl, hp, w1, c Z as2 F2 H2 σ ρ μ2 _ E _ R2 (X.up (g1.trans g2)) h3 fun v3 d3 μ3 as3 F3 H3 g3 R3 r3 h4 => ?_⟩
    refine s Z as3 F3 H3 μ3 w v3 d d3 _ _ R3.mm (w2.up g3) r3 h4 fun v4 d4 μ4 as4 F4 H4 g4 M4 r4 h5 => ?_
    obtain ⟨ys, e5, hj, q⟩ := h5
    have r1' : Rep K as4 F4 (.ref p) (.ob n) := ((r1.up g2).up g3).up g4
    obtain ⟨p', us, ep, hn4, hp4, x4⟩ := lst_at M4 r1' e5
    cases ep
    refine ⟨p, us, (j : Int), j, rfl, rfl, hp4, ixN_nat (by rw [x4.len]; exact hj), ?_⟩
    exact kn σ ρ _ as4 F4 _ (((g1.trans g2).trans g3).trans g4) ⟨M4.put (m := .lst (ys.set j d4)) hn4 ⟨_, upd_same, x4.set r4 j⟩, R3.env.up g4⟩ q
end
section
variable {X : Cx} {K : PySem.W.Frag} {Ex : L2.St → XK} {pos tpos : Pos} {o i e : Expr} {to ti te : TE} {uo ui ue : DTE} {op : Operator} {r : TIp} {dr : DR2}
theorem s_augIx (ho : PD X K Ex o to uo) (hi : PD X K Ex i ti ui) (he : PD X K Ex e te ue) (hp : PIp X op r) (s : SimR K r dr) (ha : ∀ ov iv new, augStore i ov iv new = (do holding [new, ov, iv] (setItem ov iv new); release [new, ov, iv] []; pure .next) := by intros; rfl) :
    SD X K Ex (.AugAssign (.Subscript o i tpos) op e pos) (tAugS to ti te rGetN r rSetL) (uAugIx uo ui ue dr) := ⟨ps_augS ho.pe hi.pe pget_list he.pe hp set_list ha, sim_augIx ho.sim hi.sim he.sim s⟩
end
end DX
set_option Elab.async false
set_option linter.all false
set_option maxRecDepth 100000
set_option maxHeartbeats 4000000
namespace DX
open PySem PySem.Spec PyProof.Rows L2
/-! ### list(range(n)) -/
def uLstRg (u : DTE) : DTE := fun ρ μ Q E => u ρ μ (fun x μ1 => ∃ n : Int, x = .int n ∧ -(2 ^ 62) ≤ n ∧ n ≤ 2 ^ 24 ∧ Q (.lst (dints 0 n.toNat)) μ1) E
theorem dints_map : ∀ (n : Nat) (lo : Int), dints lo n = (List.range n).map fun (i : Nat) => D.int (lo + (i : Int))
  | 0, _ => rfl
  | n + 1, lo => by
    rw [List.range_succ_eq_map, List.map_cons, List.map_map]
    show D.int lo :: dints (lo + 1) n = _
    rw [dints_map n (lo + 1)]
    congr 1
    · simp
    · refine List.map_congr_left fun i _ => ?_
      show D.int _ = D.int _
      congr 1
      show lo + 1 + (i : Int) = lo + ((i + 1 : Nat) : Int)
      omega
theorem sim_lstRg {K : PySem.W.Frag} {Ex : L2.St → XK} {t : TE} {u : DTE} (a : Sim K Ex t u) : Sim K Ex (tLstRg (tRg1 t)) (uLstRg u) := fun Z as F H σ ρ μ Q E Q' R X h k =>
  a Z as F H σ ρ μ _ E _ R X h fun v d μ1 as1 F1 H1 g1 R1 r1 h1 => by
    obtain ⟨n, rfl, h2, h3, q⟩ := h1
    cases r1
    refine ⟨n, rfl, ⟨by omega, by omega, h2, by omega, by omega⟩, fun p np => ?_⟩
    have g := Gr.upd (as := as1) (o := .lst (rgV 0 n)) (R1.mm.newF np)
    have x : RepL K as1 F1 (rgV 0 n) (dints 0 n.toNat) := by
      unfold rgV
      rw [Int.sub_zero, dints_map]
      exact (List.range n.toNat).rec (motive := fun l => RepL K as1 F1 (l.map fun i => V.int (0 + (i : Nat))) (l.map fun (i : Nat) => D.int (0 + (i : Int)))) .nil fun i l ih => .cons (.int _) ih
    exact k _ _ μ1 as1 _ _ (g1.trans g) (R1.up g (R1.mm.addF np)) (.lst upd_same (x.up g)) q
theorem d_lstRg {X : Cx} {K : PySem.W.Frag} {Ex : L2.St → XK} {p p2 pos pos2 : Pos} {a : Expr} {t : TE} {u : DTE} (hm : X.mg "list" = none) (hm2 : X.mg "range" = none) (h : PD X K Ex a t u) (hc : X.calm = true := by rfl) (hg : Gl X "list" := by rfl) (hg2 : Gl X "range" := by rfl)
    (na : starEach [a] X.env = (false, eval a X.env) :: starEach [] X.env := by rfl) (nb : starEach [.Call (.Name "range" p2) [a] [] pos2] X.env = (false, eval (.Call (.Name "range" p2) [a] [] pos2) X.env) :: starEach [] X.env := by rfl) :
    PD X K Ex (.Call (.Name "list" p) [.Call (.Name "range" p2) [a] [] pos2] [] pos) (tLstRg (tRg1 t)) (uLstRg u) := ⟨pe_listRg hc hg hm (prg_1 hg2 hm2 h.pe na) nb, sim_lstRg h.sim⟩
end DX
set_option Elab.async false
set_option linter.all false
set_option maxRecDepth 100000
set_option maxHeartbeats 4000000
namespace DX
open PySem PySem.Spec PyProof.Rows L2
/-! ### x = {k: v for ..} -/
section
variable {X : Cx}
theorem ps_setDc {i : Nat} {y : Str} {py : Pos} {kx vx tg iter : Expr} {ifs : List Expr} {scope : Scope} {own : List (Str × Nat)} {pos spos : Pos} {wi : TI} {g : TG} {tt : TT} {tk tv : TE} (hc : X.calm = true) (hN : X.N.Nodup) (hy : X.N[i]? = some y) (hyl : X.env.scope.names.lookup y = some .local)
    (hsw : swapsWith (.DictComp kx vx [⟨tg, iter, ifs, 0⟩] scope pos) (some (.Name y py)) spos.line X.env = pure true) (hi : PI X tg iter wi) (ok : BlkOk X.N X.env.scope scope own)
    (hg : ∀ (s : Shared) (H : Hp) (C : Addr) (cl : List (Str × Addr)) (fp : List Addr), PG (X.blk s H scope (compEnvC scope cl C X.env) fp) tg g) (ht : ∀ (s : Shared) (H : Hp) (C : Addr) (cl : List (Str × Addr)) (fp : List Addr), PTs (X.blk s H scope (compEnvC scope cl C X.env) fp) ifs tt)
    (hk : ∀ (s : Shared) (H : Hp) (C : Addr) (cl : List (Str × Addr)) (fp : List Addr), PE (X.blk s H scope (compEnvC scope cl C X.env) fp) kx tk)
    (he : ∀ (s : Shared) (H : Hp) (C : Addr) (cl : List (Str × Addr)) (fp : List Addr), PE (X.blk s H scope (compEnvC scope cl C X.env) fp) vx tv) (hs : ∀ x, foldedSetIterable iter X.env x = pure x := by intro _; rfl) :
    PS X (.Assign [.Name y py] (.DictComp kx vx [⟨tg, iter, ifs, 0⟩] scope pos) spos) (tAsg (tDc wi g tt tk tv (own.map (·.2))) (gName i)) := by
  refine ⟨fun pins s σ H D I h => ?_⟩
  rw [exec_Assign_Name_used _ _ _ _ hsw]
  refine wpAny_bind (wpAny_standAt (wpAny_bind ?_))
  show wpAny _ X.A (do let _ ← comprehension (.DictComp kx vx [⟨tg, iter, ifs, 0⟩] scope pos) scope X.env (firstIterPos [⟨tg, iter, ifs, 0⟩] pos) newDict false (eval iter X.env) (some (assign (.Name y py) X.env))) _ _ s
  have h : tDc wi g tt tk tv (own.map (·.2)) σ H (fun x H1 => gName i x σ H1 D.nx) := h
  refine wpAny_bind (thn (dc_core (Qf := fun _ s' => SP X pins D .next s') hc hN I hi ok hg ht hk he hs h fun L C s' m H' I' q hn f => ?_) fun _ s' hq => wpAny_pure (wpAny_pure hq))
  show wpAny _ _ (assign (.Name y py) X.env (.ref L)) _ _ _
  refine wpAny_assign_Name (store_ok2 (v := V.ref L) I' hN hy (.inl hyl) rfl (fun s2 I2 ⟨a, sb, ha⟩ => ?_) (.inr hyl))
  obtain ⟨f0, f1, f2, f3, f4, f5⟩ := f
  have haC : C ≠ a := by
    rcases ha with z | z
    · rw [z]; exact f1
    · exact fun e => f4 y a z e.symm
  refine ⟨m, hn.sameBut sb haC, fun h3 sb3 => ?_⟩
  exact ⟨_, H', I2.turned (t' := s2.toks) (fun b o hb e => (sb3.2 b hb).trans e) f0 f1 f3 f4 f5, q⟩
theorem sw_trueD {kx vx : Expr} {gs : List Comprehension} {scope : Scope} {pos py : Pos} {y : Str} {l : Nat} {env : Env} (hk : env.scope.kind = .function) (hy : env.scope.names.lookup y = some .local) (hl : (py.line == pos.line) = true)
    (ha : (scope.names.any fun (n, k) => n == y && (k == .local || k == .cell)) = false) : swapsWith (.DictComp kx vx gs scope pos) (some (.Name y py)) l env = pure true := by
  have ky : env.kindOf y = some .local := hy
  have hb : env.blockKind = .function := by unfold Env.blockKind; rw [hk]; rfl
  unfold swapsWith
  simp only [hb, ky, ha, Expr.pos, hl]
  rfl
end
section
variable {X : Cx} {K : PySem.W.Frag} {Ex : L2.St → XK} {pos py spos : Pos} {tg : Expr} {g : TG} {ug : DTG}
theorem s_setDc (i : Nat) {y : Str} {kx vx iter : Expr} {ifs : List Expr} {scope : Scope} (own : List (Str × Nat)) {wi : TI} {uw : DTI} {tt : TT} {ut : DTT} {tk tv : TE} {uk uv : DTE} (hN : X.N.Nodup) (hi : ID X K Ex tg iter wi uw) (ok : BlkOk X.N X.env.scope scope own)
    (hg : ∀ (s : Shared) (H : Hp) (C : Addr) (cl : List (Str × Addr)) (fp : List Addr), GD (X.blk s H scope (compEnvC scope cl C X.env) fp) K X0 tg g ug) (ht : ∀ (s : Shared) (H : Hp) (C : Addr) (cl : List (Str × Addr)) (fp : List Addr), TsD (X.blk s H scope (compEnvC scope cl C X.env) fp) K X0 ifs tt ut)
    (hk : ∀ (s : Shared) (H : Hp) (C : Addr) (cl : List (Str × Addr)) (fp : List Addr), PD (X.blk s H scope (compEnvC scope cl C X.env) fp) K X0 kx tk uk) (he : ∀ (s : Shared) (H : Hp) (C : Addr) (cl : List (Str × Addr)) (fp : List Addr), PD (X.blk s H scope (compEnvC scope cl C X.env) fp) K X0 vx tv uv)
    (wp : Wip g (own.map (·.2))) (mn : Mono g) (hsw : swapsWith (.DictComp kx vx [⟨tg, iter, ifs, 0⟩] scope pos) (some (.Name y py)) spos.line X.env = pure true)
    (hyl : X.env.scope.names.lookup y = some .local := by rfl) (hy : X.N[i]? = some y := by rfl) (hc : X.calm = true := by rfl) (hs : ∀ x, foldedSetIterable iter X.env x = pure x := by intro _; rfl) :
    SD X K Ex (.Assign [.Name y py] (.DictComp kx vx [⟨tg, iter, ifs, 0⟩] scope pos) spos) (tAsg (tDc wi g tt tk tv (own.map (·.2))) (gName i)) (uAsg (uDc uw ug ut uk uv (own.map (·.2))) (uGName i)) :=
  ⟨ps_setDc hc hN hy hyl hsw hi.pe ok (fun s H C cl fp => (hg s H C cl fp).pe) (fun s H C cl fp => (ht s H C cl fp).pe) (fun s H C cl fp => (hk s H C cl fp).pe) (fun s H C cl fp => (he s H C cl fp).pe) hs,
    sim_asg (sim_dc hi.sim (hg X.s_0 (fun _ => none) 0 [] []).sim (ht X.s_0 (fun _ => none) 0 [] []).sim (hk X.s_0 (fun _ => none) 0 [] []).sim (he X.s_0 (fun _ => none) 0 [] []).sim wp mn) (sim_gName i)⟩
end
end DX
set_option Elab.async false
set_option linter.all false
set_option maxRecDepth 100000
set_option maxHeartbeats 4000000
namespace DX
open PySem PySem.Spec PyProof.Rows L2
/-! ### stars, keywords -/
theorem ifb0 {c : Prop} {h : Decidable c} {a b : Prop} (x : c → a) (y : ¬ c → b) : @ite Prop c h a b := by
  by_cases z : c
  · rw [if_pos z]; exact x z
  · rw [if_neg z]; exact y z
/-! #### *e in a display or an argument list -/
def uStar (ue : DTE) (u : DTA) : DTA := fun ρ μ Q E => ue ρ μ (fun x μ1 => match view μ1 x with
  | .lst xs => u ρ μ1 (fun ys μ2 => Q (xs ++ ys) μ2) E
  | .tup xs => u ρ μ1 (fun ys μ2 => Q (xs ++ ys) μ2) E
  | _ => False) E
section
variable {K : PySem.W.Frag} {Z : Hp} {as as' as1 : List Addr} {F F' F1 H H' H1 : Hp} {Ex : L2.St → XK}
theorem sim_star {te : TE} {ue : DTE} {t : TA} {u : DTA} (a : Sim K Ex te ue) (b : SimA K Ex t u) : SimA K Ex (StX.tStar K te t) (uStar ue u) := fun Z as F H σ ρ μ Q E Q' R X h k =>
  a Z as F H σ ρ μ _ E _ R X h fun v d μ1 as1 F1 H1 g1 R1 r1 h1 => by
    have h1 : (match view μ1 d with | .lst xs => u ρ μ1 (fun ys μ2 => Q (xs ++ ys) μ2) E | .tup xs => u ρ μ1 (fun ys μ2 => Q (xs ++ ys) μ2) E | _ => False) := h1
    cases e : view μ1 d with
    | lst ds =>
      rw [e] at h1
      obtain ⟨p, vs, rfl, q, x⟩ := view_lst R1.mm r1 e
      exact ⟨p, vs, rfl, .inr q, b Z as1 F1 H1 σ ρ μ1 _ E _ R1 (X.up g1) h1 fun vs2 ds2 μ2 as2 F2 H2 g2 R2 r2 h2 => k _ _ μ2 as2 F2 H2 (g1.trans g2) R2 ((x.up g2).append r2) h2⟩
    | tup ds =>
      rw [e] at h1
      obtain ⟨p, vs, rfl, q, x⟩ := view_tup R1.mm r1 e
      exact ⟨p, vs, rfl, .inl q, b Z as1 F1 H1 σ ρ μ1 _ E _ R1 (X.up g1) h1 fun vs2 ds2 μ2 as2 F2 H2 g2 R2 r2 h2 => k _ _ μ2 as2 F2 H2 (g1.trans g2) R2 ((x.up g2).append r2) h2⟩
    | _ => rw [e] at h1; exact h1.elim
end
section
variable {X : Cx} {K : PySem.W.Frag} {Ex : L2.St → XK} {p : Pos} {e : Expr} {es : List Expr} {te : TE} {ue : DTE} {t : TA} {u : DTA}
theorem a_star (h : PD X K Ex e te ue) (r : AD X K Ex es t u) (hK : X.K = K := by rfl) (hs : starEach (.Starred e p :: es) X.env = (true, eval e X.env) :: starEach es X.env := by rfl) : AD X K Ex (.Starred e p :: es) (StX.tStar K te t) (uStar ue u) := by
  subst hK
  exact ⟨StX.pa_star h.pe r.pe hs, sim_star h.sim r.sim⟩
end
/-! #### a, *b = a tuple -/
def gStarT (K : PySem.W.Frag) (n i : Nat) (t : TGs) : TG := fun v σ H Q => ∃ a xs, v = .ref a ∧ SqT K H a xs ∧ i < n ∧ n ≤ xs.length + 1 ∧ xs.length ≤ 16384 ∧
  ∀ p, H p = none → t (xs.take i ++ [.ref p] ++ (xs.drop i).drop (xs.length + 1 - n)) σ (upd H p (.lst ((xs.drop i).take (xs.length + 1 - n)))) Q
section
variable {X : Cx} {es : List Expr} {k n i : Nat} {pos : Pos} {t : TGs}
theorem pgs_star {e : Expr} {es : List Expr} {p : Pos} {t : TG} {u : TGs} (h1 : PG X e t) (h2 : PGs X es u)
    (hs : (assignEach (.Starred e p :: es) X.env).map (·.2) = assign e X.env :: (assignEach es X.env).map (·.2) := by rfl) : PGs X (.Starred e p :: es) (gCons t u) := by
  refine ⟨fun pins s σ H vs us Q I r h => ?_⟩
  rw [hs]
  obtain ⟨v, vr, e1, h⟩ := h
  subst e1
  cases r with
  | cons ra rb =>
    refine wpAny_bind (wpAny_holding (thn (h1.run pins s σ H v _ _ I ra h) fun _ s1 ⟨σ1, H1, I1, q1⟩ => ?_))
    exact h2.run pins s1 σ1 H1 _ _ Q I1 rb q1
theorem vals_take : ∀ {vs : List V} {us : List Value} (j : Nat), Vals vs us → Vals (vs.take j) (us.take j)
  | _, _, 0, _ => .nil
  | _, _, _ + 1, .nil => .nil
  | _, _, j + 1, .cons a r => .cons a (vals_take j r)
theorem vals_drop : ∀ {vs : List V} {us : List Value} (j : Nat), Vals vs us → Vals (vs.drop j) (us.drop j)
  | _, _, 0, r => r
  | _, _, _ + 1, .nil => .nil
  | _, _, j + 1, .cons _ r => vals_drop j r
theorem pg_starT (hc : X.calm = true) (h : PGs X es t) (hn : (assignEach es X.env).length = n := by rfl) (hst : (assignEach es X.env).findIdx? (·.1) = some i := by rfl) : PG X (.Tuple es k pos) (gStarT X.K n i t) := by
  refine ⟨fun pins s σ H v u Q I r hw => ?_⟩
  obtain ⟨a, xs, e1, hq, hi, hnl, hz, hw⟩ := hw
  subst e1
  cases r
  obtain ⟨its, rv, ht, hz2⟩ := I.tuple hq
  have hl : IsTup s.heap a its.toArray := ht
  have hlen : its.length = xs.length := rv.length.symm
  have hlt : a ≠ s.heap.objs.size := by obtain ⟨o, ho, _⟩ := hl; exact Nat.ne_of_lt (Heap.lt_size ho)
  rw [assign_Tuple]
  refine wpAny_bind (wpAny_standAt ?_)
  unfold unpack
  rw [hn, hst]
  refine wpAny_bind (wpAny_holding ?_)
  unfold unpackItems
  refine wpAny_bind ?_
  unfold notIterableAtAll
  refine wpAny_bind (wpAny_specialOf hl.typeIs slot_tuple_iter.lookup ?_)
  refine wpAny_pure ?_
  simp only [Bool.false_eq_true, if_false]
  refine wpAny_bind (wpAny_holding (iter_tuple hl ?_))
  refine wpAny_bind (wpAny_holding (draw_tuple hlt i 0 _ _ ⟨_, Heap.get?_push_size _ rfl, rfl, rfl⟩ (hl.push _) (by simp only [List.size_toArray]; omega) fun h₁ hit₁ hs₁ => ?_))
  have hl₁ : IsTup h₁ a its.toArray := (hl.push _).extBut hs₁.extBut hlt
  rw [Nat.zero_add] at hit₁
  have hit₁' := hit₁
  obtain ⟨oi, hoi, _⟩ := hit₁'
  have hl₁' := hl₁
  obtain ⟨ol, hol, _⟩ := hl₁'
  rw [List.drop_zero]
  have hfl : (its.toArray.toList.take i).length = i := by rw [List.length_take, Array.length_toList, List.size_toArray]; omega
  rw [if_neg (show ¬ ((its.toArray.toList.take i).length < i) by rw [hfl]; omega)]
  refine wpAny_bind (wpAny_holding (PySem.W.kun_collect (s := { s with heap := h₁ }) (T := "tuple_iterator") (.inr (.inr (.inr rfl))) (Walks.tuple (A := X.A.in1) (I.ok.hd hc) s.heap.objs.size a hlt its.toArray) (fun j u st => st.1.typeIs) (k := i) (by simp only [List.size_toArray]; omega) ⟨hit₁, hl₁⟩ (Heap.lt_size hoi) (Heap.lt_size hol) (fun h₂ tk hk => ?_) (by rw [sizeLine_eq, List.size_toArray]; omega)))
  have hrl : (its.toArray.toList.drop i).length = its.length - i := by rw [List.length_drop, Array.length_toList, List.size_toArray]
  have hmid : (its.toArray.toList.drop i).length - (n - 1 - i) = xs.length + 1 - n := by rw [hrl]; omega
  show wpAny _ _ (if (its.toArray.toList.drop i).length < n - 1 - i then _ else _) _ _ _
  rw [if_neg (by rw [hrl]; omega)]
  show wpAny _ _ (newList ((its.toArray.toList.drop i).take ((its.toArray.toList.drop i).length - (n - 1 - i))) >>= fun d => pure (its.toArray.toList.take i ++ [d] ++ (its.toArray.toList.drop i).drop ((its.toArray.toList.drop i).length - (n - 1 - i)))) _ _ _
  rw [hmid]
  have he : ∀ b o, s.heap.get? b = some o → h₂.get? b = some o := fun b o e => hk b o (Nat.ne_of_lt (Heap.lt_size e)) (hs₁.extBut b o (Nat.ne_of_lt (Heap.lt_size e)) (Heap.get?_push_of_some _ e))
  have I1 : L2.Inv X pins σ H { s with heap := h₂, toks := tk } := I.kept he
  have e2 : its.toArray.toList = its := rfl
  rw [e2]
  have rt := vals_take (xs.length + 1 - n) (vals_drop i rv)
  have hf : H h₂.objs.size = none := I1.hok.fresh (Nat.le_refl _)
  refine wpAny_bind (wpAny_newList ?_ (by rw [List.length_take, List.length_drop, sizeLine_eq]; omega))
  refine wpAny_pure ?_
  have I2 : L2.Inv X pins σ (upd H h₂.objs.size (.lst ((xs.drop i).take (xs.length + 1 - n)))) { s with heap := h₂.push { cls := .type "list", data := .seq ((its.drop i).take (xs.length + 1 - n)).toArray }, toks := tk } :=
    I1.laid (t' := tk) (fun b u e => Heap.get?_push_of_some _ e) (Nat.le_refl _) ⟨by rw [List.length_take, List.length_drop, sizeLine_eq]; omega, _, 0, rt, Heap.get?_push_size _ rfl⟩
  exact h.run pins _ σ _ _ _ Q I2 (((vals_take i rv).append (show Vals [V.ref h₂.objs.size] [Value.ref h₂.objs.size] from .cons rfl .nil)).append (vals_drop (xs.length + 1 - n) (vals_drop i rv))) (hw _ hf)
end
def uStarT (n i : Nat) (w : DTGs) : DTG := fun d ρ μ Q E => match view μ d with
  | .tup ds => (i < n ∧ n ≤ ds.length + 1 ∧ ds.length ≤ 16384) ∧ w (ds.take i ++ [.lst ((ds.drop i).take (ds.length + 1 - n))] ++ (ds.drop i).drop (ds.length + 1 - n)) ρ μ Q E
  | _ => False
section
variable {K : PySem.W.Frag} {Ex : L2.St → XK}
theorem sim_starT {n i : Nat} {s : TGs} {w : DTGs} (b : SimGs K Ex s w) : SimG K Ex (gStarT K n i s) (uStarT n i w) := fun Z as F H σ ρ μ v d Q E Q' R X r h k => by
  have h : (match view μ d with | .tup ds => (i < n ∧ n ≤ ds.length + 1 ∧ ds.length ≤ 16384) ∧ w (ds.take i ++ [.lst ((ds.drop i).take (ds.length + 1 - n))] ++ (ds.drop i).drop (ds.length + 1 - n)) ρ μ Q E | _ => False) := h
  cases e : view μ d with
  | tup ds =>
    rw [e] at h
    obtain ⟨⟨h1, h2, h3⟩, h⟩ := h
    obtain ⟨p, vs, rfl, q, x⟩ := view_tup R.mm r e
    refine ⟨p, vs, rfl, q, h1, by rw [x.len]; exact h2, by rw [x.len]; exact h3, fun q hq => ?_⟩
    have g2 := Gr.upd (as := as) (o := .lst ((vs.drop i).take (vs.length + 1 - n))) (R.mm.newF hq)
    have x2 := x.up g2
    refine b Z as _ _ σ ρ μ _ _ Q E Q' (R.up g2 (R.mm.addF hq)) (X.up g2) ?_ h fun σ' ρ' μ' as' F' H' g => k σ' ρ' μ' as' F' H' (g2.trans g)
    rw [← x.len]
    exact ((x2.take i).append (.cons (.lst upd_same ((x2.drop i).take _)) .nil)).append ((x2.drop i).drop _)
  | _ => rw [e] at h; exact h.elim
end
section
variable {X : Cx} {K : PySem.W.Frag} {Ex : L2.St → XK}
theorem gs_star {e : Expr} {es : List Expr} {p : Pos} {t : TG} {u : DTG} {s : TGs} {w : DTGs} (h : GD X K Ex e t u) (r : GsD X K Ex es s w) (hs : (assignEach (.Starred e p :: es) X.env).map (·.2) = assign e X.env :: (assignEach es X.env).map (·.2) := by rfl) : GsD X K Ex (.Starred e p :: es) (gCons t s) (uGCons u w) := ⟨pgs_star h.pe r.pe hs, sim_gCons h.sim r.sim⟩
theorem g_starT (n i : Nat) {es : List Expr} {k : Nat} {pos : Pos} {s : TGs} {w : DTGs} (h : GsD X K Ex es s w) (hK : X.K = K := by rfl) (hc : X.calm = true := by rfl) (hn : (assignEach es X.env).length = n := by rfl) (hst : (assignEach es X.env).findIdx? (·.1) = some i := by rfl) : GD X K Ex (.Tuple es k pos) (gStarT K n i s) (uStarT n i w) := by
  subst hK
  exact ⟨pg_starT hc h.pe hn hst, sim_starT h.sim⟩
end
end DX
set_option Elab.async false
set_option linter.all false
set_option maxRecDepth 100000
set_option maxHeartbeats 4000000
namespace DX
open PySem PySem.Spec PyProof.Rows L2
/-! ### defs called by keywords, with a star parameter -/
/-- the def at f keeps sp, called by any values and by keywords named ks (their values behind the others) -/
def FnKC (P : Program) (w : World) (K : PySem.W.Frag) (mg : Str → Option Value) (base : Heap) (CX : CXT) (k : Nat) (f : Addr) (ks : List Str) (sp : Sp) : Prop :=
  ∀ (A : Around) (outer : List Env) (s : Shared) (H : Hp) (us ws : List Value) (vs zs : List V) (Q : VK) (E : XK), Gd.Calm0 A → Room k A → Env0 P w K mg base A outer s H → Vals vs us → Vals zs ws → zs.length = ks.length → sp (vs ++ zs) H Q E →
    codeAny (model P w) A (.call (.ref f) ⟨us, ks.zip ws⟩) (CR CX outer P w H s Q E) s
abbrev FnC (P : Program) (w : World) (K : PySem.W.Frag) (mg : Str → Option Value) (base : Heap) (k : Nat) (f : Addr) (ks : List Str) (S : DSp) : Prop := FnKC P w K mg base (L2.CX P w) k f ks (toSp K S)
/-- t looks the names up in the dict at D, one behind another, and goes on as r -/
def KwEnd {α : Type} (D : Addr) : List (Str × Value) → Sem α → Sem α → Prop
  | [], t, r => t = r
  | q :: l, t, r => ∃ (β γ : Type) (k1 : Option Value → Sem β) (k2 : β → Sem γ) (k3 : γ → Sem α) (a : β), t = ((nsGet D q.1 >>= k1) >>= k2) >>= k3 ∧ k1 (some q.2) = pure a ∧ KwEnd D l (k2 a >>= k3) r
theorem KwEnd.wp {α : Type} {K : PySem.W.Frag} {M : Model} {A : Around} {D : Addr} {Q : α → Shared → Prop} {E : Value → Shared → Prop} {s : Shared} (X : K.In s.heap) : ∀ {l : List (Str × Value)} {t r : Sem α}, (∀ q ∈ l, PySem.W.nsIn K D q.1 = some (some q.2)) → KwEnd D l t r → wpAny M A r Q E s → wpAny M A t Q E s
  | [], t, r, _, e, h => by
    have e : t = r := e
    rw [e]; exact h
  | q :: l, t, r, hl, e, h => by
    obtain ⟨β, γ, k1, k2, k3, a, e1, e2, e3⟩ := e
    have l1 : PySem.W.Looks M s.heap (nsGet D q.1 >>= k1) a := (PySem.W.looks_nsIn X (hl q (List.mem_cons_self ..))).andThen (PySem.W.Looks.of_pure e2)
    rw [e1, bind_assoc]
    exact wpAny_bind (l1.here (KwEnd.wp X (fun p hp => hl p (List.mem_cons_of_mem _ hp)) e3 h))
/-- what f(.., *v, k = .., ..) binds: ps ahead, kp by keyword (those named ks, then the lacking ones by mv), the rest in a new tuple -/
def BindS (P : Program) (w : World) (K : PySem.W.Frag) (fd : FuncData) (ps kp ks : List Str) (pv : Str) (mv : List Value) : Prop :=
  ∀ (us rest ws : List Value), us.length = ps.length → ws.length = ks.length → ∀ (A : Around) (s : Shared) (Q : List (Str × Value) → Shared → Prop) (E : Value → Shared → Prop), K.In s.heap →
    wpAny (model P w) A (newTuple rest) (fun t s' => Q (ps.zip us ++ kp.zip (ws ++ mv) ++ [(pv, t)]) s') E s → wpAny (model P w) A (bindArgs fd ⟨us ++ rest, ks.zip ws⟩) Q E s
theorem BindS.of {P : Program} {w : World} {K : PySem.W.Frag} {fd : FuncData} {ps kp ks : List Str} {pv : Str} {mv : List Value} {D : Addr} {l : List (Str × Value)} (hl : ∀ q ∈ l, PySem.W.nsIn K D q.1 = some (some q.2))
    (h : ∀ us rest ws : List Value, us.length = ps.length → ws.length = ks.length → KwEnd D l (bindArgs fd ⟨us ++ rest, ks.zip ws⟩) (newTuple rest >>= fun t => pure (ps.zip us ++ kp.zip (ws ++ mv) ++ [(pv, t)]))) : BindS P w K fd ps kp ks pv mv := fun us rest ws h1 h2 A s Q E X hq =>
  KwEnd.wp X hl (h us rest ws h1 h2) (wpAny_bind (wpAny_mono hq (fun _ _ z => wpAny_pure z) fun _ _ z => z))
section
variable {P : Program} {w : World} {K : PySem.W.Frag} {mg : Str → Option Value} {base : Heap} {k : Nat} {f : Addr} {fd : FuncData} {x qual : Str} {st : Stmt} {N ps kp ks : List Str} {pv : Str} {S : DSp}
theorem FnKC.fn {CX : CXT} {sp : Sp} (h : FnKC P w K mg base CX k f [] sp) : Gd.FnG P w K mg base CX k f sp := fun A outer s H us vs Q E g hr e0 r hsp =>
  h A outer s H us [] vs [] Q E g hr e0 r .nil rfl (by rw [List.append_nil]; exact hsp)
theorem FnKC.mono {CX : CXT} {sp : Sp} {j : Nat} (h : FnKC P w K mg base CX j f ks sp) (hj : j ≤ k) : FnKC P w K mg base CX k f ks sp := fun A outer s H us ws vs zs Q E g hr => h A outer s H us ws vs zs Q E g (hr.mono hj)
theorem repL_split {as : List Addr} {F : Hp} : ∀ {xs ys : List D} {vs : List V}, RepL K as F vs (xs ++ ys) → ∃ v1 v2, vs = v1 ++ v2 ∧ RepL K as F v1 xs ∧ RepL K as F v2 ys
  | [], _, vs, r => ⟨[], vs, rfl, .nil, r⟩
  | _ :: xs, ys, _, .cons a r => by
    obtain ⟨v1, v2, rfl, r1, r2⟩ := repL_split (xs := xs) (ys := ys) r
    exact ⟨_ :: v1, v2, rfl, .cons a r1, r2⟩
/-- what a def with a star parameter is given: n values, the rest, m keywords' values; md the lacking ones' -/
def starS (n m : Nat) (md : List D) (S : DSp) : DSp := fun ds μ Q E => ∃ pd rest kd, ds = pd ++ rest ++ kd ∧ pd.length = n ∧ kd.length = m ∧ rest.length ≤ 1000 ∧ S (pd ++ (kd ++ md) ++ [.tup rest]) μ Q E
/-- def f(a, .., *v, k = .., ..) by its body -/
theorem okS {mv : List Value} {mw : List V} {md : List D} (Fu : DefAt K x qual st f fd) (Sc : FnScope N (ps ++ kp ++ [pv]) (defScope st)) (hkp : ks.length + mw.length = kp.length) (rmv : Vals mw mv) (rmd : ∀ as F, RepL K as F mw md) (hb : BindS P w K fd ps kp ks pv mv) (u : DTS)
    (body : ∀ (cdv : Value) (A : Around) (outer : List Env) (s : Shared) (H : Hp) (E' : XK), Gd.Calm0 A → Room k (A.deeper (envOfC qual (defScope st) s.heap.objs.size f cdv)) →
      ∃ t, BD (cxOf (L2.CX P w) P w K mg base N qual (defScope st) f cdv A outer s H E') K (fun _ => E') (defBody st) t u)
    (read : ∀ ds μ Q E, S ds μ Q E → u { nx := fun _ μ' => FZ μ Q .non μ', rt := FZ μ Q } (FZE μ E) (startD N ds) μ) : FnC P w K mg base (k + 1) f ks (starS ps.length ks.length md S) := by
  intro A outer s H us ws vs zs Q E g hr e0 r rz lz hsp
  obtain ⟨oc, od, dV, kV, doc, pm, an, cdv, ct, osl, rfl, lk, hcd⟩ := Fu.ex
  obtain ⟨Z, as, F, ds, μ, Qd, Ed, rr, M, ⟨pd, rest, kd, rfl, hp, hk, hrl, hS⟩, kQ, kE⟩ := hsp
  obtain ⟨v12, v3, e1, r12, r3⟩ := repL_split rr
  obtain ⟨rfl, rfl⟩ := List.append_inj' e1 (by rw [lz, r3.len, hk])
  obtain ⟨v1, v2, rfl, r1, r2⟩ := repL_split r12
  obtain ⟨u1, u2, rfl, ru1, ru2⟩ := StX.vals_split r
  have KX : K.In s.heap := e0.mod.kin.keeps fun b o e => (e0.bs b o e).1
  have hn : H s.heap.objs.size = Option.none := e0.hok.fresh (Nat.le_refl _)
  have hl1 : u1.length = ps.length := by rw [← ru1.length, r1.len, hp]
  have hl3 : ws.length = ks.length := by rw [← rz.length, lz]
  have hz : v2.length ≤ sizeLine := by rw [r2.len]; exact le_line hrl
  have hl2 : u2.length ≤ sizeLine := by rw [← ru2.length]; exact hz
  refine StX.run_bnd lk hcd Sc hr e0 (G := fun xs H2 => ∃ p, H p = Option.none ∧ xs = v1 ++ (zs ++ mw) ++ [V.ref p] ∧ H2 = upd H p (.tup v2)) (fun A' Ex Q' h => ?_) fun s2 H2 xs ⟨p, hp', ex, eH⟩ hr' => ?_
  · refine hb u1 u2 ws hl1 hl3 A' s _ _ KX (wpAny_newTuple ?_ hl2)
    have new : ObjOk P w (upd H s.heap.objs.size (.tup v2)) (s.heap.push ({ cls := .type "tuple", data := .seq u2.toArray } : Obj)) s.heap.objs.size (.tup v2) := ⟨hz, u2, ru2, ⟨_, Heap.get?_push_size _ rfl, rfl, _, rfl⟩⟩
    have un := StX.un_laid (fs := frs outer) (s := s) (o := ({ cls := .type "tuple", data := .seq u2.toArray } : Obj)) (u := .tup v2) hn
    have rk : Vals (zs ++ mw) (ws ++ mv) := rz.append rmv
    have z := h _ _ (v1 ++ (zs ++ mw) ++ [V.ref s.heap.objs.size]) (u1 ++ (ws ++ mv) ++ [Value.ref s.heap.objs.size]) (StX.env0_laid e0 new) un rfl (fun e s' => StX.cxUp outer s H _ _ E e s' un (fun b o q => Heap.get?_push_of_some _ q) rfl) ((ru1.append rk).append (.cons rfl .nil))
      (by have := r1.len; simp only [List.length_append, List.length_singleton]; omega) ⟨_, hn, rfl, rfl⟩
    rw [List.zip_append (by rw [List.length_append, List.length_append, hl1, List.length_append, hl3, ← rmv.length, hkp]), List.zip_append (by rw [hl1])] at z
    exact z
  · subst ex eH
    obtain ⟨t, ht⟩ := body cdv A outer s2 (upd H p (.tup v2)) E g hr'
    refine ⟨t, ht.pe, ?_⟩
    have g2 := Gr.upd (as := as) (o := .tup v2) (M.newF hp')
    have rb : RepL K as (upd F p (.tup v2)) (v1 ++ (zs ++ mw) ++ [V.ref p]) (pd ++ (kd ++ md) ++ [.tup rest]) := ((r1.up g2).append ((r3.up g2).append (rmd _ _))).append (.cons (.tup upd_same (r2.up g2)) .nil)
    exact ht.sim Z as _ _ (L2.start N _) (startD N (pd ++ (kd ++ md) ++ [.tup rest])) μ _ _ _ ⟨M.addF hp', env_start rb⟩ (fze_end (M.addF hp') fun C gs dx μ' as' F' H' g => kE C gs dx μ' as' F' H' (g2.trans g)) (read _ μ Qd Ed hS)
      (fun σ' ρ' μ' as' F' H' g R q => fz_end (M.addF hp') (fun v d μ' as' F' H' g => kQ v d μ' as' F' H' (g2.trans g)) g R.mm .non q) (fun v d μ' as' F' H' g M' r q => fz_end (M.addF hp') (fun v d μ' as' F' H' g => kQ v d μ' as' F' H' (g2.trans g)) g M' r q) (fun _ _ _ _ _ _ _ _ z => z.elim) (fun _ _ _ _ _ _ _ _ z => z.elim)
/-- called by keywords, no star: g puts the values in the parameters' order -/
def BindK (K : PySem.W.Frag) (fd : FuncData) (ps ks : List Str) (n : Nat) (mv : List Value) (g : {α : Type} → List α → List α → List α → List α) : Prop :=
  ∀ (s : Shared) (us ws : List Value), K.In s.heap → us.length = n → ws.length = ks.length → BindsTo s fd ⟨us, ks.zip ws⟩ (ps.zip (g us ws mv))
def kwS (n m : Nat) (md : List D) (g : List D → List D → List D → List D) (S : DSp) : DSp := fun ds μ Q E => ∃ pd kd, ds = pd ++ kd ∧ pd.length = n ∧ kd.length = m ∧ S (g pd kd md) μ Q E
theorem FnB.kw {n : Nat} {mv : List Value} {mw : List V} {md : List D} {g : {α : Type} → List α → List α → List α → List α} (Fb : FnB P w K mg base k f fd ps S) (rmv : Vals mw mv) (rmd : ∀ as F, RepL K as F mw md) (hb : BindK K fd ps ks n mv g)
    (hg1 : ∀ {vs zs : List V} {us ws : List Value}, Vals vs us → Vals zs ws → vs.length = n → zs.length = ks.length → Vals (g vs zs mw) (g us ws mv)) (hg2 : ∀ {as : List Addr} {F : Hp} {vs zs : List V} {ds es : List D}, RepL K as F vs ds → RepL K as F zs es → vs.length = n → zs.length = ks.length → RepL K as F (g vs zs mw) (g ds es md)) :
    FnC P w K mg base k f ks (kwS n ks.length md g S) := by
  intro A outer s H us ws vs zs Q E gd hr e0 r rz lz hsp
  obtain ⟨Z, as, F, ds, μ, Qd, Ed, rr, M, ⟨pd, kd, rfl, hp, hk, hS⟩, kQ, kE⟩ := hsp
  obtain ⟨v1, v2, e1, r1, r2⟩ := repL_split rr
  obtain ⟨rfl, rfl⟩ := List.append_inj' e1 (by rw [lz, r2.len, hk])
  have KX : K.In s.heap := e0.mod.kin.keeps fun b o e => (e0.bs b o e).1
  have hv : vs.length = n := by rw [r1.len, hp]
  exact Fb.run A outer s H ⟨us, ks.zip ws⟩ (g us ws mv) (g vs zs mw) Q E gd hr e0 (hb s us ws KX (by rw [← r.length, hv]) (by rw [← rz.length, lz])) (hg1 r rz hv lz) ⟨Z, as, F, g pd kd md, μ, Qd, Ed, hg2 r1 r2 hv lz, M, hS, kQ, kE⟩
end
/-! #### C(.., k = .., ..) -/
def tMakeC (C : Addr) (m : Nat) (sp : Sp) (E : L2.St → XK) (t tk : TA) : TE := fun σ H Q => t σ H fun vs H1 => tk σ H1 fun zs H2 => zs.length = m ∧ ∀ y dy, H2 y = none → H2 dy = none → dy ≠ y → sp (.ref y :: (vs ++ zs)) (upd (upd H2 dy (.own y)) y (.ins C dy [])) (fun v H3 => v = .non ∧ Q (.ref y) H3) (E σ)
section
variable {X : Cx} {CX : CXT} {k : Nat} {f C : Addr} {ks : List Str} {sp : Sp} {E : L2.St → XK}
theorem run_makeC {pn : List (Addr × Obj)} {σ : L2.St} {H : Hp} {s : Shared} {Q : VK} {us ws : List Value} {vs zs : List V} (M : Mk X.K C f) (F : FnKC X.prog X.w X.K X.mg X.base CX k f ks sp) (g : Gd.Calm0 X.A) (hr : Room (k + 1) X.A) (hx : PassesAt CX X σ (E σ)) (I : L2.Inv X pn σ H s) (r : Vals vs us) (rz : Vals zs ws) (lz : zs.length = ks.length)
    (h : ∀ y dy, H y = Option.none → H dy = Option.none → dy ≠ y → sp (V.ref y :: (vs ++ zs)) (upd (upd H dy (.own y)) y (.ins C dy [])) (fun v H2 => v = .non ∧ Q (.ref y) H2) (E σ)) : wpAny (model X.prog X.w) X.A (call (.ref C) us (ks.zip ws)) (EP X pn σ Q) X.xe s := by
  have J : L2.Inv X pn σ _ _ := L2.Inv.made (C := C) I
  have r1 : Vals (V.ref (s.heap.objs.size + 1) :: vs) (Value.ref (s.heap.objs.size + 1) :: us) := Paired.cons rfl r
  have hq := h (s.heap.objs.size + 1) s.heap.objs.size (I.hok.fresh (Nat.le_succ _)) (I.hok.fresh Nat.le.refl) (Nat.ne_of_lt (Nat.lt_succ_self _))
  refine wpAny_call (make_map (f := f) I.kIn M.makes M.init (beq_iff_eq.mp M.fn) (codeAny_mono (F _ X.stack _ _ (Value.ref (s.heap.objs.size + 1) :: us) ws (V.ref (s.heap.objs.size + 1) :: vs) zs _ (E σ) (make_calm g) (hr.make C us (ks.zip ws)) (J.env0.make C us (ks.zip ws)) r1 rz lz hq) fun z s2 y => ?_))
  match z, y with
  | .error er, y => exact hx pn _ _ er s2 J y
  | .ok (.ret u), y =>
    obtain ⟨v, H3, J3, rv, ev, q⟩ := J.after y
    subst ev
    exact ⟨rv, .ref (s.heap.objs.size + 1), H3, J3, rfl, q⟩
end
section
variable {M : Model} {A : Around} {E : Value → Shared → Prop} {s : Shared}
theorem ks_callK {f : Value} {first : List Value} {pos : Pos} {Q : Value → Shared → Prop} {P : Heap → Prop} {args : List (Bool × Sem Value)} {kw : List (Option Str × Sem Value)} (hst : args.any (·.1) = true)
    (hk : ∀ h, P h → ∃ k, (k = Keeper.frame ∨ k = Keeper.machine ∨ k = Keeper.boundFrame) ∧ PySem.W.Looks M h (keeperOf f) k)
    (h : wpAny M A (evalArgs f true args kw) (fun a s₁ => P s₁.heap ∧ wpAny M A (call f (first ++ a.pos) a.kw) Q E s₁) E s) : wpAny M A (callWith pos f first args kw) Q E s := by
  unfold callWith
  refine wpAny_bind (wpAny_holding (wpAny_mono h (fun a s₁ h₁ => wpAny_bind (wpAny_standAt ?_)) fun _ _ x => x))
  obtain ⟨k, hk', L⟩ := hk _ h₁.1
  simp only [hst, Bool.true_or]
  refine wpAny_bind (L.here ?_)
  have tail : ∀ {t : Sem Value}, wpAny M A t Q E s₁ → wpAny M A (t >>= fun r => holding [r] point >>= fun _ => pure r) Q E s₁ :=
    fun ht => wpAny_bind (wpAny_mono ht (fun r s₂ hr => wpAny_bind (wpAny_holding (wpAny_point (wpAny_pure hr)))) fun _ _ x => x)
  have marked (mk : Value) : wpAny M A (callMarked mk f (first ++ a.pos) a.kw) Q E s₁ := by unfold callMarked; exact Calls.wpAny_keep h₁.2
  rcases hk' with rfl | rfl | rfl <;> dsimp only <;> first | exact tail (marked _) | exact tail (wpAny_operating h₁.2)
theorem callWith_SK {K : PySem.W.Frag} {env : Env} {pos : Pos} {f : Value} {first : List Value} {Q : Value → Shared → Prop} {h₀ : Heap} {e : Expr} {rest : List Expr} {kws : List Keyword} (_X : K.In h₀) (hk : PySem.W.keepIn K f = true) (hall : (backToKw pos (keywordEach kws env)).all (·.1.isSome) = true)
    (h : wpAny M A (spliced (backTo pos (starEach (e :: rest) env))) (fun vs s₁ => wpAny M A (evalAll ((backToKw pos (keywordEach kws env)).map (·.2)))
      (fun ks s₂ => K.In s₂.heap ∧ wpAny M A (call f (first ++ vs) (((backToKw pos (keywordEach kws env)).filterMap (·.1)).zip ks)) Q E s₂) E s₁) E s)
    (hst : (backTo pos (starEach (e :: rest) env)).any (·.1) = true := by rfl) (he : starEach (e :: rest) env = (false, eval e env) :: starEach rest env := by rfl) :
    wpAny M A (callWith pos f first (backTo pos (starEach (e :: rest) env)) (backToKw pos (keywordEach kws env))) Q E s :=
  ks_callK hst (PySem.W.keeps_K hk) (PyProof.Rows.evalArgs_kw2 hall h he)
end
section
variable {X : Cx} {k : Nat} {f C : Addr} {ks : List Str} {sp : Sp} {Ex : L2.St → XK} {x : Str} {p pos : Pos} {e : Expr} {es : List Expr} {kws : List Keyword} {t tk : TA}
theorem pe_makeC0 (M : Mk X.K C f) (F : FnKC X.prog X.w X.K X.mg X.base (L2.CX X.prog X.w) k f ks sp) (g : Gd.Calm0 X.A) (hr : Room (k + 1) X.A) (hg : Gl X x) (hm : X.mg x = some (.ref C)) (tkx : Tk X Ex) (hkw : PK X kws tk)
    (hall : (backToKw pos (keywordEach kws X.env)).all (·.1.isSome) = true := by rfl) (hks : (backToKw pos (keywordEach kws X.env)).filterMap (·.1) = ks := by rfl) (hdb : (x == ("__debug__" : Str)) = false := by decide)
    (hpl : ((backTo pos (starEach [] X.env)).any (·.1) || (backToKw pos (keywordEach kws X.env)).any (·.1.isNone)) = false := by rfl) :
    PE X (.Call (.Name x p) [] kws pos) (tMakeC C ks.length sp Ex tNil tk) := by
  refine ⟨fun pins s σ H Q I h => ?_⟩
  refine wpAny_Call_Name_kw (ld_glob I hg hm ?_ hdb)
  refine PySem.W.callWith_KW0 (h₀ := X.base) I.ok.mod.kin M.kp hall ?_ hpl
  refine thn (hkw.run pos pins s σ H _ I h) fun ws s2 ⟨zs, H2, I2, rz, l2, q2⟩ => ⟨I2.kIn, ?_⟩
  rw [hks]
  exact run_makeC (us := []) (vs := []) M F g hr (tk_pass tkx σ) I2 .nil rz l2 q2
theorem pe_makeC (M : Mk X.K C f) (F : FnKC X.prog X.w X.K X.mg X.base (L2.CX X.prog X.w) k f ks sp) (g : Gd.Calm0 X.A) (hr : Room (k + 1) X.A) (hg : Gl X x) (hm : X.mg x = some (.ref C)) (tkx : Tk X Ex) (ha : PA X (e :: es) t) (hkw : PK X kws tk)
    (hall : (backToKw pos (keywordEach kws X.env)).all (·.1.isSome) = true := by rfl) (hks : (backToKw pos (keywordEach kws X.env)).filterMap (·.1) = ks := by rfl) (hdb : (x == ("__debug__" : Str)) = false := by decide)
    (he : starEach (e :: es) X.env = (false, eval e X.env) :: starEach es X.env := by rfl) (hpl : ((backTo pos (starEach (e :: es) X.env)).any (·.1) || (backToKw pos (keywordEach kws X.env)).any (·.1.isNone)) = false := by rfl) :
    PE X (.Call (.Name x p) (e :: es) kws pos) (tMakeC C ks.length sp Ex t tk) := by
  refine ⟨fun pins s σ H Q I h => ?_⟩
  refine wpAny_Call_Name_kw (ld_glob I hg hm ?_ hdb)
  refine PySem.W.callWith_KW (h₀ := X.base) I.ok.mod.kin M.kp hall (thn (ha.run pos pins s σ H _ I h) fun us s1 ⟨vs, H1, I1, r, q⟩ => ?_) hpl he
  refine thn (hkw.run pos pins s1 σ H1 _ I1 q) fun ws s2 ⟨zs, H2, I2, rz, l2, q2⟩ => ⟨I2.kIn, ?_⟩
  rw [hks]
  exact run_makeC M F g hr (tk_pass tkx σ) I2 r rz l2 q2
theorem pe_makeCS (M : Mk X.K C f) (F : FnKC X.prog X.w X.K X.mg X.base (L2.CX X.prog X.w) k f ks sp) (g : Gd.Calm0 X.A) (hr : Room (k + 1) X.A) (hg : Gl X x) (hm : X.mg x = some (.ref C)) (tkx : Tk X Ex) (ha : PA X (e :: es) t) (hkw : PK X kws tk)
    (hall : (backToKw pos (keywordEach kws X.env)).all (·.1.isSome) = true := by rfl) (hks : (backToKw pos (keywordEach kws X.env)).filterMap (·.1) = ks := by rfl) (hdb : (x == ("__debug__" : Str)) = false := by decide)
    (he : starEach (e :: es) X.env = (false, eval e X.env) :: starEach es X.env := by rfl) (hst : (backTo pos (starEach (e :: es) X.env)).any (·.1) = true := by rfl) :
    PE X (.Call (.Name x p) (e :: es) kws pos) (tMakeC C ks.length sp Ex t tk) := by
  refine ⟨fun pins s σ H Q I h => ?_⟩
  refine wpAny_Call_Name_kw (ld_glob I hg hm ?_ hdb)
  refine callWith_SK (h₀ := X.base) I.ok.mod.kin M.kp hall (thn (ha.run pos pins s σ H _ I h) fun us s1 ⟨vs, H1, I1, r, q⟩ => ?_) hst he
  refine thn (hkw.run pos pins s1 σ H1 _ I1 q) fun ws s2 ⟨zs, H2, I2, rz, l2, q2⟩ => ⟨I2.kIn, ?_⟩
  rw [hks]
  exact run_makeC M F g hr (tk_pass tkx σ) I2 r rz l2 q2
end
def uMakeCM (C : Addr) (m : Nat) (S : DSp) (u uk : DTA) : DTE := fun ρ μ Q E => u ρ μ (fun ds μ1 => uk ρ μ1 (fun es μ2 => es.length = m ∧ dMakeM C S (ds ++ es) μ2 Q (E ρ)) E) E
def uMakeCF (C : Addr) (m : Nat) (S : DSp) (u uk : DTA) : DTE := fun ρ μ Q E => u ρ μ (fun ds μ1 => uk ρ μ1 (fun es μ2 => es.length = m ∧ dMakeF C S (ds ++ es) μ2 Q (E ρ)) E) E
section
variable {K : PySem.W.Frag} {Z : Hp} {as as' as1 : List Addr} {F F' F1 H H' H1 : Hp} {Ex : L2.St → XK}
theorem sim_makeCM {C : Addr} {m : Nat} {S : DSp} {t tk : TA} {u uk : DTA} (a : SimA K Ex t u) (b : SimA K Ex tk uk) : Sim K Ex (tMakeC C m (toSp K S) Ex t tk) (uMakeCM C m S u uk) := fun Z as F H σ ρ μ Q E Q' R X h k =>
  a Z as F H σ ρ μ _ E _ R X h fun vs ds μ1 as1 F1 H1 g1 R1 r1 h1 => b Z as1 F1 H1 σ ρ μ1 _ E _ R1 (X.up g1) h1 fun zs es μ2 as2 F2 H2 g2 R2 r2 h2 => ⟨by rw [r2.len]; exact h2.1, fun y dy ny nd ne =>
    sim_makeV R2 (X.up (g1.trans g2)) ((r1.up g2).append r2) true (by rw [if_pos rfl]; exact h2.2) (fun v d μ' as' F' H' g M r q => k v d μ' as' F' H' ((g1.trans g2).trans g) M r q) ny nd ne⟩
theorem sim_makeCF {C : Addr} {m : Nat} {S : DSp} {t tk : TA} {u uk : DTA} (a : SimA K Ex t u) (b : SimA K Ex tk uk) : Sim K Ex (tMakeC C m (toSp K S) Ex t tk) (uMakeCF C m S u uk) := fun Z as F H σ ρ μ Q E Q' R X h k =>
  a Z as F H σ ρ μ _ E _ R X h fun vs ds μ1 as1 F1 H1 g1 R1 r1 h1 => b Z as1 F1 H1 σ ρ μ1 _ E _ R1 (X.up g1) h1 fun zs es μ2 as2 F2 H2 g2 R2 r2 h2 => ⟨by rw [r2.len]; exact h2.1, fun y dy ny nd ne =>
    sim_makeV R2 (X.up (g1.trans g2)) ((r1.up g2).append r2) false (by rw [if_neg Bool.false_ne_true]; exact h2.2) (fun v d μ' as' F' H' g M r q => k v d μ' as' F' H' ((g1.trans g2).trans g) M r q) ny nd ne⟩
end
section
variable {X : Cx} {K : PySem.W.Frag} {Ex : L2.St → XK} {k : Nat} {f C : Addr} {ks : List Str} {S : DSp} {x : Str} {p pos : Pos} {e : Expr} {es : List Expr} {kws : List Keyword} {t tk : TA} {u uk : DTA}
theorem d_makeCF (M : Mk K C f) (F : FnC X.prog X.w K X.mg X.base k f ks S) (hm : X.mg x = some (.ref C)) (g : Gd.Calm0 X.A) (hr : Room (k + 1) X.A) (tkx : Tk X Ex) (ha : AD X K Ex (e :: es) t u) (hkw : KD X K Ex kws tk uk) (hK : X.K = K := by rfl) (hg : Gl X x := by rfl)
    (hall : (backToKw pos (keywordEach kws X.env)).all (·.1.isSome) = true := by rfl) (hks : (backToKw pos (keywordEach kws X.env)).filterMap (·.1) = ks := by rfl) (hdb : (x == ("__debug__" : Str)) = false := by decide)
    (he : starEach (e :: es) X.env = (false, eval e X.env) :: starEach es X.env := by rfl) (hpl : ((backTo pos (starEach (e :: es) X.env)).any (·.1) || (backToKw pos (keywordEach kws X.env)).any (·.1.isNone)) = false := by rfl) :
    PD X K Ex (.Call (.Name x p) (e :: es) kws pos) (tMakeC C ks.length (toSp K S) Ex t tk) (uMakeCF C ks.length S u uk) := by
  subst hK
  exact ⟨pe_makeC M F g hr hg hm tkx ha.pe hkw.pe hall hks hdb he hpl, sim_makeCF ha.sim hkw.sim⟩
theorem d_makeCM (M : Mk K C f) (F : FnC X.prog X.w K X.mg X.base k f ks S) (hm : X.mg x = some (.ref C)) (g : Gd.Calm0 X.A) (hr : Room (k + 1) X.A) (tkx : Tk X Ex) (ha : AD X K Ex (e :: es) t u) (hkw : KD X K Ex kws tk uk) (hK : X.K = K := by rfl) (hg : Gl X x := by rfl)
    (hall : (backToKw pos (keywordEach kws X.env)).all (·.1.isSome) = true := by rfl) (hks : (backToKw pos (keywordEach kws X.env)).filterMap (·.1) = ks := by rfl) (hdb : (x == ("__debug__" : Str)) = false := by decide)
    (he : starEach (e :: es) X.env = (false, eval e X.env) :: starEach es X.env := by rfl) (hpl : ((backTo pos (starEach (e :: es) X.env)).any (·.1) || (backToKw pos (keywordEach kws X.env)).any (·.1.isNone)) = false := by rfl) :
    PD X K Ex (.Call (.Name x p) (e :: es) kws pos) (tMakeC C ks.length (toSp K S) Ex t tk) (uMakeCM C ks.length S u uk) := by
  subst hK
  exact ⟨pe_makeC M F g hr hg hm tkx ha.pe hkw.pe hall hks hdb he hpl, sim_makeCM ha.sim hkw.sim⟩
theorem d_makeCM0 (M : Mk K C f) (F : FnC X.prog X.w K X.mg X.base k f ks S) (hm : X.mg x = some (.ref C)) (g : Gd.Calm0 X.A) (hr : Room (k + 1) X.A) (tkx : Tk X Ex) (hkw : KD X K Ex kws tk uk) (hK : X.K = K := by rfl) (hg : Gl X x := by rfl)
    (hall : (backToKw pos (keywordEach kws X.env)).all (·.1.isSome) = true := by rfl) (hks : (backToKw pos (keywordEach kws X.env)).filterMap (·.1) = ks := by rfl) (hdb : (x == ("__debug__" : Str)) = false := by decide)
    (hpl : ((backTo pos (starEach [] X.env)).any (·.1) || (backToKw pos (keywordEach kws X.env)).any (·.1.isNone)) = false := by rfl) :
    PD X K Ex (.Call (.Name x p) [] kws pos) (tMakeC C ks.length (toSp K S) Ex tNil tk) (uMakeCM C ks.length S uNil uk) := by
  subst hK
  exact ⟨pe_makeC0 M F g hr hg hm tkx hkw.pe hall hks hdb hpl, sim_makeCM sim_nil hkw.sim⟩
theorem d_makeCSF (M : Mk K C f) (F : FnC X.prog X.w K X.mg X.base k f ks S) (hm : X.mg x = some (.ref C)) (g : Gd.Calm0 X.A) (hr : Room (k + 1) X.A) (tkx : Tk X Ex) (ha : AD X K Ex (e :: es) t u) (hkw : KD X K Ex kws tk uk) (hK : X.K = K := by rfl) (hg : Gl X x := by rfl)
    (hall : (backToKw pos (keywordEach kws X.env)).all (·.1.isSome) = true := by rfl) (hks : (backToKw pos (keywordEach kws X.env)).filterMap (·.1) = ks := by rfl) (hdb : (x == ("__debug__" : Str)) = false := by decide)
    (he : starEach (e :: es) X.env = (false, eval e X.env) :: starEach es X.env := by rfl) (hst : (backTo pos (starEach (e :: es) X.env)).any (·.1) = true := by rfl) :
    PD X K Ex (.Call (.Name x p) (e :: es) kws pos) (tMakeC C ks.length (toSp K S) Ex t tk) (uMakeCF C ks.length S u uk) := by
  subst hK
  exact ⟨pe_makeCS M F g hr hg hm tkx ha.pe hkw.pe hall hks hdb he hst, sim_makeCF ha.sim hkw.sim⟩
end
/-! #### o + x by an own method that may raise -/
structure AddI (K : PySem.W.Frag) (C f : Addr) : Prop where
  sf : PySem.W.selfFirst K C = true
  at_ : PySem.W.findIn K (.ref C) "__add__" = some (some (.ref f))
  fn : PySem.W.isFn K (.ref f) = true
  rf : PySem.W.findIn K (.ref C) "__radd__" = some none
structure AddT (K : PySem.W.Frag) (C : Addr) (T : String) : Prop where
  i1 : ∃ fo, PySem.W.findIn K (.type T) "__add__" = some fo
  i2 : ∃ ro, PySem.W.findIn K (.type T) "__radd__" = some ro
  sub : PySem.W.subIn K (.type T) (.ref C) = some false
section
variable {prog : Program} {w : World} {A : Around} {E : Value → Shared → Prop} {s : Shared} {h₀ : Heap} {L x C f : Addr} {m : Str → Option Value} {K : PySem.W.Frag} {T : String} {ox : Obj} {od : Option Obj}
theorem add_binT {b : Value} {fo ro : Option Value} {Q : Value → Shared → Prop} (F : PyProof.Rows.Fr h₀ L s.heap m) (X₀ : K.In h₀) (I : PySem.W.InstAt s.heap x ox C od) (hb : PySem.W.Looks (model prog w) s.heap (typeOf b) (.type T)) (hc : PySem.W.selfFirst K C = true)
    (hs : PySem.W.findIn K (.ref C) "__add__" = some (some (.ref f))) (hf : PySem.W.isFn K (.ref f) = true) (hr : PySem.W.findIn K (.ref C) "__radd__" = some none)
    (h1 : PySem.W.findIn K (.type T) "__add__" = some fo) (h2 : PySem.W.findIn K (.type T) "__radd__" = some ro) (hsub : PySem.W.subIn K (.type T) (.ref C) = some false)
    (h : wpAny (model prog w) A (call (.ref f) [.ref x, b]) (PySem.W.CmpBack Q) E s) : wpAny (model prog w) A (binaryOp .Add (.ref x) b) Q E s := by
  have X := X₀.keeps F.keep
  obtain ⟨cd, rest, hcd, hm⟩ := PySem.W.ksp_first hc
  have one := PySem.W.ksp_try X I hs hf h
  obtain ⟨hh, g, d, tt, os⟩ := s
  have L1 : PySem.W.Looks (model prog w) hh (typeOf (.ref x)) (.ref C) := I.type
  have L2 : PySem.W.Looks (model prog w) hh (typeOf b) (.type T) := hb
  have L3 : PySem.W.Looks (model prog w) hh (fillsNumberSlot (.ref C) (Operator.info .Add).2) true := PySem.W.fills_K X hcd hm hs
  have L4 : PySem.W.Looks (model prog w) hh (fillsNumberSlot (.type T) (Operator.info .Add).2) ((fo.isSome && !isSeqSlot fo) || (ro.isSome && !isSeqSlot ro)) := PySem.W.ksp_fillsT X h1 h2
  have L5 : PySem.W.Looks (model prog w) hh (isSubtype (.type T) (.ref C)) false := PySem.W.looks_subIn X hsub
  have L6 : PySem.W.Looks (model prog w) hh (numberSlotInPython (.ref C) (Operator.info .Add).2) true := PySem.W.ksp_inPy X hs hr (.inl rfl)
  have L7 : PySem.W.Looks (model prog w) hh (numberSlotInPython (.type T) (Operator.info .Add).2) false := PySem.W.Looks.of_pure rfl
  have L8 : PySem.W.Looks (model prog w) hh (typeLookup (.type T) (dunderR (Operator.info .Add).2)) ro := PySem.W.looks_findIn X h2
  generalize ((fo.isSome && !isSeqSlot fo) || (ro.isSome && !isSeqSlot ro)) = right at L4
  have hne : (Value.ref C == Value.type T) = false := Bool.eq_false_iff.mpr fun q => by cases beq_iff_eq.mp q
  rcases hi : Operator.info .Add with ⟨sym, nm'⟩
  rw [hi] at L3 L4 L6 L7 L8
  simp only [binaryOp, hi]
  refine wpAny_holding (wpAny_bind ?_)
  unfold binaryOp1
  refine wpAny_bind (L1.at (wpAny_bind (L2.at (wpAny_bind (L3.at ?_)))))
  simp only [hne, Bool.false_eq_true, if_false]
  have hd : PySem.dunder nm' = ("__add__" : Str) := by cases hi; rfl
  rw [← hd] at one
  cases right with
  | false =>
    ksp_lk
    refine wpAny_mono one (fun r s' hr' => ?_) fun _ _ e => e
    obtain ⟨v, rfl, hq⟩ := hr'
    ksp_lk
    exact hq
  | true =>
    ksp_lk
    refine wpAny_mono one (fun r s' hr' => ?_) fun _ _ e => e
    obtain ⟨v, rfl, hq⟩ := hr'
    ksp_lk
    exact hq
end
def tAddQ (K : PySem.W.Frag) (C : Addr) (sp : Sp) (E : L2.St → XK) (ta tb : TE) : TE := fun σ H Q => ta σ H fun x H1 => tb σ H1 fun y H2 => (∃ a dx fs, x = .ref a ∧ H2 a = some (.ins C dx fs)) ∧ (∃ T, TyX K H2 y (.type T) ∧ AddT K C T) ∧ sp [x, y] H2 Q (E σ)
section
variable {X : Cx} {k : Nat} {f C : Addr} {sp : Sp} {Ex : L2.St → XK} {a b : Expr} {pos : Pos} {ta tb : TE}
theorem pe_addQ (ha : PE X a ta) (hb : PE X b tb) (G : AddI X.K C f) (F : Gd.FnG X.prog X.w X.K X.mg X.base (L2.CX X.prog X.w) k f sp) (g : Gd.Calm0 X.A) (hr : Room k X.A) (tk : Tk X Ex) : PE X (.BinOp a .Add b pos) (tAddQ X.K C sp Ex ta tb) := by
  refine ⟨fun pins s σ H Q I h => ?_⟩
  refine wpAny_BinOp (binT ha hb I h fun v u s2 x y H2 I2 rx ry q => ?_)
  obtain ⟨⟨r, dx, fs, rfl, hr1⟩, ⟨T, ty, tt⟩, hsp⟩ := q
  have ev : v = Value.ref r := rx
  have cl := wpAny_mono (run_gW (us := [v, u]) (vs := [V.ref r, y]) F g hr (tk_pass tk σ) I2 (.cons rx (.cons ry .nil)) hsp) (fun _ _ z => Vx.cmpBack_of z) fun _ _ z => z
  subst ev
  obtain ⟨mA, J, _⟩ := ins_get I2.hok hr1
  obtain ⟨od, J, _⟩ := J.look
  obtain ⟨m, hF⟩ := I2.fr
  obtain ⟨PP, KX, hP, _⟩ := L2.kit_of I2 ry ty
  obtain ⟨fo, i1⟩ := tt.i1
  obtain ⟨ro, i2⟩ := tt.i2
  exact add_binT hF I2.ok.mod.kin J (KX.ty _ _ I2.kIn hP) G.sf G.at_ G.fn G.rf i1 i2 tt.sub cl
end
def tyT : Ty → String
  | .non => "NoneType"
  | .bl => "bool"
  | .int => "int"
  | .str => "str"
  | .byt => "bytes"
  | .lst => "list"
  | .tup => "tuple"
  | .dic => "dict"
  | .own _ => ""
def uAddO (K : PySem.W.Frag) (C : Addr) (S : DSp) (ua ub : DTE) : DTE := fun ρ μ Q E => ua ρ μ (fun x μ1 => ub ρ μ1 (fun y μ2 => isC C μ2 x ∧ (∃ t, tyOf μ2 y = some t ∧ (∀ C, t ≠ .own C) ∧ AddT K C (tyT t)) ∧ S [x, y] μ2 Q (E ρ)) E) E
section
variable {K : PySem.W.Frag} {Z : Hp} {as as' as1 : List Addr} {F F' F1 H H' H1 : Hp} {Ex : L2.St → XK}
theorem sim_addO {C : Addr} {S : DSp} {ta tb : TE} {ua ub : DTE} (a : Sim K Ex ta ua) (b : Sim K Ex tb ub) : Sim K Ex (tAddQ K C (toSp K S) Ex ta tb) (uAddO K C S ua ub) := fun Z as F H σ ρ μ Q E Q' R X h k =>
  a Z as F H σ ρ μ _ E _ R X h fun v d μ1 as1 F1 H1 g1 R1 r1 h1 => b Z as1 F1 H1 σ ρ μ1 _ E _ R1 (X.up g1) h1 fun v2 d2 μ2 as2 F2 H2 g2 R2 r2 h2 => by
    obtain ⟨hc, ⟨t, ht, ho, ha⟩, hs⟩ := h2
    refine ⟨isC_at R2.mm (r1.up g2) hc, ⟨tyT t, ?_, ha⟩, ?_⟩
    · have hk : TyOk K t := by cases t <;> first | exact absurd rfl (ho _) | trivial
      have := ty_of R2.mm r2 ht hk
      cases t <;> first | exact absurd rfl (ho _) | exact this
    · exact sp_use R2 (X.up (g1.trans g2)) (.cons (r1.up g2) (.cons r2 .nil)) hs fun v d μ' as' F' H' g M r q => k v d μ' as' F' H' ((g1.trans g2).trans g) (R2.up g M) r q
end
section
variable {X : Cx} {K : PySem.W.Frag} {Ex : L2.St → XK} {k : Nat} {f C : Addr} {S : DSp} {a b : Expr} {pos : Pos} {ta tb : TE} {ua ub : DTE}
theorem d_addO (G : AddI K C f) (F : FnD X.prog X.w K X.mg X.base k f S) (g : Gd.Calm0 X.A) (hr : Room k X.A) (tk : Tk X Ex) (ha : PD X K Ex a ta ua) (hb : PD X K Ex b tb ub) (hK : X.K = K := by rfl) : PD X K Ex (.BinOp a .Add b pos) (tAddQ K C (toSp K S) Ex ta tb) (uAddO K C S ua ub) := by
  subst hK
  exact ⟨pe_addQ ha.pe hb.pe G F g hr tk, sim_addO ha.sim hb.sim⟩
end
/-- a method with a star parameter -/
structure MetS (K : PySem.W.Frag) (C : Addr) (x qual : Str) (st : Stmt) (f : Addr) (fd : FuncData) : Prop where
  m : Meth K C x f
  d : DefAt K x qual st f fd
end DX
set_option Elab.async false
set_option linter.all false
set_option maxRecDepth 100000
set_option maxHeartbeats 4000000
namespace DX
open PySem PySem.Spec PyProof.Rows L2
/-! ### what many laws want -/
theorem take_snoc {α : Type} {xs : List α} {n : Nat} {x : α} (h : xs[n]? = some x) : xs.take (n + 1) = xs.take n ++ [x] := by
  rw [List.take_succ, h]; rfl
theorem cut_to (xs : List D) (k : Nat) : dcut xs none (some (k : Int)) = xs.take k := by
  unfold dcut
  rw [HT.sIx_none, HT.sIx_nat, List.drop_zero, Nat.sub_zero]
  exact List.take_eq_take_iff.mpr (by omega)
theorem cut_from (xs : List D) (k : Nat) : dcut xs (some (k : Int)) none = xs.drop k := by
  unfold dcut
  rw [HT.sIx_none, HT.sIx_nat]
  rcases Nat.le_total k xs.length with h | h
  · rw [Nat.min_eq_left h, List.take_of_length_le (by simp)]
  · rw [Nat.min_eq_right h, List.drop_eq_nil_iff.mpr h, List.drop_eq_nil_iff.mpr (Nat.le_refl _)]; simp
theorem deqv_refl {d : D} (h : dlay d = true) : deqv d d = true := by
  obtain ⟨p, hp, hc, _⟩ := lay_toP h
  rw [← toP_eqv hp hp]
  exact SeqAt.eqv_refl _ hc
theorem deqvL_refl {ds : List D} (h : dlayL ds = true) : deqvL ds ds = true := deqv_refl (d := .lst ds) h
theorem deqvL_len : ∀ {xs ys : List D}, xs.length ≠ ys.length → deqvL xs ys = false
  | [], [], h => absurd rfl h
  | [], _ :: _, _ => rfl
  | _ :: _, [], _ => rfl
  | x :: xs, y :: ys, h => by
    show (deqv x y && deqvL xs ys) = false
    rw [deqvL_len (xs := xs) (ys := ys) fun e => h (by simp [e]), Bool.and_false]
theorem deqv_lst (xs ys : List D) : deqv (.lst xs) (.lst ys) = deqvL xs ys := by simp only [deqv]
theorem deqv_tup (xs ys : List D) : deqv (.tup xs) (.tup ys) = deqvL xs ys := by simp only [deqv]
abbrev Lay (k : Nat) (d : D) : Prop := dlay d = true ∧ ddep d ≤ k
theorem dlayL_all : ∀ {ds : List D}, (∀ d ∈ ds, dlay d = true) → dlayL ds = true
  | [], _ => rfl
  | d :: ds, h => by
    show (dlay d && dlayL ds) = true
    rw [h d List.mem_cons_self, dlayL_all fun e he => h e (List.mem_cons_of_mem _ he)]
    rfl
theorem ddepL_all {k : Nat} : ∀ {ds : List D}, (∀ d ∈ ds, ddep d ≤ k) → ddepL ds ≤ k
  | [], _ => Nat.zero_le _
  | d :: ds, h => by
    show max (ddep d) (ddepL ds) ≤ k
    exact Nat.max_le.mpr ⟨h d List.mem_cons_self, ddepL_all fun e he => h e (List.mem_cons_of_mem _ he)⟩
theorem Lay.mono {j k : Nat} {d : D} (h : Lay j d) (hj : j ≤ k) : Lay k d := ⟨h.1, Nat.le_trans h.2 hj⟩
theorem lay_lst {ds : List D} {k : Nat} (h : ∀ d ∈ ds, Lay k d) : Lay (k + 1) (.lst ds) := ⟨dlayL_all fun d hd => (h d hd).1, Nat.succ_le_succ (ddepL_all fun d hd => (h d hd).2)⟩
theorem lay_tup {ds : List D} {k : Nat} (h : ∀ d ∈ ds, Lay k d) : Lay (k + 1) (.tup ds) := ⟨dlayL_all fun d hd => (h d hd).1, Nat.succ_le_succ (ddepL_all fun d hd => (h d hd).2)⟩
theorem lay_int (i : Int) : Lay 0 (.int i) := ⟨rfl, Nat.le_refl _⟩
theorem lay_bl (b : Bool) : Lay 0 (.bl b) := ⟨rfl, Nat.le_refl _⟩
theorem lay_non : Lay 0 .non := ⟨rfl, Nat.le_refl _⟩
theorem lay_str {s : Str} (h : PyData.strOk s = true) : Lay 0 (.str s) := ⟨h, Nat.le_refl _⟩
theorem all_nil {α : Type} {P : α → Prop} : ∀ d ∈ ([] : List α), P d := fun _ h => nomatch h
theorem all_cons {α : Type} {P : α → Prop} {x : α} {xs : List α} (h : P x) (r : ∀ d ∈ xs, P d) : ∀ d ∈ x :: xs, P d := fun d hd => by
  rcases List.mem_cons.mp hd with rfl | hd
  · exact h
  · exact r d hd
theorem all_map {α β : Type} {P : β → Prop} {f : α → β} {xs : List α} (h : ∀ x ∈ xs, P (f x)) : ∀ d ∈ xs.map f, P d := fun d hd => by
  obtain ⟨x, hx, rfl⟩ := List.mem_map.mp hd
  exact h x hx
theorem all_app {α : Type} {P : α → Prop} {xs ys : List α} (h : ∀ x ∈ xs, P x) (r : ∀ d ∈ ys, P d) : ∀ d ∈ xs ++ ys, P d := fun d hd => by
  rcases List.mem_append.mp hd with hd | hd
  · exact h d hd
  · exact r d hd
theorem eqok {x y : D} (hx : Lay 60 x) (hy : Lay 60 y) : dEqOk x y = true := by
  unfold dEqOk dok
  rw [hx.1, hy.1, decide_eq_true hx.2, decide_eq_true hy.2]
  simp
theorem eqokF {x y : D} (hx : dflat x = true) (hy : dflat y = true) : dEqOk x y = true := by
  unfold dEqOk
  rw [hx, hy]; rfl
theorem inokF {x c : D} {ds : List D} (hx : dflat x = true) (hy : ds.all dflat = true) : dInOk x c ds = true := by
  unfold dInOk
  rw [hx, hy]; rfl
theorem inok {x c : D} {ds : List D} (hx : Lay 60 x) (hy : Lay 60 c) : dInOk x c ds = true := by
  unfold dInOk dok
  rw [hx.1, hy.1, decide_eq_true hx.2, decide_eq_true hy.2]
  simp
theorem b_not {b : Bool} (h : ¬ b = true) : b = false := by cases b <;> simp_all
/-- a choice by a truth value, without an instance -/
def iteB (b : Bool) (p q : Prop) : Prop := match b with
  | true => p
  | false => q
theorem ite_iteB {b : Bool} {i : Decidable (b = true)} {p q : Prop} : @ite Prop (b = true) i p q = iteB b p q := by
  cases b with
  | true => exact if_pos rfl
  | false => exact if_neg Bool.false_ne_true
theorem iteB_t {p q : Prop} : iteB true p q = p := rfl
theorem iteB_f {p q : Prop} : iteB false p q = q := rfl
theorem ifb {b : Bool} {p q : Prop} (x : b = true → p) (y : ¬ b = true → q) : iteB b p q := by
  cases b with
  | true => exact x rfl
  | false => exact y Bool.false_ne_true
/-! a comprehension that changes nothing -/
def fmI (g : Nat → D → Option D) : Nat → List D → List D
  | _, [] => []
  | n, d :: r => (g n d).toList ++ fmI g (n + 1) r
theorem fmI_len (g : Nat → D → Option D) : ∀ (n : Nat) (ds : List D), (fmI g n ds).length ≤ ds.length
  | _, [] => Nat.le_refl _
  | n, d :: r => by
    show ((g n d).toList ++ fmI g (n + 1) r).length ≤ r.length + 1
    have := fmI_len g (n + 1) r
    have h2 : (g n d).toList.length ≤ 1 := by cases g n d <;> simp
    rw [List.length_append]; omega
theorem fmI_snoc (g : Nat → D → Option D) : ∀ (n : Nat) (ds : List D) (d : D), fmI g n (ds ++ [d]) = fmI g n ds ++ (g (n + ds.length) d).toList
  | n, [], d => by simp [fmI]
  | n, e :: r, d => by
    show (g n e).toList ++ fmI g (n + 1) (r ++ [d]) = ((g n e).toList ++ fmI g (n + 1) r) ++ _
    rw [fmI_snoc g (n + 1) r d, List.append_assoc, show n + 1 + r.length = n + (e :: r).length by simp; omega]
theorem lc_pure {ug : DTG} {ut : DTT} {ue : DTE} {ρw : Rho} {chk : Mem → Prop} {fin : List D → Mem → Prop} {ds : List D} {μ : Mem} (g : Nat → D → Option D) (hl : ds.length < 1000000) (hc : chk μ)
    (hs : ∀ (n : Nat) (d : D) (acc : List D) (go : List D → Mem → Prop), ds[n]? = some d → acc.length < 1000000 → go (acc ++ (g n d).toList) μ → ug d ρw μ (fun ρ1 μ1 => ut ρ1 μ1 (fun b μ2 => if b = true then ue ρ1 μ2 (fun y μ3 => acc.length < 1000000 ∧ go (acc ++ [y]) μ3) XN else go acc μ2) XN) XN)
    (hn : fin (fmI g 0 ds) μ) : uLcGo ug ut ue ρw chk fin ds [] μ := by
  refine lc_map (fun n acc μ1 => n ≤ ds.length ∧ acc = fmI g 0 (ds.take n) ∧ μ1 = μ) ⟨Nat.zero_le _, by simp [fmI], rfl⟩ (fun n acc μ1 h => by rw [h.2.2]; exact hc) ?_ ?_
  · rintro acc μ1 ⟨_, rfl, rfl⟩
    rw [List.take_length]; exact hn
  · rintro n d acc μ1 go hd ⟨hle, rfl, rfl⟩ k
    have hlt := lt_of_at hd
    refine hs n d _ go hd ?_ (k _ _ ⟨hlt, ?_, rfl⟩)
    · have := fmI_len g 0 (ds.take n)
      rw [List.length_take] at this
      omega
    · rw [take_snoc hd, fmI_snoc, List.length_take, Nat.min_eq_left (Nat.le_of_lt hlt), Nat.zero_add]
/-- all are taken -/
theorem fmI_some (f : D → D) : ∀ (n : Nat) (ds : List D), fmI (fun _ d => some (f d)) n ds = ds.map f
  | _, [] => rfl
  | n, d :: r => by
    show [f d] ++ fmI _ (n + 1) r = _
    rw [fmI_some f (n + 1) r]; rfl
theorem fmI_congr {g h : Nat → D → Option D} : ∀ {n : Nat} {ds : List D}, (∀ i d, ds[i]? = some d → g (n + i) d = h (n + i) d) → fmI g n ds = fmI h n ds
  | _, [], _ => rfl
  | n, d :: r, e => by
    show (g n d).toList ++ fmI g (n + 1) r = (h n d).toList ++ fmI h (n + 1) r
    have h0 : g n d = h n d := e 0 d rfl
    have h1 : fmI g (n + 1) r = fmI h (n + 1) r := fmI_congr fun i d' hd => by
      have := e (i + 1) d' (by simpa using hd)
      rwa [show n + (i + 1) = n + 1 + i by omega] at this
    rw [h0, h1]
theorem fmI_ints (f : Nat → D) : ∀ (lo n k : Nat), fmI (fun i _ => some (f i)) lo (dints k n) = (List.range' lo n).map f
  | _, 0, _ => rfl
  | lo, n + 1, k => by
    show [f lo] ++ fmI _ (lo + 1) (dints ((k : Int) + 1) n) = _
    rw [show ((k : Int) + 1) = ((k + 1 : Nat) : Int) by omega, fmI_ints f (lo + 1) n (k + 1)]; rfl
/-- by numbers -/
theorem fmI_getf (g : Nat → D → Option D) (xs : List D) : fmI (fun i _ => xs[i]?.bind (g i)) 0 (dints 0 xs.length) = fmI g 0 xs := by
  have go : ∀ (ys : List D) (m : Nat), (∀ i : Nat, ys[i]? = xs[m + i]?) → fmI (fun i _ => xs[i]?.bind (g i)) m (dints m ys.length) = fmI g m ys := by
    intro ys
    induction ys with
    | nil => intro m _; rfl
    | cons y ys ih =>
      intro m hm
      show (xs[m]?.bind (g m)).toList ++ fmI _ (m + 1) (dints ((m : Int) + 1) ys.length) = (g m y).toList ++ fmI g (m + 1) ys
      rw [show ((m : Int) + 1) = ((m + 1 : Nat) : Int) by omega, ih (m + 1) fun i => by
        have := hm (i + 1)
        rw [show m + 1 + i = m + (i + 1) by omega]; simpa using this]
      rw [show xs[m]? = some y from (hm 0).symm]; rfl
  exact go xs 0 fun i => by rw [Nat.zero_add]
theorem fmI_get (xs : List D) : fmI (fun i _ => xs[i]?) 0 (dints 0 xs.length) = xs := by
  have h := fmI_getf (fun _ d => some (id d)) xs
  rw [fmI_some, List.map_id] at h
  refine Eq.trans (fmI_congr fun i d _ => ?_) h
  cases xs[0 + i]? <;> rfl
/-! a walk that looks for the first that is wrong -/
theorem for_first {ug : DTG} {ub : DTS} {chk : Mem → Prop} {De : DEnds} {E : XD} {ds : List D} {ρ : Rho} {μ : Mem} (R : Rho → Prop) (bad : Nat → D → Bool) (hR : R ρ) (hc : chk μ)
    (hn : ∀ ρ, R ρ → (∀ i d, ds[i]? = some d → bad i d = false) → De.nx ρ μ)
    (hs : ∀ (n : Nat) (d : D) (ρ : Rho) (go : Rho → Mem → Prop), ds[n]? = some d → R ρ → (∀ i e, i < n → ds[i]? = some e → bad i e = false) → (bad n d = false → ∀ ρ, R ρ → go ρ μ) → ug d ρ μ (fun ρ1 μ1 => ub { De with nx := go, ct := go, bk := De.nx } E ρ1 μ1) E) : uForGo ug ub chk De E ds ρ μ := by
  refine for_map (fun n ρ μ1 => μ1 = μ ∧ R ρ ∧ ∀ i e, i < n → ds[i]? = some e → bad i e = false) ⟨rfl, hR, fun i e h => absurd h (Nat.not_lt_zero _)⟩ (fun n ρ μ1 h => by rw [h.1]; exact hc) ?_ ?_
  · rintro ρ μ1 ⟨rfl, hr, ha⟩
    exact hn ρ hr fun i d hd => ha i d (lt_of_at hd) hd
  · rintro n d ρ μ1 go hd ⟨rfl, hr, ha⟩ k
    refine hs n d ρ go hd hr ha fun hb ρ' hr' => k _ _ ⟨rfl, hr', fun i e hi he => ?_⟩
    rcases Nat.lt_succ_iff_lt_or_eq.mp hi with z | z
    · exact ha i e z he
    · subst z; rw [hd] at he; cases he; exact hb
/-- the first place at which p holds -/
theorem find_none {ds : List D} {p : D → Bool} (h : ds.findIdx? p = none) : ∀ (i : Nat) d, ds[i]? = some d → p d = false := fun i d hd => by
  have := List.findIdx?_eq_none_iff.mp h d (List.mem_of_getElem? hd)
  exact this
theorem find_some {ds : List D} {p : D → Bool} {k : Nat} (h : ds.findIdx? p = some k) : (∃ d, ds[k]? = some d ∧ p d = true) ∧ ∀ (i : Nat) d, i < k → ds[i]? = some d → p d = false := by
  rw [List.findIdx?_eq_some_iff_getElem] at h
  obtain ⟨h1, h2, h3⟩ := h
  refine ⟨⟨ds[k], List.getElem?_eq_getElem h1, h2⟩, fun i d hi hd => ?_⟩
  obtain ⟨hl, rfl⟩ := List.getElem?_eq_some_iff.mp hd
  exact b_not (h3 i hi)
/-- the first of ds at which p holds is k -/
theorem find_at {ds : List D} {p : D → Bool} {k : Nat} {d : D} (h : ds[k]? = some d) (hp : p d = true) (hb : ∀ (i : Nat) e, i < k → ds[i]? = some e → p e = false) : ds.findIdx? p = some k := by
  rw [List.findIdx?_eq_some_iff_getElem]
  obtain ⟨hl, rfl⟩ := List.getElem?_eq_some_iff.mp h
  exact ⟨hl, hp, fun j hj => by rw [hb j _ hj (List.getElem?_eq_getElem (by omega))]; exact Bool.false_ne_true⟩
theorem find_no {ds : List D} {p : D → Bool} (h : ∀ (i : Nat) d, ds[i]? = some d → p d = false) : ds.findIdx? p = none := by
  rw [List.findIdx?_eq_none_iff]
  intro x hx
  obtain ⟨i, hi⟩ := List.getElem?_of_mem hx
  exact h i x hi
/-- flat values: their kinds -/
theorem flat_ty {μ : Mem} {d : D} (h : dflat d = true) : ∃ t, tyOf μ d = some t ∧ (∀ C, t ≠ .own C) ∧ view μ d = d := by
  cases d <;> first | (cases h; done) | exact ⟨_, rfl, (by intro C z; cases z), rfl⟩
/-- the law itself, with nothing in the memory -/
def SLaw0 : DSp := fun ds μ Q _ => μ = [] ∧ ∃ ns : List Int, ds = [.kl (ns.map .int)] ∧ ns.length ≤ 63 ∧ ∀ μ', Q (.bl true) μ'
theorem lawG0 {P : Program} {w : World} {K : PySem.W.Frag} {mg : Str → Option Value} {base : Heap} {k : Nat} {f : Addr} (h : FnD P w K mg base k f SLaw0) : Gd.FnG P w K mg base CX0 k f (spLaw K) := by
  intro A outer s H us vs Q E g hr e0 r hsp
  obtain ⟨a, ns, rfl, hS, hl, q⟩ := hsp
  refine codeAny_mono (h A outer s H us _ Q E0 g hr e0 r ⟨fun _ => none, [], H, [.kl (ns.map .int)], [], (fun d _ => d = .bl true), fun _ _ _ => False, .cons (.kl hS (rep_ints ns)) .nil, ⟨Same.refl H, rfl, List.nodup_nil, fun _ z => (nomatch z), fun k m e => by simp at e, fun _ _ z => (nomatch z)⟩,
    ⟨rfl, ns, rfl, hl, fun μ' => rfl⟩, fun v d μ' as' F' H' g M r z => ?_, fun _ _ _ _ _ _ _ _ _ _ z => z.elim⟩) fun r s' hq => ?_
  · have z : d = .bl true := z
    subst z
    cases r
    exact q H'
  · match r, hq with
    | .error e, hq =>
      obtain ⟨_, _, _, _, _, _, _, _, _, _, _, _, z⟩ := hq
      exact z.elim
    | .ok (.ret u), hq => exact hq
end DX
set_option Elab.async false
set_option linter.all false
set_option maxRecDepth 100000
set_option maxHeartbeats 4000000
namespace DX
open PySem PySem.Spec PyProof.Rows L2
/-! ### dicts of the kit: z in d, d[z] -/
section
variable {prog : Program} {w : World} {A : Around} {E : Value → Shared → Prop} {s : Shared} {h₀ : Heap} {a : Addr} {D : List (Str × V)} {k : Str} {tk : Tok}
abbrev VTab (h : Heap) (a : Addr) (D : List (Str × V)) : Prop := KTD.TabOf (fun v u => RelV v u) h a D
theorem VTab.typeIs (T : VTab s.heap a D) : s.TypeIs (.ref a) "dict" := let ⟨_, o, _, _, ho, hc, _⟩ := T; ⟨o, ho, hc.1⟩
theorem dictGet_v {Q : Option Value → Shared → Prop} (T : VTab s.heap a D) (h1 : ∀ d v, KTD.datumAt k D = some d → RelV d v → Q (some v) { s with toks := s.toks + 1 }) (h2 : KTD.datumAt k D = none → Q none { s with toks := s.toks + 1 }) :
    wpAny (model prog w) A (dictGet a (.str k tk)) Q E s := by
  obtain ⟨_, o, es, ep, ho, hc, hd, hr⟩ := T
  unfold dictGet
  try with_reducible refine wpAny_holding ?_
  refine wpAny_bind (wpAny_pyHash_str (wpAny_bind (KTD.kt_dictFind_strs (s := { s with toks := s.toks + 1 }) ho hd (by obtain ⟨l⟩ := es; simpa using hr.exact) ?_)))
  have hq : Q (findBy (fun k v => v.isStr k) es k) { s with toks := s.toks + 1 } := by
    have hf : findBy (fun k v => v.isStr k) es k = (es.toList.find? fun e => e.key.isStr k).map (·.val) := by
      obtain ⟨l⟩ := es
      simp [findBy]
    rw [hf]
    cases hat : KTD.datumAt k D with
    | some d => obtain ⟨v, hv, hfl⟩ := hr.find_some hat; rw [hv]; exact h1 d v hat hfl
    | none => rw [hr.find_none hat]; exact h2 hat
  rw [findBy_of_findIdx?] at hq
  cases hi : es.findIdx? fun e => e.key.isStr k with
  | none => rw [hi] at hq; exact wpAny_pure hq
  | some i => rw [hi] at hq; exact wpAny_bind (wpAny_dictEntries (s := { s with toks := s.toks + 1 }) ho hd (wpAny_pure hq))
theorem getItem_v {Q : Value → Shared → Prop} {x : V} (T : VTab s.heap a D) (hx : KTD.datumAt k D = some x) (h : ∀ v, RelV x v → Q v { s with toks := s.toks + 1 }) : wpAny (model prog w) A (getItem (.ref a) (.str k tk)) Q E s := by
  unfold getItem
  try with_reducible refine wpAny_holding ?_
  refine wpAny_bind (wpAny_sequenceKey T.typeIs (by decide) ?_)
  refine wpAny_bind (wpAny_callSpecial?_slot (name := Str.ofString "__getitem__") T.typeIs slot_dict_getitem
    (wpAny_call_entry slot_dict_getitem T.typeIs entry_dict_getitem ?_ (args_dict_getitem _ _)))
  show wpAny _ _ (dictGet a (.str k tk) >>= _) _ _ s
  exact wpAny_bind (dictGet_v T (fun d v ha hv => wpAny_pure ⟨v, rfl, wpAny_pure (h v (by rw [hx] at ha; cases ha; exact hv))⟩) fun hn => by rw [hx] at hn; cases hn)
theorem in_v {Q : Value → Shared → Prop} (T : VTab s.heap a D) (h : Q (.bool (KTD.datumAt k D).isSome) { s with toks := s.toks + 1 }) : wpAny (model prog w) A (compareOp .In (.str k tk) (.ref a)) Q E s := by
  show wpAny _ _ (do return .bool (← contains (.ref a) (.str k tk))) Q E s
  refine wpAny_bind ?_
  unfold contains
  try with_reducible refine wpAny_holding ?_
  refine wpAny_bind (wpAny_specialOf T.typeIs slot_dict_contains.lookup ?_)
  show wpAny _ _ (if (some (Value.builtin "dict.__contains__") == some Value.none) = true then _ else _) _ E s
  rw [if_neg (by rw [beq_builtin_none]; exact Bool.false_ne_true)]
  refine wpAny_bind (wpAny_callSpecialUnlessNone?_slot (name := Str.ofString "__contains__") T.typeIs slot_dict_contains
    (wpAny_call_entry slot_dict_contains T.typeIs entry_dict_contains ?_ (args_dict_contains _ _)))
  show wpAny _ _ (dictGet a (.str k tk) >>= _) _ _ s
  refine wpAny_bind (dictGet_v T (fun d v ha _ => ?_) fun hn => ?_)
  · rw [ha] at h
    show wpAny _ _ (ret (.bool true)) _ _ _
    exact wpAny_pure ⟨_, rfl, wpAny_truthy_bool (wpAny_pure h)⟩
  · rw [hn] at h
    show wpAny _ _ (Builtin.Dict.pendingKey? a (.str k tk) >>= _) _ _ _
    exact wpAny_bind (wpAny_pendingKey_other T.1 (wpAny_pure ⟨_, rfl, wpAny_truthy_bool (wpAny_pure h)⟩))
theorem val_datum (k : Str) : ∀ D : List (Str × V), valV (D.map fun p => ((.inr p.1 : Key), p.2)) (.inr k) = KTD.datumAt k D
  | [] => rfl
  | (x, d) :: D => by
    rw [List.map_cons, valV_cons, val_datum k D]
    show _ = (if decide (k = x) = true then some d else KTD.datumAt k D)
    by_cases e : k = x
    · rw [if_pos (by rw [e]), if_pos (decide_eq_true e)]
    · rw [if_neg (fun z => e (Sum.inr.inj z).symm), if_neg (by simp [e])]
end
/-- z in d: one of the heap, or of the kit -/
def rDIn (K : PySem.W.Frag) : R2 := fun y x H Q => ∃ a, x = .ref a ∧ ((∃ o, DGet H a y o ∧ Q (.bl o.isSome) H) ∨ ∃ ks z, KDic K a ks ∧ y = .str z ∧ Q (.bl (valV ks (.inr z)).isSome) H)
def rDNotIn : R2 := fun y x H Q => ∃ a o, x = .ref a ∧ DGet H a y o ∧ Q (.bl (!o.isSome)) H
def rKGet (K : PySem.W.Frag) : R2 := fun x y H Q => ∃ a ks z v, x = .ref a ∧ y = .str z ∧ KDic K a ks ∧ valV ks (.inr z) = some v ∧ Q v H
section
variable {X : Cx}
theorem op_inK {K : PySem.W.Frag} (hu : X.A.units + 1 < cLine) (hK : X.K = K) : OpR X (compareOp .In) (rDIn K) := by
  subst hK
  intro pins s σ H y x v u Q I ry rx h
  obtain ⟨a, rfl, h⟩ := h
  obtain rfl : u = Value.ref a := rx
  rcases h with ⟨o, g, q⟩ | ⟨ks, z, ⟨D, rfl, hT⟩, rfl, q⟩
  · exact d_in hu I g ry fun s3 I3 => ⟨.bl o.isSome, H, I3, rfl, q⟩
  · obtain ⟨t, rfl⟩ := ry
    rw [val_datum] at q
    exact in_v (hT _ I.kIn) ⟨.bl _, H, I.tok _, rfl, q⟩
theorem op_notInK (hu : X.A.units + 1 < cLine) : OpR X (compareOp .NotIn) rDNotIn := by
  intro pins s σ H y x v u Q I ry rx h
  obtain ⟨a, o, rfl, g, q⟩ := h
  obtain rfl : u = Value.ref a := rx
  exact d_notIn hu I g ry fun s3 I3 => ⟨.bl (!o.isSome), H, I3, rfl, q⟩
theorem ix_kd {K : PySem.W.Frag} (hK : X.K = K) : IxR X (rKGet K) := by
  subst hK
  intro value slice pins s σ H x y v u Q I rx ry h hs
  obtain ⟨a, ks, z, r, rfl, rfl, ⟨D, rfl, hT⟩, e, q⟩ := h
  obtain rfl : v = Value.ref a := rx
  obtain ⟨t, rfl⟩ := ry
  rw [val_datum] at e
  have T : VTab s.heap a D := hT _ I.kIn
  exact tail_any T.typeIs slot_dict_getitem.lookup (getItem_v T e fun w rw' => ⟨r, H, I.tok _, rw', q⟩) hs
end
/-- what a dict holds: of the memory, frozen, or the kit's -/
def dDIn (neg : Bool) : DR2 := fun y x μ Q => ∃ kvs k, dKey y = some k ∧ ((dicAt μ x = some kvs ∧ Q (.bl (if neg then !(valD kvs k).isSome else (valD kvs k).isSome)) μ) ∨ (neg = false ∧ x = .kd kvs ∧ (∃ z, y = .str z) ∧ Q (.bl (valD kvs k).isSome) μ))
def dKGet : DR2 := fun x y μ Q => ∃ kvs z d, x = .kd kvs ∧ y = .str z ∧ valD kvs (.inr z) = some d ∧ Q d μ
section
variable {K : PySem.W.Frag} {Z : Hp} {as as' as1 : List Addr} {F F' F1 H H' H1 : Hp} {Ex : L2.St → XK}
theorem sim_inK : SimR K (rDIn K) (dDIn false) := fun Z as F H μ y x d e Q Q' M ry rx z k => by
  obtain ⟨kvs, key, e1, z⟩ := z
  cases rep_key ry e1
  rcases z with ⟨e2, q⟩ | ⟨_, rfl, ⟨u, rfl⟩, q⟩
  · obtain ⟨p, ks, rfl, hp, rk⟩ := dic_at M rx e2
    exact ⟨p, rfl, .inl ⟨valV ks key, DX.DGet.r hp, k _ _ μ as F H Gr.refl M (.bl _) (by rw [val_some rk]; exact q)⟩⟩
  · cases e1
    cases rx with
    | kd hk rk => exact ⟨_, rfl, .inr ⟨_, u, hk, rfl, k _ _ μ as F H Gr.refl M (.bl _) (by rw [val_some rk]; exact q)⟩⟩
theorem sim_notInK : SimR K rDNotIn (dDIn true) := fun Z as F H μ y x d e Q Q' M ry rx z k => by
  obtain ⟨kvs, key, e1, z⟩ := z
  cases rep_key ry e1
  rcases z with ⟨e2, q⟩ | ⟨z, _⟩
  · obtain ⟨p, ks, rfl, hp, rk⟩ := dic_at M rx e2
    exact ⟨p, valV ks key, rfl, DX.DGet.r hp, k _ _ μ as F H Gr.refl M (.bl _) (by rw [val_some rk]; exact q)⟩
  · cases z
theorem sim_kget : SimR K (rKGet K) dKGet := fun Z as F H μ x y d e Q Q' M rx ry z k => by
  obtain ⟨kvs, u, r, rfl, rfl, e, q⟩ := z
  cases rx with
  | kd hk rk =>
    cases ry
    obtain ⟨v, w1, w2⟩ := (rk.val _).1 r e
    exact ⟨_, _, u, v, rfl, rfl, hk, w1, k v r μ as F H Gr.refl M w2 q⟩
end
section
variable {X : Cx} {K : PySem.W.Frag} {Ex : L2.St → XK} {a b : Expr} {pos : Pos} {ta tb : TE} {ua ub : DTE}
theorem d_kget (ha : PD X K Ex a ta ua) (hb : PD X K Ex b tb ub) (hK : X.K = K := by rfl) (hs : PlainIx b := by exact fun _ _ => rfl) : PD X K Ex (.Subscript a b pos) (tOp (rKGet K) ta tb) (uOp dKGet ua ub) := ⟨pe_ix (ix_kd hK) ha.pe hb.pe hs, sim_op sim_kget ha.sim hb.sim⟩
end
/-! ### dict == dict, all values flat -/
def hitV (ls : List (Key × V)) (p : Key × V) : Bool := match valV ls p.1 with
  | some u => eqV p.2 u
  | none => false
def flatK (ks : List (Key × V)) : Bool := ks.all fun p => flatV p.2
def rEqK : R2 := fun x y H Q => ∃ a b ks ls, x = .ref a ∧ y = .ref b ∧ Rd H a (.dK ks) ∧ Rd H b (.dK ls) ∧ flatK ks = true ∧ flatK ls = true ∧ Q (.bl (ks.length == ls.length && ks.all (hitV ls))) H
theorem valV_flat {k : Key} {u : V} : ∀ {ls : List (Key × V)}, flatK ls = true → valV ls k = some u → flatV u = true
  | [], _, h => by cases h
  | (n, v) :: ls, f, h => by
    have f : (flatV v && flatK ls) = true := f
    rw [Bool.and_eq_true] at f
    rw [valV_cons] at h
    split at h
    · cases h; exact f.1
    · exact valV_flat f.2 h
theorem hits_flat {P : Program} {w : World} {A : Around} {s : Shared} {ls : List (Key × V)} {vb : List (Key × Value)} (rb : KV ls vb) (fl : flatK ls = true) {ks : List (Key × V)} {va : List (Key × Value)} (ra : KV ks va) :
    flatK ks = true → PySem.W.KeqHitsP P w A s vb va (ks.all (hitV ls)) := by
  unfold KV at ra
  induction ra with
  | nil => intro _; exact .nil
  | @cons p q ps qs h t k =>
    intro f
    obtain ⟨h1, h2⟩ := h
    have f : (flatV p.2 && flatK ps) = true := f
    rw [Bool.and_eq_true] at f
    obtain ⟨key, v⟩ := q
    have h1' : p.1 = key := h1
    have e : (p :: ps).all (hitV ls) = (hitV ls p && ps.all (hitV ls)) := rfl
    rw [e]
    cases z : valV ls p.1 with
    | none =>
      have e2 : hitV ls p = false := by unfold hitV; rw [z]
      rw [e2, Bool.false_and]
      have rr := rb.val p.1
      rw [z] at rr
      refine .miss ?_
      rw [← h1']
      cases y : valueAt vb p.1 with
      | none => rfl
      | some u => rw [y] at rr; exact rr.elim
    | some u =>
      have e2 : hitV ls p = eqV p.2 u := by unfold hitV; rw [z]
      rw [e2]
      have rr : RelO (some u) (valueAt vb p.1) := by rw [← z]; exact rb.val p.1
      obtain ⟨y, hy, ry⟩ := rr.some_of
      rw [h1'] at hy
      exact .hit hy (SeqAt.EqAt.eqP (eqAt_V h2 ry f.1 (valV_flat fl z))) (k f.2)
theorem op_eqK {X : Cx} (hu : X.A.units + 64 < cLine) : OpR X (compareOp .Eq) rEqK := by
  intro pins s σ H x y v u Q I rx ry h
  obtain ⟨a, b, ks, ls, rfl, rfl, ha, hb, f1, f2, q⟩ := h
  obtain rfl : v = Value.ref a := rx
  obtain rfl : u = Value.ref b := ry
  obtain ⟨_, ya, va, ra, da⟩ := dk_rd I.hok ha
  obtain ⟨_, yb, vb, rb, db⟩ := dk_rd I.hok hb
  refine PySem.W.rcP_dicts (knd := mixKind X.prog X.w) (r := ks.all (hitV ls)) ya yb da db (by omega) (fun _ => hits_flat rb f2 ra f1) _ _ ?_
  rw [← ra.length, ← rb.length]
  exact ⟨.bl _, H, I, rfl, q⟩
def hitD (ls : List (Key × D)) (p : Key × D) : Bool := match valD ls p.1 with
  | some u => deqv p.2 u
  | none => false
def dflatK (ks : List (Key × D)) : Bool := ks.all fun p => dflat p.2
def deqK (ks ls : List (Key × D)) : Bool := ks.length == ls.length && ks.all (hitD ls)
def dEqK : DR2 := fun x y μ Q => ∃ ks ls, dicAt μ x = some ks ∧ dicAt μ y = some ls ∧ dflatK ks = true ∧ dflatK ls = true ∧ Q (.bl (deqK ks ls)) μ
section
variable {K : PySem.W.Frag} {Z : Hp} {as as' as1 : List Addr} {F F' F1 H H' H1 : Hp} {Ex : L2.St → XK}
theorem RepK.flat : ∀ {vs : List (Key × V)} {ds : List (Key × D)}, RepK K as F vs ds → dflatK ds = true → flatK vs = true
  | _, _, .nil, _ => rfl
  | _, _, .cons (v := v) (vs := vs) (d := d) (ds := ds) h r, f => by
    have f : (dflat d && dflatK ds) = true := f
    rw [Bool.and_eq_true] at f
    show (flatV v && flatK vs) = true
    rw [flat_rep h f.1, RepK.flat r f.2]; rfl
theorem valD_flat {k : Key} {u : D} : ∀ {ls : List (Key × D)}, dflatK ls = true → valD ls k = some u → dflat u = true
  | [], _, h => by cases h
  | (n, v) :: ls, f, h => by
    have f : (dflat v && dflatK ls) = true := f
    rw [Bool.and_eq_true] at f
    rw [valD_cons] at h
    split at h
    · cases h; exact f.1
    · exact valD_flat f.2 h
theorem RepK.hit {ls : List (Key × V)} {es : List (Key × D)} (rl : RepK K as F ls es) (fl : dflatK es = true) : ∀ {vs : List (Key × V)} {ds : List (Key × D)}, RepK K as F vs ds → dflatK ds = true → vs.all (hitV ls) = ds.all (hitD es)
  | _, _, .nil, _ => rfl
  | _, _, .cons (n := n) (v := v) (vs := vs) (d := d) (ds := ds) h r, f => by
    have f : (dflat d && dflatK ds) = true := f
    rw [Bool.and_eq_true] at f
    rw [List.all_cons, List.all_cons, RepK.hit rl fl r f.2]
    refine congrArg (· && _) ?_
    unfold hitV hitD
    cases e : valD es n with
    | none => rw [show valV ls n = none from (rl.val n).2 e]
    | some u =>
      obtain ⟨w, w1, w2⟩ := (rl.val n).1 u e
      rw [show valV ls n = some w from w1]
      exact flat_eqV h w2 f.1 (valD_flat fl e)
theorem sim_eqK : SimR K rEqK dEqK := fun Z as F H μ x y d e Q Q' M rx ry z k => by
  obtain ⟨ks, ls, e1, e2, f1, f2, q⟩ := z
  obtain ⟨p, vs, rfl, hp, rk⟩ := dic_at M rx e1
  obtain ⟨p2, vs2, rfl, hp2, rk2⟩ := dic_at M ry e2
  refine ⟨p, p2, vs, vs2, rfl, rfl, hp, hp2, rk.flat f1, rk2.flat f2, k _ _ μ as F H Gr.refl M (.bl _) ?_⟩
  unfold deqK at q
  rw [rk.len, rk2.len, RepK.hit rk2 f2 rk f1]
  exact q
end
/-! ### {k: v, ..} -/
abbrev DTP := Rho → Mem → (List (Key × D) → Mem → Prop) → XD → Prop
def uPNil : DTP := fun _ μ Q _ => Q [] μ
def uPCons (uk uv : DTE) (w : DTP) : DTP := fun ρ μ Q E => uk ρ μ (fun y μ1 => uv ρ μ1 (fun z μ2 => ∃ k, dKey y = some k ∧ w ρ μ2 (fun kvs μ3 => Q ((k, z) :: kvs) μ3) E) E) E
def dmerge (kvs more : List (Key × D)) : List (Key × D) := more.foldl (fun acc kv => dputK acc kv.1 kv.2) kvs
def uDisp (fr : Bool) (w : DTP) : DTE := fun ρ μ Q E => w ρ μ (fun kvs μ1 => kvs.length ≤ 15 ∧ if fr = true then Q (.dic (dmerge [] kvs)) μ1 else Q (.ob μ1.length) (μ1 ++ [.dic (dmerge [] kvs)])) E
section
variable {K : PySem.W.Frag} {Z : Hp} {as as' as1 : List Addr} {F F' F1 H H' H1 : Hp} {Ex : L2.St → XK}
def SimP (K : PySem.W.Frag) (Ex : L2.St → XK) (t : List (TE × TE)) (u : DTP) : Prop :=
  ∀ (Z : Hp) (as : List Addr) (F H : Hp) (σ : L2.St) (ρ : Rho) (μ : Mem) (Q : List (Key × D) → Mem → Prop) (E : XD) (Q' : List (V × V) → Hp → Prop), Rp K Z as F H σ ρ μ → XL K Ex Z as F E → u ρ μ Q E →
    (∀ vs ds μ' as' F' H', Gr as F as' F' → Rp K Z as' F' H' σ ρ μ' → RepK K as' F' vs ds → Q ds μ' → Q' (vs.map fun kv => (kV kv.1, kv.2)) H') → tPairs t σ H Q'
theorem sim_pnil : SimP K Ex [] uPNil := fun Z as F H σ ρ μ Q E Q' R X h k => k [] [] μ as F H Gr.refl R .nil h
theorem sim_pcons {tk tv : TE} {uk uv : DTE} {t : List (TE × TE)} {w : DTP} (a : Sim K Ex tk uk) (b : Sim K Ex tv uv) (c : SimP K Ex t w) : SimP K Ex ((tk, tv) :: t) (uPCons uk uv w) := fun Z as F H σ ρ μ Q E Q' R X h k =>
  a Z as F H σ ρ μ _ E _ R X h fun v d μ1 as1 F1 H1 g1 R1 r1 h1 => b Z as1 F1 H1 σ ρ μ1 _ E _ R1 (X.up g1) h1 fun v2 d2 μ2 as2 F2 H2 g2 R2 r2 h2 => by
    obtain ⟨key, e, h2⟩ := h2
    refine c Z as2 F2 H2 σ ρ μ2 _ E _ R2 (X.up (g1.trans g2)) h2 fun vs ds μ3 as3 F3 H3 g3 R3 r3 q => ?_
    cases rep_key r1 e
    exact k ((key, v2) :: vs) ((key, d2) :: ds) μ3 as3 F3 H3 ((g1.trans g2).trans g3) R3 (.cons (r2.up g3) r3) q
theorem RepK.merge : ∀ {vs : List (Key × V)} {ds : List (Key × D)} {ks : List (Key × V)} {es : List (Key × D)}, RepK K as F vs ds → RepK K as F ks es → RepK K as F (mergeK ks vs) (dmerge es ds)
  | _, _, _, _, .nil, r => r
  | _, _, _, _, .cons (n := n) h t, r => by have q := RepK.merge t (RepK.put (k := n) h r); exact q
/-- what is raised while a display is under way leaves its dict behind -/
def XLh (K : PySem.W.Frag) (Ex : L2.St → XK) (Z : Hp) (as : List Addr) (F : Hp) (E : XD) (p : Addr) (o : HO) : Prop := XL K Ex (upd Z p o) as F E
theorem sim_disp {t : List (TE × TE)} {w : DTP} (fr : Bool) (c : SimP K Ex t w) : Sim K Ex (tDisp t) (uDisp fr w) := fun Z as F H σ ρ μ Q E Q' R X h k => fun p np => by
  have nZ : Z p = none := by
    cases e : Z p with
    | none => rfl
    | some o => have := (R.mm.hid p o e).1; rw [np] at this; cases this
  have X2 : XL K Ex (upd Z p (.dK [])) as F E := fun σ2 ρ2 μ2 as2 F2 H2 C gs dx g R2 er q => X σ2 ρ2 μ2 as2 F2 H2 C gs dx g ⟨⟨R2.mm.same, R2.mm.len, R2.mm.nd, R2.mm.fr, R2.mm.at_, fun a o e => R2.mm.hid a o (by rw [upd_ne (fun z : a = p => by subst z; rw [nZ] at e; cases e)]; exact e)⟩, R2.env⟩ er q
  refine c (upd Z p (.dK [])) as F _ σ ρ μ _ E _ ⟨R.mm.hide np, R.env⟩ X2 h fun vs ds μ1 as1 F1 H1 g1 R1 r1 q => ?_
  obtain ⟨e1, e2, e3⟩ := R1.mm.hid p _ upd_same
  obtain ⟨hl, q⟩ := q
  refine ⟨e1, vs, rfl, by rw [r1.len]; exact hl, ?_⟩
  have rm := RepK.merge r1 (RepK.nil (K := K) (as := as1) (F := F1))
  have M2 := R1.mm.rehide (o' := .dK (mergeK [] vs))
  cases fr with
  | true =>
    rw [if_pos rfl] at q
    obtain ⟨M3, g3⟩ := M2.showF nZ
    exact k _ _ μ1 as1 _ _ (g1.trans g3) ⟨M3, R1.env.up g3⟩ (.dic upd_same (rm.up g3)) q
  | false =>
    rw [if_neg Bool.false_ne_true] at q
    have M3 := M2.showM (m := .dic (dmerge [] ds)) nZ ⟨_, upd_same, rm.up Gr.add⟩
    exact k _ _ _ _ F1 _ (g1.trans Gr.add) ⟨M3, R1.env.up Gr.add⟩ (rep_ob M2.len) q
end
section
variable {X : Cx} {K : PySem.W.Frag} {Ex : L2.St → XK} {pos : Pos}
structure PrD (X : Cx) (K : PySem.W.Frag) (Ex : L2.St → XK) (pos : Pos) (keys : List (Option Expr)) (values : List Expr) (t : List (TE × TE)) (u : DTP) : Prop where
  pe : PPs X pos keys values t
  sim : SimP K Ex t u
theorem p_nil : PrD X K Ex pos [] [] [] uPNil := ⟨pps_nil, sim_pnil⟩
theorem p_cons {k v : Expr} {ks : List (Option Expr)} {vs : List Expr} {tk tv : TE} {uk uv : DTE} {t : List (TE × TE)} {w : DTP} (hk : PD X K Ex k tk uk) (hv : PD X K Ex v tv uv) (hr : PrD X K Ex pos ks vs t w) : PrD X K Ex pos (some k :: ks) (v :: vs) ((tk, tv) :: t) (uPCons uk uv w) := ⟨pps_cons hk.pe hv.pe hr.pe, sim_pcons hk.sim hv.sim hr.sim⟩
theorem d_disp (fr : Bool) {keys : List (Option Expr)} {values : List Expr} {t : List (TE × TE)} {w : DTP} (h : PrD X K Ex pos keys values t w) (hall : keys.all (·.isSome) = true := by rfl) (hl : keys.length = values.length := by rfl) (h0 : keys ≠ [] := by (intro z; cases z)) (h15 : keys.length ≤ 15 := by decide) :
    PD X K Ex (.Dict keys values pos) (tDisp t) (uDisp fr w) := ⟨pe_disp h.pe hall hl h0 h15, sim_disp fr h.sim⟩
end
end DX
set_option Elab.async false
set_option linter.all false
set_option maxRecDepth 100000
set_option maxHeartbeats 4000000
namespace DX
open PySem PySem.Spec PyProof.Rows L2
/-! ### o.f = e, f a property with a setter -/
/-- the attribute n of C is the property at p, its setter the function at g -/
structure SetP (K : PySem.W.Frag) (C : Addr) (n : Str) (p g : Addr) : Prop where
  tk : PySem.W.takerIn K C n = some (some (.ref p))
  ty : PySem.W.typeIn K (.ref p) = some (.type "property")
  rec_ : ∃ a rest, PySem.W.recIn K p "property" = some (a :: .ref g :: rest)
def sSetP (C : Addr) (sp : Sp) (E : L2.St → XK) (to te : TE) : TS := fun D σ H => te σ H fun v H1 => to σ H1 fun x H2 => ∃ a dx fs, x = .ref a ∧ H2 a = some (.ins C dx fs) ∧ sp [.ref a, v] H2 (fun _ H3 => D.nx σ H3) (E σ)
section
variable {X : Cx} {k : Nat} {C p g : Addr} {n : Str} {sp : Sp} {Ex : L2.St → XK} {o e : Expr} {pos p' : Pos} {to te : TE}
theorem ps_setP (ho : PE X o to) (he : PE X e te) (c : Cls X.K C) (S : SetP X.K C n p g) (F : Gd.FnG X.prog X.w X.K X.mg X.base (L2.CX X.prog X.w) k g sp) (gd : Gd.Calm0 X.A) (hr : Room (k + 2) X.A) (tk : Tk X Ex)
    (hs : swapsWith e (some (.Attribute o n p')) pos.line X.env = pure false := by rfl) : PS X (.Assign [.Attribute o n p'] e pos) (sSetP C sp Ex to te) := by
  refine ⟨fun pins s σ H D I h => ?_⟩
  refine plainObj_wpAny_Assign_Attribute (thn (he.run pins s σ H _ I h) fun v s1 ⟨y, H1, I1, r1, q1⟩ => thn (ho.run pins s1 σ H1 _ I1 q1) fun u s2 ⟨x, H2, I2, r2, a, dx, fs, ex, ea, q⟩ => ?_) hs
  subst ex
  obtain rfl : u = Value.ref a := r2
  obtain ⟨mA, O, _, _, _, _⟩ := ins_get I2.hok ea
  obtain ⟨od, J, _⟩ := O.look
  obtain ⟨a0, rest, hrec⟩ := S.rec_
  obtain ⟨m, fr⟩ := I2.fr
  have I3 := I2.tok (s2.toks + 1)
  refine PySem.W.set_prop fr I.ok.mod.kin J c.sa c.po S.tk S.ty hrec (codeAny_mono (run_g (A := X.A.in1.in1) F gd hr.in1.in1 I3.env0.in1.in1 (tk_pass tk σ) I3 (us := [.ref a, v]) (vs := [.ref a, y]) (.cons rfl (.cons r1 .nil)) q) fun r s' hq => ?_)
  match r, hq with
  | .error er, hq => exact hq
  | .ok (.ret u), hq =>
    obtain ⟨_, H4, J4, _, q4⟩ := hq
    exact ⟨σ, H4, J4, q4⟩
end
def uSetP (C : Addr) (S : DSp) (uo ue : DTE) : DTS := fun De E ρ μ => ue ρ μ (fun v μ1 => uo ρ μ1 (fun x μ2 => isIns C μ2 x ∧ S [x, v] μ2 (fun _ μ3 => De.nx ρ μ3) (E ρ)) E) E
section
variable {K : PySem.W.Frag} {Z : Hp} {as as' as1 : List Addr} {F F' F1 H H' H1 : Hp} {Ex : L2.St → XK}
theorem sim_setP {C : Addr} {S : DSp} {to te : TE} {uo ue : DTE} (a : Sim K Ex to uo) (c : Sim K Ex te ue) : SimS K Ex (sSetP C (toSp K S) Ex to te) (uSetP C S uo ue) := fun Z as F H σ ρ μ De E D' R X h kn kr kb kc =>
  c Z as F H σ ρ μ _ E _ R X h fun v d μ1 as1 F1 H1 g1 R1 r1 h1 => a Z as1 F1 H1 σ ρ μ1 _ E _ R1 (X.up g1) h1 fun v2 d2 μ2 as2 F2 H2 g2 R2 r2 h2 => by
    obtain ⟨hi, q⟩ := h2
    obtain ⟨p, dx, fs, rfl, hp⟩ := isIns_at R2.mm r2 hi
    refine ⟨p, dx, fs, rfl, hp, sp_use R2 (X.up (g1.trans g2)) (.cons r2 (.cons (r1.up g2) .nil)) q fun v d μ' as' F' H' g M r q => ?_⟩
    exact kn σ ρ μ' as' F' H' ((g1.trans g2).trans g) (R2.up g M) q
end
section
variable {X : Cx} {K : PySem.W.Frag} {Ex : L2.St → XK} {k : Nat} {C p g : Addr} {n : Str} {S : DSp} {o e : Expr} {pos p' : Pos} {to te : TE} {uo ue : DTE}
theorem s_setP (c : Cls K C) (P : SetP K C n p g) (F : FnD X.prog X.w X.K X.mg X.base k g S) (gd : Gd.Calm0 X.A) (hr : Room (k + 2) X.A) (tk : Tk X Ex) (ho : PD X K Ex o to uo) (he : PD X K Ex e te ue) (hK : X.K = K := by rfl)
    (hs : swapsWith e (some (.Attribute o n p')) pos.line X.env = pure false := by rfl) : SD X K Ex (.Assign [.Attribute o n p'] e pos) (sSetP C (toSp K S) Ex to te) (uSetP C S uo ue) := by
  subst hK
  exact ⟨ps_setP ho.pe he.pe c P F gd hr tk hs, sim_setP ho.sim he.sim⟩
end
end DX
set_option Elab.async false
set_option linter.all false
set_option maxRecDepth 100000
set_option maxHeartbeats 4000000
/-! set(xs) of a list of texts, and its length -/
namespace Tx
open PySem PySem.Spec PyProof.Rows
/-- which texts stand among the first i -/
def met (xs : List Str) (i : Nat) (z : Str) : Bool := decide (z ∈ xs.take i)
/-- how many different ones -/
def cnt (xs : List Str) : Nat → Nat
  | 0 => 0
  | i + 1 => if met xs i (xs.getD i Str.empty) = true then cnt xs i else cnt xs i + 1
theorem cnt_le (xs : List Str) : ∀ i, cnt xs i ≤ i
  | 0 => Nat.le_refl _
  | i + 1 => by
    have ih := cnt_le xs i
    unfold cnt
    split <;> omega
theorem met_succ {xs : List Str} {i : Nat} (h : i < xs.length) (z : Str) : met xs (i + 1) z = (met xs i z || decide (z = xs.getD i Str.empty)) := by
  unfold met
  rw [List.take_add_one, List.getElem?_eq_getElem h, List.getD_eq_getElem?_getD, List.getElem?_eq_getElem h]
  simp only [Option.toList_some, List.mem_append, List.mem_singleton, Option.getD_some]
  by_cases h1 : z ∈ xs.take i <;> by_cases h2 : z = xs[i] <;> simp [h1, h2]
section
variable {prog : Program} {w : World} {A : Around} {R : Result → Shared → Prop} {J : Addr} {fq wq : List Addr} {G : Array GenState → Array GenState → Prop} {n : Nat} {V1 : Nat → Value → Prop} {Z : Nat → Shared → Prop}
/-- the turns of set.update: each text is laid in, if it is not there -/
theorem turns (Wk : WalksS prog w A.in1 J fq wq G n V1 Z) {D : Addr} (nD : D ∉ fq) {xs : List Str} (hn : n = xs.length) (small : n + 1 < scanBound) (txt : ∀ i v, V1 i v → ∃ t, v = .str (xs.getD i Str.empty) t) :
    ∀ (left i : Nat) (s : Shared), left + i = n → Z i s → s.heap.SetOf (strKind prog w) D (met xs i) (cnt xs i) →
      (∀ s2, Moved (D :: wq) G s s2 → s2.heap.SetOf (strKind prog w) D (met xs n) (cnt xs n) → R (.ok (.ret .none)) s2) →
      codeAny (model prog w) A (.builtin "set.update.loop" ⟨[.ref D, .ref J], []⟩) R s := by
  have nW : D ∉ wq := fun z => nD (Wk.sub _ z)
  have wide : ∀ b ∈ wq, b ∈ D :: wq := fun _ z => .tail _ z
  have stay : ∀ {a b : Shared} {S : Str → Bool} {c : Nat}, Moved wq G a b → a.heap.SetOf (strKind prog w) D S c → b.heap.SetOf (strKind prog w) D S c := fun mv st => by
    obtain ⟨u, e1, e2, e3, e4, e5⟩ := st
    exact ⟨u, e1, e2, e3, mv.heap D _ nW e4, e5⟩
  intro left
  induction left with
  | zero =>
    intro i s hi st so fin
    have e : i = n := by omega
    subst e
    refine codeAny_builtin PyProof.Rows.F.entry_set_update_loop ?_
    rw [Around.under_plainId PyProof.Rows.F.plain_set_update_loop]
    refine wpAny_bind (m := pyNext (.ref J)) (Wk.done s _ _ st fun s2 mv => ?_)
    exact wpAny_pure (fin s2 (mv.mono wide) (stay mv so))
  | succ left ih =>
    intro i s hi st so fin
    have lt : i < n := by omega
    refine codeAny_builtin PyProof.Rows.F.entry_set_update_loop ?_
    rw [Around.under_plainId PyProof.Rows.F.plain_set_update_loop]
    refine wpAny_bind (m := pyNext (.ref J)) (Wk.item i s _ _ lt st fun v s2 hv st2 mv => ?_)
    obtain ⟨t, rfl⟩ := txt i v hv
    refine wpAny_bind (m := holding _ (setAdd D _)) (wpAny_holding ?_)
    unfold setAdd
    refine wpAny_holding (wpAny_bind ((strKind prog w).pyHash (k := xs.getD i Str.empty) (strKind_is _ _ _ _) ?_))
    have room : cnt xs i + 1 < scanBound := by
      have := cnt_le xs i
      omega
    have so2 := stay mv so
    refine wpAny_setAddHashed_of (knd := strKind prog w) (s := { s2 with toks := s2.toks + 1 }) (strKind_is _ _ _ _) rfl so2 room fun h3 same so3 => ?_
    have so4 : h3.SetOf (strKind prog w) D (met xs (i + 1)) (cnt xs (i + 1)) := PyProof.Rows.SetOf_congr so3 (fun z => (met_succ (by omega) z).symm) rfl
    have off : ∀ {b : Addr}, b ≠ D → h3.get? b = s2.heap.get? b := fun hb => same.2 _ hb
    refine wpAny_pure ⟨plainId_quiet PyProof.Rows.F.plain_set_update_loop _, ih (i + 1) _ (by omega) (Wk.frame _ s2 _ _ st2 (Nat.le_succ _) fun b hb o e => ?_) so4 fun s5 mv5 so5 => ?_⟩
    · have q : b ≠ D := fun z => nD (z ▸ hb)
      exact (off q).trans e
    · refine fin s5 (.trans Wk.gtrans ((mv.mono wide).then_heap (Nat.le_succ _) fun b o hb e => ?_) mv5) so5
      have q : b ≠ D := fun z => hb (z ▸ .head _)
      exact (off q).trans e
end
section
variable {prog : Program} {w : World} {A : Around} {E : Value → Shared → Prop} {s : Shared}
/-- a set without members -/
abbrev bare (led : Bool) : Obj := { cls := .type "set", dict := none, data := .set #[] 0 (.fresh 0 0 led) }
/-- what set(xs) leaves: a new set, all old objects as they were -/
def Left (prog : Program) (w : World) (s : Shared) (xs : List Str) (s2 : Shared) : Prop :=
  ∃ h2 tk, s2 = { s with heap := h2, toks := tk } ∧ h2.SetOf (strKind prog w) s.heap.objs.size (met xs xs.length) (cnt xs xs.length) ∧ ∀ b o, b < s.heap.objs.size → s.heap.get? b = some o → h2.get? b = some o
/-- __init__ of a new set from a list of texts -/
theorem set_init {l : Addr} {its : Array Value} {xs : List Str} {led : Bool} (calm : A.handled = none) (hl : s.heap.IsList l its) (hx : PyProof.Rows.StrsAre its.toList xs) (small : xs.length + 1 < scanBound)
    (hT : Shared.TypeIs { s with heap := s.heap.push (bare led) } (.ref s.heap.objs.size) "set") :
    codeAny (model prog w) A (.call (.builtin "set.__init__") ⟨[.ref s.heap.objs.size, .ref l], []⟩) (fun r s2 => r = .ok (.ret .none) ∧ Left prog w s xs s2) { s with heap := s.heap.push (bare led) } := by
  have new : (s.heap.push (bare led)).get? s.heap.objs.size = some (bare led) := Heap.get?_push_size _ rfl
  refine codeAny_call_builtin PySem.F.called_set.init.plain PySem.F.entry_set_init (check_set_init_1 hT ?_)
  have old : l < s.heap.objs.size := by
    obtain ⟨o, e, _⟩ := hl
    exact Heap.lt_size e
  have hl1 : (s.heap.push (bare led)).IsList l its := hl.push _
  have two : (s.heap.push (bare led)).objs.size = s.heap.objs.size + 1 := Heap.size_push _ _
  have two2 : ((s.heap.push (bare led)).push { cls := .type "list_iterator", data := .fields #[.ref l, .int 0 0] }).get? s.heap.objs.size = some (bare led) := Heap.get?_push_of_some _ new
  obtain ⟨⟨oc, odi, oda, osl⟩, e1, e2, nl, e3⟩ := id hl1
  simp only at e2 e3
  subst e2 e3
  have f1 := PySem.F.sub_list_set
  have f2 := PySem.F.sub_list_frozenset
  have f3 : (Value.type "list" == Value.type "dict") = false := by decide
  have f4 : A.in1.in1.handled = none := by simp [calm]
  unfold Builtin.«set.__init__» noKeywords Builtin.Frozenset.updateFrom
  generalize hPI : pyIter = PI
  wp_walk
  subst hPI
  have apart : l ≠ (s.heap.push (bare led)).objs.size := by
    rw [two]
    exact Nat.ne_of_lt (Nat.lt_succ_of_lt old)
  have size : its.size = xs.length := by rw [← Array.length_toList]; exact PyProof.Rows.StrsAre.len_eq hx
  refine wpAny_pyIter_list hl1 (wpAny_bind (wpAny_runValue ?_))
  refine turns (n := its.size) ((Walks.list f4 _ l apart its).toS) (D := s.heap.objs.size) ?_ size (by omega) (fun i v hv => SS.strs_at hx i v (by rw [Array.getElem?_toList]; exact hv)) its.size 0 _ (by omega) ⟨⟨_, Heap.get?_push_size _ rfl, rfl, rfl⟩, hl1.push _⟩ ?_ ?_
  · intro z
    rcases List.mem_cons.mp z with z | z
    · rw [two] at z
      exact Nat.ne_of_lt (Nat.lt_succ_self _) z
    · rcases List.mem_cons.mp z with z | z
      · exact Nat.ne_of_gt old z
      · cases z
  · exact PyProof.Rows.SetOf_congr ((PyProof.Rows.setObjOf_fresh (knd := strKind prog w) led).setOf two2 (by unfold scanBound; omega)) (fun z => by simp [met]) rfl
  · intro s2 mv so
    obtain ⟨h2, g2, d2, t2, o2⟩ := s2
    obtain rfl : g2 = s.gens := mv.gens
    obtain rfl : d2 = s.drawn := mv.drawn
    obtain rfl : o2 = s.os := mv.os
    rw [size] at so
    refine wpAny_pure (wpAny_pure ⟨rfl, h2, t2, rfl, so, fun b o hb e => ?_⟩)
    refine mv.heap b o (fun z => ?_) (Heap.get?_push_of_some _ (Heap.get?_push_of_some _ e))
    rcases List.mem_cons.mp z with z | z
    · exact Nat.ne_of_lt hb z
    · rcases List.mem_cons.mp z with z | z
      · rw [two] at z
        exact Nat.ne_of_lt (Nat.lt_succ_of_lt hb) z
      · cases z
/-- set(xs), xs a list of texts -/
theorem set_of_list {l : Addr} {its : Array Value} {xs : List Str} {Q : Value → Shared → Prop} (calm : A.handled = none) (hl : s.heap.IsList l its) (hx : PyProof.Rows.StrsAre its.toList xs) (small : xs.length + 1 < scanBound)
    (q : ∀ s2, Left prog w s xs s2 → Q (.ref s.heap.objs.size) s2) : wpAny (model prog w) A (call (.type "set") [.ref l]) Q E s := by
  have mk := PySem.F.called_set.made
  have sb := PySem.F.called_set.sub
  have nt := PySem.F.called_set.notType
  have cc := PySem.F.called_set.canCreate
  have tc := PySem.F.typeCall_set_1 (.ref l)
  have il := PySem.F.called_set.init.lookup
  have ib := PySem.F.called_set.init.bind (.ref s.heap.objs.size)
  obtain ⟨m1, m2, mr⟩ := PySem.F.called_set.mro
  have go : codeAny (model prog w) A (.builtin "type.__call__" ⟨[.type "set", .ref l], []⟩) (fun r s2 => match r with | .ok (.ret v) => Q v s2 | .ok _ => False | .error e => E e s2) s := ?goal
  · refine wpAny_call (codeAny_of_tree ?_)
    show wpAny _ _ (callAny (.type "set") _) _ _ _
    exact wpAny_pure ⟨Code.quiet_builtin _ (by decide +kernel), go⟩
  refine codeAny_builtin PySem.F.entry_type_call ?_
  rw [Around.under_plain (weight_type_call_type "set" _ []) rfl]
  repeat (any_goals (first | assumption | wp_step))
  refine codeAny_mono (code_set_new_1 (.ref l) (E := E) (Q₁ := fun v s1 => v = .ref s.heap.objs.size ∧ ∃ led : Bool, s1 = { s with heap := s.heap.push (bare led) }) fun led => ⟨rfl, led, rfl⟩) fun r s1 hr => ?_
  cases r with
  | error e => exact hr
  | ok fl =>
    cases fl with
    | ret v =>
      obtain ⟨rfl, led, rfl⟩ := hr
      have hT : Shared.TypeIs { s with heap := s.heap.push (bare led) } (.ref s.heap.objs.size) "set" := ⟨_, Heap.get?_push_size _ rfl, rfl⟩
      have c1 : A.in1.handled = none := by simp [calm]
      repeat (any_goals (first | assumption | wp_step))
      refine codeAny_mono (set_init c1 hl hx small hT) fun r s2 hr => ?_
      obtain ⟨rfl, lf⟩ := hr
      repeat (any_goals (first | assumption | wp_step))
      exact q s2 lf
    | _ => exact hr.elim
end
end Tx
set_option Elab.async false
set_option linter.all false
set_option maxRecDepth 100000
set_option maxHeartbeats 4000000
namespace Tx
open PySem PySem.Spec PyProof.Rows L2
/-- len(set(xs)), xs a list of texts -/
def tLenS (K : PySem.W.Frag) (ta : TE) : TE := fun σ H Q => ta σ H fun x H1 => ∃ l, ∃ xs : List Str, x = .ref l ∧ SqL K H1 l (xs.map V.str) ∧ xs.length < 1000 ∧ Q (.int (cnt xs xs.length : Nat)) H1
section
variable {X : Cx} {a : Expr} {ta : TE} {p p2 q pos : Pos}
theorem pe_lenS (calm : X.calm = true) (g1 : Gl X "len") (m1 : X.mg "len" = none) (g2 : Gl X "set") (m2 : X.mg "set" = none) (ha : PE X a ta)
    (na : starEach [a] X.env = (false, eval a X.env) :: starEach [] X.env := by rfl) : PE X (.Call (.Name "len" p) [.Call (.Name "set" p2) [a] [] q] [] pos) (tLenS X.K ta) := by
  refine ⟨fun pins s σ H Q I h => Call_ (ld_blt I g1 m1 boot_len ?_)⟩
  refine callWith_builtin1 (args_cons ?_ rfl) rfl rfl
  refine Call_ (ld_blt I g2 m2 boot_set ?_)
  refine callWith_type1 (args_cons (thn (ha.run pins s σ H _ I h) fun v s1 ⟨x, H1, I1, r1, q1⟩ => args_nil ?_) na) na rfl
  obtain ⟨l, xs, rfl, hq, small, q1⟩ := q1
  obtain rfl : v = Value.ref l := r1
  obtain ⟨its, r, pl, _⟩ := I1.list hq
  refine set_of_list (I1.ok.hd calm) pl.isList (by simpa using strsAre_of r) (by unfold scanBound; omega) fun s2 lf => args_nil ?_
  obtain ⟨h2, tk, rfl, so, keep⟩ := lf
  obtain ⟨o, es, ep, t, o1, o2, o3, _, _, _, o4, o5⟩ := so
  have I2 : L2.Inv X pins σ H1 { s1 with heap := h2, toks := tk } := I1.kept fun b o e => keep b o (Heap.lt_size e) e
  have le := cnt_le xs xs.length
  exact call_len_set o1 o2 o3 o4 (by omega) ⟨.int (cnt xs xs.length : Nat), H1, I2.tok _, ⟨_, by rw [o5]⟩, q1⟩
end
/-! when all are different -/
theorem cnt_full {xs : List Str} : ∀ {i : Nat}, i ≤ xs.length → (cnt xs i = i ↔ (xs.take i).Nodup)
  | 0, _ => by simp [cnt]
  | i + 1, h => by
    have ih := cnt_full (xs := xs) (i := i) (by omega)
    have le := cnt_le xs i
    have hi : i < xs.length := by omega
    have e : xs.getD i Str.empty = xs[i] := by rw [List.getD_eq_getElem?_getD, List.getElem?_eq_getElem hi]; rfl
    unfold cnt
    rw [List.take_add_one, List.getElem?_eq_getElem hi, Option.toList_some, List.nodup_append, e]
    unfold met
    by_cases hm : xs[i] ∈ xs.take i
    · rw [if_pos (decide_eq_true hm)]
      constructor
      · intro z
        omega
      · rintro ⟨_, _, z⟩
        exact absurd rfl (z _ hm _ (List.mem_singleton.mpr rfl))
    · rw [if_neg (by simpa using hm)]
      constructor
      · intro z
        refine ⟨ih.mp (by omega), by simp, fun a ha b hb e => hm ?_⟩
        rw [← List.mem_singleton.mp hb, ← e]
        exact ha
      · rintro ⟨z, _⟩
        rw [ih.mpr z]
theorem cnt_nodup (xs : List Str) : decide ((cnt xs xs.length : Int) = (xs.length : Int)) = decide xs.Nodup := by
  have h := cnt_full (xs := xs) (Nat.le_refl xs.length)
  rw [List.take_length] at h
  by_cases n : xs.Nodup
  · rw [decide_eq_true n, decide_eq_true (by have := h.mpr n; omega)]
  · rw [decide_eq_false n, decide_eq_false fun z => n (h.mp (by omega))]
end Tx
set_option Elab.async false
set_option linter.all false
set_option maxRecDepth 100000
set_option maxHeartbeats 4000000
namespace DX
open PySem PySem.Spec PyProof.Rows L2
/-! ### C(**d), d a dict whose keys are texts -/
section
variable {prog : Program} {w : World} {A : Around} {E : Value → Shared → Prop} {s : Shared}
theorem key_text {k : Key} {v : Value} (h : (mixKind prog w).is k v = true) : ∀ z, k = .inr z → ∃ t, v = .str z t := by
  rintro z rfl
  cases v with
  | str y t =>
    have h : (Value.str y t).isStr z = true := h
    exact KTD.kt_isStr h
  | _ => exact nomatch (show (false : Bool) = true from h)
theorem put_new {K : Type} [DecidableEq K] {knd : KeyKind prog w K} {d : Addr} {kvs : List (K × Value)} {k : K} {key v : Value} {Q : Unit → Shared → Prop} (hkey : knd.is k key = true) (hm : s.heap.DictOf knd d kvs) (hnot : k ∉ kvs.map (·.1))
    (hQ : ∀ h', h'.DictOf knd d (kvs ++ [(k, v)]) → Heap.SameBut d s.heap h' → Q () { s with heap := h' }) (hsz : kvs.length ≤ sizeLine) :
    wpAny (model prog w) A (dictFind d key (knd.hash k)) (fun i s' => i = none ∧ s' = s) E s ∧ wpAny (model prog w) A (dictPut d (knd.hash k) key v) Q E s := by
  obtain ⟨o, es, ep, ho, hc, hd, hk, hp, hn⟩ := hm
  have hes : es.size ≤ sizeLine := by
    have e1 := hp.length
    have e2 : es.toList.length = es.size := by simp
    omega
  have hidx : (es.findIdx? fun e => knd.is k e.key) = kvs.findIdx? fun kv => decide (kv.1 = k) := by
    rw [← hp.findIdx k]; obtain ⟨l⟩ := es; simp
  have hno : (es.findIdx? fun e => knd.is k e.key) = none := by
    rw [hidx, List.findIdx?_eq_none_iff]
    intro x hx
    exact decide_eq_false fun z => hnot (List.mem_map.mpr ⟨x, hx, z⟩)
  have hany : ¬ (kvs.any fun kv => decide (kv.1 = k)) = true := by
    rw [List.any_eq_true]; rintro ⟨kv, hkv, he⟩
    exact hnot (List.mem_map.mpr ⟨kv, hkv, of_decide_eq_true he⟩)
  refine ⟨wpAny_dictFind_of hkey ho hd hk (by rw [hno]; exact ⟨rfl, rfl⟩), ?_⟩
  unfold dictPut
  refine wpAny_bind (wpAny_dictFind_of hkey ho hd hk ?_)
  rw [hno]
  refine wpAny_updateDictKeys (hz := hes) ho hd (hQ _ ⟨_, _, ep + 1, Heap.get?_update_self _ ho (Obj.isFreed_of_dict (Obj.data_mapDictKeys hd _)), hc.mapDictKeys _, Obj.data_mapDictKeys hd _, hk.push hkey _, ?_, ?_⟩ (Heap.SameBut.update ..))
  · have := hp.append hkey (knd.hash k) v
    obtain ⟨l⟩ := es
    simpa using this
  · rw [List.map_append, List.nodup_append]
    refine ⟨hn, by simp, ?_⟩
    intro a ha b hb
    simp only [List.map_cons, List.map_nil, List.mem_singleton] at hb
    subst hb
    exact fun e => hnot (e ▸ ha)
theorem merge_map {d o : Addr} {more : List (Key × Value)} {Q : Unit → Shared → Prop} (hdo : d ≠ o) (hoS : (o == sysModules) = false) (hd : s.heap.DictOf (mixKind prog w) d []) (ho : s.heap.DictOf (mixKind prog w) o more)
    (ht : ∀ p ∈ more, ∃ z, p.1 = .inr z) (hQ : ∀ h', h'.DictOf (mixKind prog w) d more → Heap.SameBut d s.heap h' → Q () { s with heap := h' }) (hsz : more.length ≤ sizeLine) :
    wpAny (model prog w) A (mergeMapping d (.ref o) true) Q E s := by
  obtain ⟨od, esd, epd, hod, hcd, hdd, hkd, hpd, hnd⟩ := id hd
  obtain ⟨oo, eso, epo, hoo, hco, hdo', hko, hpo, hno⟩ := id ho
  have hlen : more.length = eso.size := by rw [← hpo.length]; simp
  have hstr : ∀ e ∈ eso.toList, ∃ z t, e.key = .str z t := fun e he => by
    obtain ⟨i, hi⟩ := List.getElem?_of_mem he
    have hlt : i < more.length := by rw [hlen]; have := (List.getElem?_eq_some_iff.mp hi).1; simpa using this
    obtain ⟨hkey, _⟩ := hpo.get? (k := more[i].1) (v := more[i].2) hi (List.getElem?_eq_getElem hlt)
    obtain ⟨z, hz⟩ := ht _ (List.getElem_mem hlt)
    exact ⟨z, key_text hkey z hz⟩
  unfold mergeMapping
  refine wpAny_bind (wpAny_isInstance ho.typeIs isSubtype_dict_dict ?_)
  simp only [if_true]
  refine wpAny_bind (wpAny_specialOf ho.typeIs F.slot_dict_iter.lookup (wpAny_bind (wpAny_pure ?_)))
  simp only [beq_self_eq_true]
  rw [if_neg (by rw [hoS]; exact Bool.false_ne_true)]
  refine wpAny_bind (wpAny_dictEntries hod hdd ?_)
  have he0 : esd.isEmpty = true := by
    have h := hpd.length
    have : esd.toList = [] := List.length_eq_zero_iff.mp (by simpa using h)
    simpa using this
  rw [if_pos he0]
  refine wpAny_bind (wpAny_dictEntries hoo hdo' ?_)
  refine wpAny_bind (MeetsSeq2.wpAny_forIn_array _ (fun rest _ s' => s' = s ∧ ∀ e ∈ rest, ∃ z t, e.key = .str z t) _ ?_ ?_ _ _ ⟨rfl, hstr⟩)
  · rintro e rest b s' ⟨rfl, hr⟩
    obtain ⟨z, t, hk⟩ := hr e List.mem_cons_self
    rw [hk]
    exact wpAny_pure ⟨rfl, fun e' he' => hr e' (List.mem_cons_of_mem _ he')⟩
  · rintro b s' ⟨rfl, _⟩
    refine wpAny_bind (wpAny_dictEntries hoo hdo' ?_)
    refine wpAny_bind (wpAny_dictEpoch hoo hdo' ?_)
    refine wpAny_bind ?_
    refine wpAny_forIn_list _
      (fun rest _ s2 => ∃ h' i, s2 = { s' with heap := h' } ∧ rest = List.range' i (eso.size - i) ∧ i ≤ eso.size ∧ h'.DictOf (mixKind prog w) d (more.take i) ∧ h'.get? o = some oo ∧ Heap.SameBut d s'.heap h')
      _ ?_ ?_ _ _ ⟨s'.heap, 0, rfl, by rw [List.range_eq_range']; simp, Nat.zero_le _, by simpa using hd, hoo, Heap.SameBut.refl _ _⟩
    · rintro x rest b s2 ⟨h', i, rfl, hr, hi, hd', hoo', hs'⟩
      have hlt : i < eso.size := by
        rcases Nat.lt_or_ge i eso.size with h | h
        · exact h
        · rw [Nat.sub_eq_zero_of_le h] at hr; simp at hr
      obtain ⟨rfl, hrest⟩ : x = i ∧ rest = List.range' (i + 1) (eso.size - (i + 1)) := by
        have e : eso.size - i = (eso.size - (i + 1)) + 1 := by omega
        rw [e, List.range'_succ] at hr
        injection hr with h1 h2
        exact ⟨h1, h2⟩
      refine wpAny_bind (wpAny_dictEntries hoo' hdo' ?_)
      rw [Array.getElem?_eq_getElem hlt]
      obtain ⟨kv, hkv⟩ : ∃ kv, more[x]? = some kv := ⟨more[x]'(by rw [hlen]; exact hlt), List.getElem?_eq_getElem _⟩
      obtain ⟨k, v⟩ := kv
      obtain ⟨hkey, hval⟩ := hpo.get? (e := eso[x]) (by simp [hlt]) hkv
      obtain ⟨k', hkey', hhash⟩ := hko eso[x] (Array.getElem_mem hlt)
      obtain rfl : k' = k := (mixKind prog w).inj _ _ _ hkey' hkey
      have hnew : k' ∉ (more.take x).map (·.1) := fun hm => by
        rw [← List.take_append_drop x more, List.map_append, List.nodup_append] at hno
        have hx : k' ∈ (more.drop x).map (·.1) := List.mem_map.mpr ⟨(k', v), List.mem_of_getElem? (i := 0) (by rw [List.getElem?_drop]; exact hkv), rfl⟩
        exact hno.2.2 _ hm _ hx rfl
      have hmx : (more.take x).length ≤ sizeLine := by rw [List.length_take]; omega
      have hput := fun Q hQ => put_new (A := A) (E := E) (s := { s' with heap := h' }) (v := v) (Q := Q) hkey hd' hnew hQ hmx
      dsimp only
      rw [hhash, hval]
      refine wpAny_bind (wpAny_holding ?_)
      refine wpAny_bind (wpAny_mono (hput (fun _ _ => True) fun _ _ _ => trivial).1 (fun r s3 ⟨e1, e2⟩ => ?_) fun _ _ z => z)
      subst e1 e2
      rw [if_neg (by exact Bool.false_ne_true)]
      refine (hput _ fun h'' hd'' hs'' => ?_).2
      have hoo'' : h''.get? o = some oo := (hs''.2 o (Ne.symm hdo)).trans hoo'
      refine wpAny_bind (wpAny_dictEpoch hoo'' hdo' ?_)
      rw [if_neg (by simp)]
      refine wpAny_pure ⟨h'', x + 1, rfl, hrest, hlt, ?_, hoo'', hs'.trans hs''⟩
      rw [List.take_add_one, hkv]
      exact hd''
    · rintro b s2 ⟨h', i, rfl, hr, hi, hd', hoo', hs'⟩
      have hin : i = eso.size := by
        rcases Nat.lt_or_ge i eso.size with h | h
        · have e : eso.size - i = (eso.size - (i + 1)) + 1 := by omega
          rw [e, List.range'_succ] at hr; exact nomatch hr
        · exact Nat.le_antisymm hi h
      rw [hin, ← hlen, List.take_length] at hd'
      exact wpAny_pure (hQ h' hd' hs')
theorem keywords_in {f : Value} {d : Addr} {more : List (Key × Value)} {Q : List (Str × Value) → Shared → Prop} (hd : s.heap.DictOf (mixKind prog w) d more) {ks : List Str} (hk : more.map (·.1) = ks.map .inr)
    (h : Q (ks.zip (more.map (·.2))) s) : wpAny (model prog w) A (keywordsIn f d) Q E s := by
  obtain ⟨o, es, ep, ho, hc, hd', hk', hp, hn⟩ := hd
  unfold keywordsIn
  refine wpAny_bind (wpAny_dictEntries ho hd' ?_)
  have hlen : more.length = es.size := by rw [← hp.length]; simp
  have hkl : ks.length = more.length := by
    have := congrArg List.length hk
    simpa using this.symm
  refine wpAny_bind (MeetsSeq2.wpAny_forIn_array _ (fun rest kw s' => s' = s ∧ ∃ i, rest = es.toList.drop i ∧ i ≤ es.size ∧ kw = (ks.zip (more.map (·.2))).take i) _ ?_ ?_ _ _ ⟨rfl, 0, by simp, Nat.zero_le _, by simp⟩)
  · rintro e rest kw s' ⟨rfl, i, hr, hi, rfl⟩
    have hlt : i < es.size := by
      rcases Nat.lt_or_ge i es.size with h | h
      · exact h
      · rw [List.drop_eq_nil_of_le (by simpa using h)] at hr; cases hr
    have hl : es.toList.drop i = es.toList[i]'(by simpa using hlt) :: es.toList.drop (i + 1) := List.drop_eq_getElem_cons _
    rw [hl] at hr
    obtain ⟨h1, h2⟩ := List.cons.inj hr
    have hm : more[i]? = some (more[i]'(by omega)) := List.getElem?_eq_getElem _
    obtain ⟨hkey, hval⟩ := hp.get? (i := i) (e := e) (k := (more[i]'(by omega)).1) (v := (more[i]'(by omega)).2) (by rw [h1]; exact List.getElem?_eq_getElem _) hm
    have hki : (more[i]'(by omega)).1 = .inr (ks[i]'(by omega)) := by
      have := congrArg (fun l => l[i]?) hk
      simp only [List.getElem?_map, hm, List.getElem?_eq_getElem (show i < ks.length by omega), Option.map_some] at this
      exact Option.some.inj this
    obtain ⟨t, ht⟩ := key_text hkey _ hki
    have hz : (ks.zip (more.map (·.2)))[i]? = some (ks[i]'(by omega), e.val) := by
      rw [List.getElem?_zip_eq_some]
      refine ⟨List.getElem?_eq_getElem _, ?_⟩
      rw [List.getElem?_map, hm, hval]; rfl
    rw [ht]
    refine wpAny_pure ⟨rfl, i + 1, h2, hlt, ?_⟩
    rw [List.take_add_one, hz]; rfl
  · rintro kw s' ⟨rfl, i, hr, hi, rfl⟩
    have hin : i = es.size := by
      rcases Nat.lt_or_ge i es.size with h | h
      · rw [List.drop_eq_getElem_cons (by simpa using h)] at hr; cases hr
      · exact Nat.le_antisymm hi h
    have hl : (ks.zip (more.map (·.2))).length ≤ i := by rw [List.length_zip, List.length_map]; omega
    rw [List.take_of_length_le hl]
    exact wpAny_pure h
/-- the keywords of f(**x) -/
theorem eval_spread {f : Value} {t : Sem Value} {Q : Args → Shared → Prop} {ks : List Str}
    (h : wpAny (model prog w) A t (fun v s1 => ∃ a more, v = .ref a ∧ a ≠ s.heap.objs.size ∧ (a == sysModules) = false ∧ s1.heap.DictOf (mixKind prog w) a more ∧ s1.heap.DictOf (mixKind prog w) s.heap.objs.size [] ∧ more.length ≤ sizeLine ∧ more.map (·.1) = ks.map .inr ∧
      ∀ h', h'.DictOf (mixKind prog w) s.heap.objs.size more → Heap.SameBut s.heap.objs.size s1.heap h' → Q ⟨[], ks.zip (more.map (·.2))⟩ { s1 with heap := h' }) E { s with heap := s.heap.push { cls := .type "dict", data := .dict #[] } }) :
    wpAny (model prog w) A (evalArgs f true [] [(none, t)]) Q E s := by
  unfold evalArgs
  refine wpAny_bind (wpAny_pure ?_)
  refine wpAny_bind (wpAny_pure ?_)
  dsimp only
  refine wpAny_holding ?_
  rw [if_neg (by simp)]
  refine wpAny_bind ?_
  unfold mergedKeywords
  refine wpAny_bind (wpAny_alloc (wpAny_bind (wpAny_holding ?_)))
  dsimp only
  rw [List.forIn_cons]
  refine wpAny_bind (wpAny_bind ?_)
  dsimp only
  refine wpAny_bind (wpAny_pure ?_)
  refine wpAny_bind (wpAny_mono h (fun v s1 ⟨a, more, e1, e2, e3, da, dd, hz, hk, q⟩ => ?_) fun _ _ z => z)
  subst e1
  have hm : wpAny (model prog w) A (mergeMapping s.heap.objs.size (.ref a) true) (fun _ s2 => ∃ h', s2 = { s1 with heap := h' } ∧ h'.DictOf (mixKind prog w) s.heap.objs.size more ∧ Heap.SameBut s.heap.objs.size s1.heap h') (fun _ _ => False) s1 := by
    refine merge_map (Ne.symm e2) e3 dd da (fun p hp => ?_) (fun h' d1 d2 => ⟨h', rfl, d1, d2⟩) hz
    have hx : p.1 ∈ ks.map .inr := by rw [← hk]; exact List.mem_map.mpr ⟨p, hp, rfl⟩
    obtain ⟨z, _, hz⟩ := List.mem_map.mp hx
    exact ⟨z, hz.symm⟩
  refine wpAny_bind (wpAny_onRaise (wpAny_holding (wpAny_tryCatch (wpAny_onRaise (wpAny_mono hm (fun _ s2 hs => ?_) fun _ _ z => False.elim z)))))
  obtain ⟨h', rfl, d1, d2⟩ := hs
  refine wpAny_pure ?_
  dsimp only
  rw [List.forIn_nil]
  refine wpAny_pure ?_
  refine wpAny_pure ?_
  refine wpAny_pure ?_
  refine wpAny_bind (wpAny_pure (wpAny_bind (wpAny_holding (keywords_in (s := { s1 with heap := h' }) d1 hk (wpAny_pure ?_)))))
  exact q h' d1 d2
end
/-- C(**e) -/
def tMakeK2 (C : Addr) (ks : List Str) (sp : Sp) (E : L2.St → XK) (te : TE) : TE := fun σ H Q => ∀ p, H p = none → te σ (upd H p (.dK [])) fun x H1 => H1 p = some (.dK []) ∧ ∃ a kvs, x = .ref a ∧ a ≠ p ∧ Rd H1 a (.dK kvs) ∧ kvs.map (·.1) = ks.map .inr ∧
  ∀ y dy, (upd H1 p (.dK kvs)) y = none → (upd H1 p (.dK kvs)) dy = none → dy ≠ y → sp (.ref y :: kvs.map (·.2)) (upd (upd (upd H1 p (.dK kvs)) dy (.own y)) y (.ins C dy [])) (fun v H3 => v = .non ∧ Q (.ref y) H3) (E σ)
section
variable {M : Model} {A : Around} {E : Value → Shared → Prop} {s : Shared}
theorem ks_callK2 {f : Value} {first : List Value} {pos : Pos} {Q : Value → Shared → Prop} {P : Heap → Prop} {args : List (Bool × Sem Value)} {kw : List (Option Str × Sem Value)} (hst : (args.any (·.1) || kw.any (·.1.isNone)) = true)
    (hk : ∀ h, P h → ∃ k, (k = Keeper.frame ∨ k = Keeper.machine ∨ k = Keeper.boundFrame) ∧ PySem.W.Looks M h (keeperOf f) k)
    (h : wpAny M A (evalArgs f true args kw) (fun a s₁ => P s₁.heap ∧ wpAny M A (call f (first ++ a.pos) a.kw) Q E s₁) E s) : wpAny M A (callWith pos f first args kw) Q E s := by
  unfold callWith
  refine wpAny_bind (wpAny_holding (wpAny_mono h (fun a s₁ h₁ => wpAny_bind (wpAny_standAt ?_)) fun _ _ x => x))
  obtain ⟨k, hk', L⟩ := hk _ h₁.1
  simp only [hst]
  refine wpAny_bind (L.here ?_)
  have tail : ∀ {t : Sem Value}, wpAny M A t Q E s₁ → wpAny M A (t >>= fun r => holding [r] point >>= fun _ => pure r) Q E s₁ :=
    fun ht => wpAny_bind (wpAny_mono ht (fun r s₂ hr => wpAny_bind (wpAny_holding (wpAny_point (wpAny_pure hr)))) fun _ _ x => x)
  have marked (mk : Value) : wpAny M A (callMarked mk f (first ++ a.pos) a.kw) Q E s₁ := by unfold callMarked; exact Calls.wpAny_keep h₁.2
  rcases hk' with rfl | rfl | rfl <;> dsimp only <;> first | exact tail (marked _) | exact tail (wpAny_operating h₁.2)
end
section
variable {X : Cx} {k : Nat} {f C : Addr} {ks : List Str} {sp : Sp} {Ex : L2.St → XK} {x : Str} {p pos : Pos} {e : Expr} {kws : List Keyword} {te : TE}
theorem vals_kv : ∀ {kvs : List (Key × V)} {vs : List (Key × Value)}, KV kvs vs → Vals (kvs.map (·.2)) (vs.map (·.2)) := by
  intro kvs vs r
  unfold KV at r
  induction r with
  | nil => exact .nil
  | cons h _ ih => exact .cons h.2 ih
theorem keys_kv : ∀ {kvs : List (Key × V)} {vs : List (Key × Value)}, KV kvs vs → vs.map (·.1) = kvs.map (·.1) := by
  intro kvs vs r
  unfold KV at r
  induction r with
  | nil => rfl
  | cons h _ ih => rw [List.map_cons, List.map_cons, ih, h.1]
theorem pe_makeK2 (M : Mk X.K C f) (F : FnKC X.prog X.w X.K X.mg X.base (L2.CX X.prog X.w) k f ks sp) (g : Gd.Calm0 X.A) (hr : Room (k + 1) X.A) (hg : Gl X x) (hm : X.mg x = some (.ref C)) (tkx : Tk X Ex) (he : PE X e te)
    (hkw : backToKw pos (keywordEach kws X.env) = [(none, do let v ← eval e X.env; standAt pos; pure v)] := by rfl) (hdb : (x == ("__debug__" : Str)) = false := by decide) :
    PE X (.Call (.Name x p) [] kws pos) (tMakeK2 C ks sp Ex te) := by
  refine ⟨fun pins s σ H Q I h => ?_⟩
  refine wpAny_Call_Name_kw (ld_glob I hg hm ?_ hdb)
  rw [hkw]
  refine ks_callK2 (P := fun h => X.K.In h) (by rfl) (fun h hh => PySem.W.keeps_K M.kp h hh) ?_
  have hn := I.hok.fresh (Nat.le_refl s.heap.objs.size)
  have I1 := I.laid (a := s.heap.objs.size) (o := .dK []) (h' := s.heap.push { cls := .type "dict", data := .dict #[] }) (t' := s.toks) (fun _ _ q => Heap.get?_push_of_some _ q) (Nat.le_refl _) (dk_empty s.heap I.big)
  refine eval_spread (ks := ks) (wpAny_bind (thn (he.run pins _ σ _ _ I1 (h _ hn)) fun v s1 ⟨y, H1, I2, ry, e1, a, kvs, ey, ne, ea, hk, q⟩ => wpAny_bind (wpAny_standAt (wpAny_pure ?_))))
  subst ey
  obtain rfl : v = Value.ref a := ry
  obtain ⟨z0, hd0, vs0, r0, dd0⟩ := dk_of I2.hok e1
  obtain ⟨z1, hd1, vs1, r1, dd1⟩ := dk_rd I2.hok ea
  cases r0
  refine ⟨a, vs1, rfl, ne, hd1, dd1, dd0, by rw [← KV.length r1]; exact z1, by rw [keys_kv r1, hk], fun h' dd' hs => ?_⟩
  have he' : ∃ q, h'.get? s.heap.objs.size = some q := let ⟨q, _, _, hq, _⟩ := dd'; ⟨q, hq⟩
  have I3 := d_write (t' := s1.toks) I2 (by rw [e1]; exact True.intro) hs he' (dk_new (H' := upd H1 s.heap.objs.size (.dK kvs)) z1 hd0 r1 dd')
  refine ⟨I3.kIn, ?_⟩
  refine run_makeC (us := []) (vs := []) M F g hr (tk_pass tkx σ) I3 .nil (vals_kv r1) ?_ q
  have := congrArg List.length hk
  simpa using this
end
/-- as data -/
def uMakeK2 (fr : Bool) (C : Addr) (ks : List Str) (S : DSp) (ue : DTE) : DTE := fun ρ μ Q E => ue ρ μ (fun x μ1 => ∃ kvs, dicAt μ1 x = some kvs ∧ kvs.map (·.1) = ks.map .inr ∧ if fr = true then dMakeM C S (kvs.map (·.2)) μ1 Q (E ρ) else dMakeF C S (kvs.map (·.2)) μ1 Q (E ρ)) E
section
variable {K : PySem.W.Frag} {Z : Hp} {as as' as1 : List Addr} {F F' F1 H H' H1 : Hp} {Ex : L2.St → XK}
theorem RepK.vals : ∀ {vs : List (Key × V)} {ds : List (Key × D)}, RepK K as F vs ds → RepL K as F (vs.map (·.2)) (ds.map (·.2))
  | _, _, .nil => .nil
  | _, _, .cons h r => .cons h (RepK.vals r)
theorem RepK.keys : ∀ {vs : List (Key × V)} {ds : List (Key × D)}, RepK K as F vs ds → vs.map (·.1) = ds.map (·.1)
  | _, _, .nil => rfl
  | _, _, .cons h r => by rw [List.map_cons, List.map_cons, RepK.keys r]
theorem Mm.unhide {μ : Mem} {p : Addr} {o : HO} (M : Mm K (upd Z p o) as F H μ) (nz : Z p = none) : Mm K Z as F H μ := ⟨M.same, M.len, M.nd, M.fr, M.at_, fun a o e => M.hid a o (by rw [upd_ne (fun z : a = p => by subst z; rw [nz] at e; cases e)]; exact e)⟩
theorem sim_makeK2 {C : Addr} {ks : List Str} {S : DSp} {te : TE} {ue : DTE} (fr : Bool) (a : Sim K Ex te ue) : Sim K Ex (tMakeK2 C ks (toSp K S) Ex te) (uMakeK2 fr C ks S ue) := fun Z as F H σ ρ μ Q E Q' R X h k => fun p np => by
  have nZ : Z p = none := by
    cases e : Z p with
    | none => rfl
    | some o => have := (R.mm.hid p o e).1; rw [np] at this; cases this
  have X2 : XL K Ex (upd Z p (.dK [])) as F E := fun σ2 ρ2 μ2 as2 F2 H2 C gs dx g R2 er q => X σ2 ρ2 μ2 as2 F2 H2 C gs dx g ⟨R2.mm.unhide nZ, R2.env⟩ er q
  refine a (upd Z p (.dK [])) as F _ σ ρ μ _ E _ ⟨R.mm.hide np, R.env⟩ X2 h fun v d μ1 as1 F1 H1 g1 R1 r1 h1 => ?_
  obtain ⟨kvs, ed, ek, h1⟩ := h1
  obtain ⟨e1, e2, e3⟩ := R1.mm.hid p _ upd_same
  obtain ⟨q, vs, rfl, hq, rk⟩ := dic_at R1.mm r1 ed
  have nqp : q ≠ p := fun z => by
    subst z
    cases r1 with
    | ob x => exact e3 (List.mem_of_getElem? x)
    | dic x _ => rw [e2] at x; cases x
    | fd x _ => rw [e2] at x; cases x
    | val _ => cases ed
    | _ => cases ed
  have M2 := (R1.mm.rehide (o' := .dK vs)).unhide nZ
  have R2 : Rp K Z as1 F1 (upd H1 p (.dK vs)) σ ρ μ1 := ⟨M2, R1.env⟩
  refine ⟨e1, q, vs, rfl, nqp, hq, by rw [rk.keys, ek], fun y dy ny nd ne => ?_⟩
  exact sim_makeV R2 (X.up g1) rk.vals fr h1 (fun v d μ' as' F' H' g M r q => k v d μ' as' F' H' (g1.trans g) M r q) ny nd ne
end
section
variable {X : Cx} {K : PySem.W.Frag} {Ex : L2.St → XK} {k : Nat} {f C : Addr} {ks : List Str} {S : DSp} {x : Str} {p pos : Pos} {e : Expr} {kws : List Keyword} {te : TE} {ue : DTE}
theorem d_makeK2 (fr : Bool) (M : Mk K C f) (F : FnC X.prog X.w K X.mg X.base k f ks S) (hm : X.mg x = some (.ref C)) (g : Gd.Calm0 X.A) (hr : Room (k + 1) X.A) (tkx : Tk X Ex) (he : PD X K Ex e te ue) (hK : X.K = K := by rfl) (hg : Gl X x := by rfl)
    (hkw : backToKw pos (keywordEach kws X.env) = [(none, do let v ← eval e X.env; standAt pos; pure v)] := by rfl) (hdb : (x == ("__debug__" : Str)) = false := by decide) :
    PD X K Ex (.Call (.Name x p) [] kws pos) (tMakeK2 C ks (toSp K S) Ex te) (uMakeK2 fr C ks S ue) := by
  subst hK
  exact ⟨pe_makeK2 M F g hr hg hm tkx he.pe hkw hdb, sim_makeK2 fr he.sim⟩
end
end DX
set_option Elab.async false
set_option linter.all false
set_option maxRecDepth 100000
set_option maxHeartbeats 4000000
namespace DX
open PySem PySem.Spec PyProof.Rows L2
/-! ### len(set(xs)), xs a list of texts -/
def uLenS (ue : DTE) : DTE := fun ρ μ Q E => ue ρ μ (fun x μ1 => ∃ xs : List Str, view μ1 x = .lst (xs.map .str) ∧ xs.length < 1000 ∧ Q (.int (Tx.cnt xs xs.length : Nat)) μ1) E
section
variable {K : PySem.W.Frag} {Z : Hp} {as as' as1 : List Addr} {F F' F1 H H' H1 : Hp} {Ex : L2.St → XK}
theorem strs_of_rep : ∀ {vs : List V} {xs : List Str}, RepL K as F vs (xs.map .str) → vs = xs.map V.str
  | _, [], .nil => rfl
  | _, x :: xs, .cons h r => by
    cases h
    rw [strs_of_rep r]; rfl
theorem sim_lenS {te : TE} {ue : DTE} (a : Sim K Ex te ue) : Sim K Ex (Tx.tLenS K te) (uLenS ue) := fun Z as F H σ ρ μ Q E Q' R X h k =>
  a Z as F H σ ρ μ _ E _ R X h fun v d μ1 as1 F1 H1 g1 R1 r1 h1 => by
    obtain ⟨xs, e, hl, q⟩ := h1
    obtain ⟨p, vs, rfl, hq, rl⟩ := view_lst R1.mm r1 e
    rw [strs_of_rep rl] at hq
    exact ⟨p, xs, rfl, hq, hl, k _ _ μ1 as1 F1 H1 g1 R1 (.int _) q⟩
end
section
variable {X : Cx} {K : PySem.W.Frag} {Ex : L2.St → XK} {p p2 q pos : Pos} {e : Expr} {te : TE} {ue : DTE}
theorem d_lenS (m1 : X.mg "len" = none) (m2 : X.mg "set" = none) (he : PD X K Ex e te ue) (hK : X.K = K := by rfl) (hc : X.calm = true := by rfl) (g1 : Gl X "len" := by rfl) (g2 : Gl X "set" := by rfl)
    (na : starEach [e] X.env = (false, eval e X.env) :: starEach [] X.env := by rfl) : PD X K Ex (.Call (.Name "len" p) [.Call (.Name "set" p2) [e] [] q] [] pos) (Tx.tLenS K te) (uLenS ue) := by
  subst hK
  exact ⟨Tx.pe_lenS hc g1 m1 g2 m2 he.pe na, sim_lenS he.sim⟩
end
end DX
set_option Elab.async false
set_option linter.all false
set_option maxRecDepth 100000
set_option maxHeartbeats 4000000
namespace DX
open PySem PySem.Spec PyProof.Rows L2
/-! ### keyword-only parameters -/
/-- the values in the parameters' order: those ahead, then by place among the given and the lacking ones -/
def gsel {α : Type} (sel : List Nat) (us ws mv : List α) : List α := us ++ sel.flatMap fun i => ((ws ++ mv)[i]?).toList
theorem opt_vals {vs : List V} {us : List Value} (r : Vals vs us) (i : Nat) : Vals (vs[i]?).toList (us[i]?).toList := by
  have hl := r.length
  cases e : vs[i]? with
  | none =>
    have : us[i]? = none := by rw [List.getElem?_eq_none_iff] at e ⊢; omega
    rw [this]; exact .nil
  | some v =>
    obtain ⟨u, h1, h2⟩ := paired_get r e
    rw [h1]
    exact .cons h2 .nil
theorem gsel_vals {sel : List Nat} {vs zs mw : List V} {us ws mv : List Value} (a : Vals vs us) (b : Vals zs ws) (c : Vals mw mv) : Vals (gsel sel vs zs mw) (gsel sel us ws mv) := by
  refine a.append ?_
  have r := b.append c
  induction sel with
  | nil => exact .nil
  | cons i sel ih => rw [List.flatMap_cons, List.flatMap_cons]; exact (opt_vals r i).append ih
section
variable {K : PySem.W.Frag} {as : List Addr} {F : Hp}
theorem gsel_reps {sel : List Nat} {vs zs mw : List V} {ds es md : List D} (a : RepL K as F vs ds) (b : RepL K as F zs es) (c : RepL K as F mw md) : RepL K as F (gsel sel vs zs mw) (gsel sel ds es md) := by
  refine a.append ?_
  have r := b.append c
  induction sel with
  | nil => exact .nil
  | cons i sel ih =>
    rw [List.flatMap_cons, List.flatMap_cons]
    refine RepL.append ?_ ih
    cases e : (es ++ md)[i]? with
    | none =>
      have : (zs ++ mw)[i]? = none := by rw [List.getElem?_eq_none_iff] at e ⊢; rw [r.len]; exact e
      rw [this]; exact .nil
    | some d =>
      obtain ⟨v, h1, h2⟩ := r.get e
      rw [h1]; exact .cons h2 .nil
end
theorem BindK.of {K : PySem.W.Frag} {fd : FuncData} {ps ks : List Str} {n : Nat} {mv : List Value} {sel : List Nat} {D : Addr} {l : List (Str × Value)} (hl : ∀ q ∈ l, PySem.W.nsIn K D q.1 = some (some q.2))
    (h : ∀ us ws : List Value, us.length = n → ws.length = ks.length → KwEnd D l (bindArgs fd ⟨us, ks.zip ws⟩) (pure (ps.zip (gsel sel us ws mv)))) : BindK K fd ps ks n mv (fun us ws mv => gsel sel us ws mv) := fun s us ws X h1 h2 M A E Q hq =>
  KwEnd.wp X hl (h us ws h1 h2) (wpAny_pure hq)
section
variable {P : Program} {w : World} {K : PySem.W.Frag} {mg : Str → Option Value} {base : Heap} {k : Nat} {f : Addr} {fd : FuncData} {ps ks : List Str} {S : DSp}
theorem FnB.kwsel {n : Nat} {mv : List Value} {mw : List V} {md : List D} (sel : List Nat) (Fb : FnB P w K mg base k f fd ps S) (rmv : Vals mw mv) (rmd : ∀ as F, RepL K as F mw md) (hb : BindK K fd ps ks n mv (fun us ws mv => gsel sel us ws mv)) : FnC P w K mg base k f ks (kwS n ks.length md (fun us ws mv => gsel sel us ws mv) S) :=
  Fb.kw rmv rmd hb (fun a b _ _ => gsel_vals a b rmv) (fun a b _ _ => gsel_reps a b (rmd _ _))
end
theorem look_no {k : Str} : ∀ {l : List (Str × Value)}, k ∉ l.map (·.1) → l.lookup k = none
  | [], _ => rfl
  | (n, v) :: r, h => by
    rw [List.map_cons, List.mem_cons, not_or] at h
    rw [List.lookup_cons, show (k == n) = false from beq_eq_false_iff_ne.mpr h.1]
    exact look_no h.2
theorem look_yes {k : Str} : ∀ {l : List (Str × Value)}, k ∈ l.map (·.1) → (l.lookup k).isSome = true
  | [], h => nomatch h
  | (n, v) :: r, h => by
    rw [List.lookup_cons]
    cases e : k == n with
    | true => rfl
    | false =>
      rw [List.map_cons, List.mem_cons] at h
      rcases h with h | h
      · rw [h, BEq.rfl] at e; cases e
      · exact look_yes h
theorem zip_keys {α : Type} {ks : List Str} {ws : List α} (h : ws.length = ks.length) : (ks.zip ws).map (·.1) = ks := by
  rw [List.map_fst_zip]; omega
/-- a def whose parameters but the first ones are keyword-only -/
theorem bind_kw {M : Model} {K : PySem.W.Frag} {fd : FuncData} {D : Addr} {pos kp ks : List Str} {us ws : List Value} {lk : List (Str × Value)} {A : Around} {s : Shared} {Q : List (Str × Value) → Shared → Prop} {E : Value → Shared → Prop}
    (h1 : fd.params.posonlyargs = []) (h2 : fd.params.args.map (·.arg) = pos) (h3 : fd.params.kwonlyargs.map (·.arg) = kp) (h4 : fd.params.vararg = none) (h5 : fd.params.kwarg = none) (h6 : fd.defaults = .none) (h7 : fd.kwdefaults = .ref D)
    (X : K.In s.heap) (hu : us.length = pos.length) (hw : ws.length = ks.length) (hk : ∀ k ∈ ks, kp.contains k = true) (hn : (pos ++ ks).Nodup) (hn2 : (pos ++ kp).Nodup) (hl : kp.filter (fun k => !ks.contains k) = lk.map (·.1)) (hd : ∀ q ∈ lk, PySem.W.nsIn K D q.1 = some (some q.2))
    (q : Q ((pos ++ kp).filterMap fun m => ((pos.zip us ++ ks.zip ws ++ lk).lookup m).map (m, ·)) s) : wpAny M A (bindArgs fd ⟨us, ks.zip ws⟩) Q E s := by
  have pz := zip_keys hu
  have kz := zip_keys hw
  unfold bindArgs
  dsimp only
  simp only [h1, h2, h3, h4, h5, h6, h7, List.map_nil, List.nil_append]
  refine wpAny_bind (wpAny_forIn_list _ (fun rest st s' => s' = s ∧ ∃ done, ks.zip ws = done ++ rest ∧ st = (pos.zip us ++ done, ([] : List (Str × Value)))) _ ?_ ?_ _ _ ⟨rfl, [], rfl, by rw [List.append_nil]⟩)
  · rintro ⟨k, v⟩ rest st s' ⟨rfl, done, hz, rfl⟩
    have hks : ks = done.map (·.1) ++ k :: rest.map (·.1) := by rw [← kz, hz, List.map_append, List.map_cons]
    have hmem : k ∈ ks := by rw [hks]; exact List.mem_append_right _ List.mem_cons_self
    have hno : (pos.zip us ++ done).lookup k = none := by
      refine look_no fun hm => ?_
      rw [List.map_append, pz] at hm
      rw [hks] at hn
      rcases List.mem_append.mp hm with h | h
      · exact (List.nodup_append.mp hn).2.2 _ h _ (List.mem_append_right _ List.mem_cons_self) rfl
      · exact (List.nodup_append.mp (List.nodup_append.mp hn).2.1).2.2 _ h _ List.mem_cons_self rfl
    dsimp only
    rw [hno, hk k hmem, Bool.or_true, if_pos rfl]
    refine wpAny_pure ⟨rfl, done ++ [(k, v)], by rw [hz, List.append_assoc]; rfl, by rw [List.append_assoc]⟩
  · rintro st s' ⟨rfl, done, hz, rfl⟩
    rw [List.append_nil] at hz
    subst hz
    dsimp only
    refine wpAny_bind (wpAny_pure ?_)
    rw [if_neg (by rw [hu, Bool.and_eq_true, decide_eq_true_iff]; exact fun z => Nat.lt_irrefl _ z.1)]
    have hm : List.filter (fun n => (List.lookup n (pos.zip us ++ ks.zip ws)).isNone) pos = [] := by
      rw [List.filter_eq_nil_iff]
      intro n hn
      have := look_yes (k := n) (l := pos.zip us ++ ks.zip ws) (by rw [List.map_append, pz]; exact List.mem_append_left _ hn)
      rw [Option.isNone_iff_eq_none]
      intro z
      rw [z] at this; cases this
    simp only [show ((none : Option (Array Value)).getD #[]).toList = [] from rfl, List.length_nil, List.drop_nil, Nat.sub_zero, List.take_length, List.drop_length, List.zip_nil_left, hm]
    rw [if_neg (by simp)]
    rw [List.forIn_nil]
    refine wpAny_bind (wpAny_pure ?_)
    have pre : ∀ l : List Str, l.map (fun x => x) = l := fun l => List.map_id' l
    refine wpAny_bind (wpAny_forIn_list _ (fun rest st s2 => s2 = s' ∧ ∃ done lk1 lk2, kp = done ++ rest ∧ lk = lk1 ++ lk2 ∧ done.filter (fun k => !ks.contains k) = lk1.map (·.1) ∧ rest.filter (fun k => !ks.contains k) = lk2.map (·.1) ∧ st = (pos.zip us ++ ks.zip ws ++ lk1, ([] : List Str))) _ ?_ ?_ _ _
      ⟨rfl, [], [], lk, rfl, rfl, rfl, hl, by rw [List.append_nil]⟩)
    · rintro n rest st s2 ⟨rfl, done, lk1, lk2, e1, e2, e3, e4, rfl⟩
      dsimp only
      cases hc : ks.contains n with
      | true =>
        have hy : (List.lookup n (pos.zip us ++ ks.zip ws ++ lk1)).isSome = true := look_yes (by
          rw [List.map_append, List.map_append, kz]
          exact List.mem_append_left _ (List.mem_append_right _ (by simpa using hc)))
        rw [if_neg (by rw [Option.isNone_iff_eq_none]; intro z; rw [z] at hy; cases hy)]
        refine wpAny_pure ⟨rfl, done ++ [n], lk1, lk2, by rw [e1, List.append_assoc]; rfl, e2, ?_, ?_, rfl⟩
        · rw [List.filter_append, e3, List.filter_cons_of_neg (by rw [hc]; decide), List.filter_nil, List.append_nil]
        · rw [List.filter_cons_of_neg (by rw [hc]; decide)] at e4
          exact e4
      | false =>
        rw [List.filter_cons_of_pos (by rw [hc]; rfl)] at e4
        obtain ⟨⟨m, v⟩, lk3, rfl⟩ : ∃ p r, lk2 = p :: r := by
          cases lk2 with
          | nil => cases e4
          | cons p r => exact ⟨p, r, rfl⟩
        rw [List.map_cons] at e4
        obtain ⟨e6, e5⟩ := List.cons.inj e4
        have e6 : n = m := e6
        subst e6
        have hz : List.lookup n (pos.zip us ++ ks.zip ws ++ lk1) = none := by
          refine look_no fun hm => ?_
          rw [List.map_append, List.map_append, pz, kz] at hm
          rcases List.mem_append.mp hm with h | h
          · rcases List.mem_append.mp h with h | h
            · exact (List.nodup_append.mp hn2).2.2 _ h _ (by rw [e1]; exact List.mem_append_right _ List.mem_cons_self) rfl
            · have : ks.contains n = true := by simpa using h
              rw [this] at hc; cases hc
          · rw [← e3] at h
            have h := (List.mem_filter.mp h).1
            have hkp := (List.nodup_append.mp hn2).2.1
            rw [e1] at hkp
            exact (List.nodup_append.mp hkp).2.2 _ h _ List.mem_cons_self rfl
        rw [hz, if_pos (show (none : Option Value).isNone = true from rfl)]
        refine wpAny_bind (PySem.W.looks_nsIn X (hd (n, v) (by rw [e2]; exact List.mem_append_right _ List.mem_cons_self)) |>.here ?_)
        dsimp only
        refine wpAny_pure ⟨rfl, done ++ [n], lk1 ++ [(n, v)], lk3, by rw [e1, List.append_assoc]; rfl, by rw [e2, List.append_assoc]; rfl, ?_, e5, by rw [List.append_assoc]⟩
        rw [List.filter_append, e3, List.filter_cons_of_pos (by rw [hc]; rfl), List.filter_nil, List.map_append]; rfl
    · rintro st s2 ⟨rfl, done, lk1, lk2, e1, e2, e3, e4, rfl⟩
      have : lk2 = [] := by
        cases lk2 with
        | nil => rfl
        | cons _ _ => cases e4
      subst this
      rw [List.append_nil] at e2
      subst e2
      dsimp only
      rw [if_neg (by simp)]
      exact wpAny_pure q
/-- all that must be seen of the parameters and the keywords -/
def kwOk (pos kp ks : List Str) (names : List Str) : Bool := (ks.all fun k => kp.contains k) && (decide (pos ++ ks).Nodup && (decide (pos ++ kp).Nodup && decide (kp.filter (fun k => !ks.contains k) = names)))
theorem BindK.gen {K : PySem.W.Frag} {fd : FuncData} {ps ks pos kp : List Str} {n : Nat} {mv : List Value} {sel : List Nat} {D : Addr} {lk : List (Str × Value)}
    (h1 : fd.params.posonlyargs = []) (h2 : fd.params.args.map (·.arg) = pos) (h3 : fd.params.kwonlyargs.map (·.arg) = kp) (h4 : fd.params.vararg = none) (h5 : fd.params.kwarg = none) (h6 : fd.defaults = .none) (h7 : fd.kwdefaults = .ref D) (hp : pos.length = n)
    (hk : kwOk pos kp ks (lk.map (·.1)) = true) (hd : ∀ q ∈ lk, PySem.W.nsIn K D q.1 = some (some q.2))
    (he : ∀ us ws : List Value, us.length = n → ws.length = ks.length → ((pos ++ kp).filterMap fun m => ((pos.zip us ++ ks.zip ws ++ lk).lookup m).map (m, ·)) = ps.zip (gsel sel us ws mv)) : BindK K fd ps ks n mv (fun us ws mv => gsel sel us ws mv) := by
  unfold kwOk at hk
  simp only [Bool.and_eq_true, decide_eq_true_iff, List.all_eq_true] at hk
  obtain ⟨k1, k2, k3, k4⟩ := hk
  intro s us ws X hu hw M A E Q hq
  rw [← he us ws hu hw] at hq
  exact bind_kw h1 h2 h3 h4 h5 h6 h7 X (by rw [hu, hp]) hw k1 k2 k3 k4 hd hq
/-- a property's setter -/
structure StpF (K : PySem.W.Frag) (C q : Addr) (x qual : Str) (st : Stmt) (f : Addr) (fd : FuncData) (ps : List Str) : Prop where
  s : SetP K C x q f
  d : DefAt K x qual st f fd
  b : L2.Binds K fd ps []
theorem stays_app {μ l : Mem} : stays μ.length μ (μ ++ l) := ⟨by rw [List.length_append]; omega, fun k m hk hm => by rw [at_l hk] at hm; exact .inl hm⟩
theorem dicAt_ob {μ : Mem} {k : Nat} {kvs : List (Key × D)} (h : μ[k]? = some (.dic kvs)) : dicAt μ (.ob k) = some kvs := by
  show (match μ[k]? with | some (DX.M.dic kvs) => some kvs | _ => none) = some kvs
  rw [h]
theorem dKey_str {z : Str} : dKey (.str z) = some (.inr z) := rfl
theorem dKey_int {i : Int} : dKey (.int i) = some (.inl i) := rfl
theorem v_dic {μ : Mem} {kvs : List (Key × D)} : view μ (.dic kvs) = .dic kvs := rfl
theorem ty_dic {μ : Mem} {kvs : List (Key × D)} : tyOf μ (.dic kvs) = some .dic := rfl
end DX
set_option Elab.async false
set_option linter.all false
set_option maxRecDepth 100000
set_option maxHeartbeats 4000000
namespace DX
open PySem PySem.Spec PyProof.Rows L2
/-! ### keywords gathered: def f(self, **d) -/
section
variable {prog : Program} {w : World} {A : Around} {E : Value → Shared → Prop} {s : Shared}
theorem putName_new {name : Str} {hsh : Int} {key v : Value} {o : Obj} {es : Array DictEntry} {ep : Nat} (hd : o.data = .dict es ep) (hno : es.findIdx? (·.key.isStr name) = none) :
    Obj.putName name hsh key v o = { o with data := .dict (es.push ⟨hsh, key, v⟩) (ep + 1) } := by
  obtain ⟨c, d, dt, sl⟩ := o
  subst hd
  rw [Obj.putName_eq]
  unfold Obj.putNameByArray
  dsimp only
  rw [hno]
theorem nsSet_dict {d : Addr} {kvs : List (Key × Value)} {name : Str} {v : Value} {Q : Unit → Shared → Prop} (hm : s.heap.DictOf (mixKind prog w) d kvs) (hnot : (.inr name : Key) ∉ kvs.map (·.1)) (ht : ∀ p ∈ kvs, ∃ z, p.1 = .inr z)
    (h : ∀ h', h'.DictOf (mixKind prog w) d (kvs ++ [(.inr name, v)]) → Heap.SameBut d s.heap h' → Q () { s with heap := h', toks := s.toks + 1 }) : wpAny (model prog w) A (nsSet d name v) Q E s := by
  obtain ⟨o, es, ep, ho, hc, hd, hk, hp, hn⟩ := hm
  have hkey : ∀ t : Tok, (mixKind prog w).is (.inr name) (.str name t) = true := fun t => mixKind_str prog w name t
  have hstr : ∀ e ∈ es.toList, ∃ z t, e.key = .str z t ∧ z ≠ name := fun e he => by
    obtain ⟨i, hi⟩ := List.getElem?_of_mem he
    have hlt : i < kvs.length := by rw [← hp.length]; exact (List.getElem?_eq_some_iff.mp hi).1
    obtain ⟨hkey, _⟩ := hp.get? (k := kvs[i].1) (v := kvs[i].2) hi (List.getElem?_eq_getElem hlt)
    obtain ⟨z, hz⟩ := ht _ (List.getElem_mem hlt)
    obtain ⟨t, htx⟩ := key_text hkey z hz
    refine ⟨z, t, htx, fun e => hnot ?_⟩
    rw [← e, ← hz]
    exact List.mem_map.mpr ⟨_, List.getElem_mem hlt, rfl⟩
  have hno : es.findIdx? (·.key.isStr name) = none := by
    rw [Array.findIdx?_eq_none_iff]
    intro e he
    obtain ⟨z, t, e1, e2⟩ := hstr e (Array.mem_toList_iff.mpr he)
    rw [e1]
    show (z == name) = false
    exact beq_eq_false_iff_ne.mpr e2
  have hrf : es.any (·.refKey) = false := by
    rw [Array.any_eq_false']
    intro e he
    obtain ⟨z, t, e1, e2⟩ := hstr e (Array.mem_toList_iff.mpr he)
    simp [DictEntry.refKey, e1]
  unfold nsSet strHash
  refine wpAny_bind (wpAny_bind (wpAny_askSetting (wpAny_pure (wpAny_bind (wpAny_mkText (wpAny_bind (wpAny_loadPart ho ?_)))))))
  dsimp only
  rw [hd]
  dsimp only
  rw [aRefKeyMayBeTheName_at, hrf, Bool.and_false, if_neg Bool.false_ne_true]
  refine wpAny_updatePart ho (h _ ?_ (Heap.SameBut.update ..))
  have e : Obj.putName name (hashStr w name) (.str name s.toks) v o = { o with data := .dict (es.push ⟨hashStr w name, .str name s.toks, v⟩) (ep + 1) } := putName_new hd hno
  have hdat : (Obj.putName name (hashStr w name) (.str name s.toks) v o).data = .dict (es.push ⟨hashStr w name, .str name s.toks, v⟩) (ep + 1) := by rw [e]
  refine ⟨_, es.push ⟨hashStr w name, .str name s.toks, v⟩, ep + 1, Heap.get?_update_self _ ho (Obj.isFreed_of_dict hdat), ?_, hdat, hk.push (hkey s.toks) v, ?_, ?_⟩
  · show (Obj.putName name (hashStr w name) (.str name s.toks) v o).ExactDict
    rw [e]; exact hc
  · have := hp.append (hkey s.toks) (hashStr w name) v
    obtain ⟨l⟩ := es
    simpa using this
  · rw [List.map_append, List.nodup_append]
    refine ⟨hn, by simp, ?_⟩
    intro a ha b hb
    simp only [List.map_cons, List.map_nil, List.mem_singleton] at hb
    subst hb
    exact fun e => hnot (e ▸ ha)
/-- all of them, one behind the other -/
theorem fill_dict {d : Addr} {Q : PUnit → Shared → Prop} : ∀ (ex : List (Str × Value)) (s : Shared) (kvs : List (Key × Value)), s.heap.DictOf (mixKind prog w) d kvs → (∀ p ∈ kvs, ∃ z, p.1 = .inr z) → (ex.map (·.1)).Nodup → (∀ x ∈ ex, (.inr x.1 : Key) ∉ kvs.map (·.1)) →
    (∀ h' t', h'.DictOf (mixKind prog w) d (kvs ++ ex.map fun x => (.inr x.1, x.2)) → Heap.SameBut d s.heap h' → Q ⟨⟩ { s with heap := h', toks := t' }) →
    wpAny (model prog w) A (forIn ex PUnit.unit fun x _ => (nsSet d x.1 x.2 >>= fun _ => pure (ForInStep.yield PUnit.unit))) Q E s
  | [], s, kvs, hd, _, _, _, h => by
    rw [List.forIn_nil]
    have := h s.heap s.toks (by rw [List.map_nil, List.append_nil]; exact hd) (Heap.SameBut.refl _ _)
    exact wpAny_pure this
  | x :: r, s, kvs, hd, ht, hn, hx, h => by
    obtain ⟨hn1, hn2⟩ := List.nodup_cons.mp (show (x.1 :: r.map (·.1)).Nodup from hn)
    rw [List.forIn_cons]
    refine wpAny_bind (wpAny_bind (nsSet_dict hd (hx x List.mem_cons_self) ht fun h' d' sb => wpAny_pure ?_))
    refine fill_dict r { s with heap := h', toks := s.toks + 1 } _ d' (fun p hp => ?_) hn2 (fun y hy hm => ?_) fun h'' t'' d'' sb2 => ?_
    · rcases List.mem_append.mp hp with hp | hp
      · exact ht p hp
      · rw [List.mem_singleton.mp hp]; exact ⟨_, rfl⟩
    · rw [List.map_append] at hm
      rcases List.mem_append.mp hm with hm | hm
      · exact hx y (List.mem_cons_of_mem _ hy) hm
      · have e : (.inr y.1 : Key) = .inr x.1 := by simpa using hm
        exact hn1 (by rw [← Sum.inr.inj e]; exact List.mem_map.mpr ⟨y, hy, rfl⟩)
    · refine h h'' t'' ?_ (sb.trans sb2)
      rw [List.append_assoc] at d''
      exact d''
/-- the binding -/
theorem bind_kwd {fd : FuncData} {pos ks : List Str} {us ws : List Value} {pd : Arg} {Q : List (Str × Value) → Shared → Prop}
    (h1 : fd.params.posonlyargs = []) (h2 : fd.params.args.map (·.arg) = pos) (h3 : fd.params.kwonlyargs = []) (h4 : fd.params.vararg = none) (h5 : fd.params.kwarg = some pd) (h6 : fd.defaults = .none)
    (hu : us.length = pos.length) (hw : ws.length = ks.length) (hk : ∀ k ∈ ks, pos.contains k = false) (hn : ks.Nodup) (hz : ks.length ≤ 1000) (hf : (pos.filterMap fun n => ((pos.zip us).lookup n).map (n, ·)) = pos.zip us)
    (q : ∀ h' t', h'.DictOf (mixKind prog w) s.heap.objs.size ((ks.zip ws).map fun x => (.inr x.1, x.2)) → Heap.ExtBut s.heap.objs.size s.heap h' → Q (pos.zip us ++ [(pd.arg, .ref s.heap.objs.size)]) { s with heap := h', toks := t' }) :
    wpAny (model prog w) A (bindArgs fd ⟨us, ks.zip ws⟩) Q E s := by
  have pz := zip_keys hu
  have kz := zip_keys hw
  unfold bindArgs
  dsimp only
  simp only [h1, h2, h3, h4, h5, h6, List.map_nil, List.nil_append]
  refine wpAny_bind (wpAny_forIn_list _ (fun rest st s' => s' = s ∧ ∃ done, ks.zip ws = done ++ rest ∧ st = (pos.zip us, done)) _ ?_ ?_ _ _ ⟨rfl, [], rfl, rfl⟩)
  · rintro ⟨k, v⟩ rest st s' ⟨rfl, done, hz', rfl⟩
    have hmem : k ∈ ks := by
      have hks : ks = done.map (·.1) ++ k :: rest.map (·.1) := by rw [← kz, hz', List.map_append, List.map_cons]
      rw [hks]; exact List.mem_append_right _ List.mem_cons_self
    dsimp only
    rw [hk k hmem, Bool.false_or, show ([] : List Str).contains k = false from rfl, if_neg Bool.false_ne_true, if_pos (show (some pd).isSome = true from rfl)]
    exact wpAny_pure ⟨rfl, done ++ [(k, v)], by rw [hz', List.append_assoc]; rfl, rfl⟩
  · rintro st s' ⟨rfl, done, hz', rfl⟩
    rw [List.append_nil] at hz'
    subst hz'
    dsimp only
    refine wpAny_bind (wpAny_pure ?_)
    rw [if_neg (by rw [hu, Bool.and_eq_true, decide_eq_true_iff]; exact fun z => Nat.lt_irrefl _ z.1)]
    have hm : List.filter (fun n => (List.lookup n (pos.zip us)).isNone) pos = [] := by
      rw [List.filter_eq_nil_iff]
      intro n hn
      have := look_yes (k := n) (l := pos.zip us) (by rw [pz]; exact hn)
      rw [Option.isNone_iff_eq_none]
      intro z
      rw [z] at this; cases this
    simp only [show ((none : Option (Array Value)).getD #[]).toList = [] from rfl, List.length_nil, List.drop_nil, Nat.sub_zero, List.take_length, List.drop_length, List.zip_nil_left, hm]
    rw [if_neg (by simp)]
    rw [List.forIn_nil]
    refine wpAny_bind (wpAny_pure ?_)
    rw [List.forIn_nil]
    refine wpAny_bind (wpAny_pure ?_)
    dsimp only
    rw [if_neg (by simp)]
    have hl : (ks.zip ws).length = ks.length := by rw [List.length_zip]; omega
    rw [if_neg (by rw [hl, sizeLine_eq]; omega)]
    have nd : ((ks.zip ws).map (·.1)).Nodup := by rw [kz]; exact hn
    refine wpAny_bind (wpAny_alloc ?_)
    refine wpAny_bind (fill_dict (ks.zip ws) _ [] (Heap.DictOf.new s'.heap) (fun _ hp => nomatch hp) nd (fun _ _ hm => nomatch hm) fun h' t' hd' sb => ?_)
    dsimp only
    refine wpAny_pure ?_
    rw [List.append_nil, hf]
    exact q h' t' hd' fun b o hb e => (sb.2 b hb).trans (Heap.get?_push_of_some _ e)
end
end DX
namespace DX
open PySem PySem.Spec PyProof.Rows L2
section
variable {P : Program} {w : World} {K : PySem.W.Frag} {mg : Str → Option Value} {base : Heap} {A : Around} {outer : List Env} {s : Shared} {H : Hp}
theorem env0_new {h' : Heap} {t' : Nat} {a : Addr} {u : HO} (e0 : Env0 P w K mg base A outer s H) (kp : ∀ b x, s.heap.get? b = some x → h'.get? b = some x) (ha : a = s.heap.objs.size) (hs : s.heap.objs.size ≤ h'.objs.size) (new : ObjOk P w (upd H a u) h' a u) :
    Env0 P w K mg base A outer { s with heap := h', toks := t' } (upd H a u) := by
  subst ha
  refine ⟨e0.frames, e0.mod, fun b x e => ⟨kp b x (e0.bs b x e).1, ?_⟩, Nat.le_trans e0.bsz hs, Heap.FunFrames.of_keeps (fun b x e _ => ⟨x, kp b x e, rfl⟩) e0.funs, fun b hb => ?_, e0.hok.laid kp (Nat.le_refl _) new, e0.bare⟩
  · rw [upd_ne (Nat.ne_of_lt (Heap.lt_size (e0.bs b x e).1))]
    exact (e0.bs b x e).2
  · obtain ⟨_, x, hx, _⟩ := e0.funs.mem hb
    rw [upd_ne (Nat.ne_of_lt (Heap.lt_size hx))]
    exact e0.frf b hb
end
/-- what a def with **d is given: n values, then the keywords' -/
def kwdS (n : Nat) (ks : List Str) (S : DSp) : DSp := fun ds μ Q E => ∃ pd kd, ds = pd ++ kd ∧ pd.length = n ∧ kd.length = ks.length ∧ S (pd ++ [.fd ((ks.zip kd).map fun x => (.inr x.1, x.2))]) μ Q E
theorem kv_zip : ∀ {ks : List Str} {zs : List V} {ws : List Value}, Vals zs ws → KV ((ks.zip zs).map fun x => ((.inr x.1 : Key), x.2)) ((ks.zip ws).map fun x => ((.inr x.1 : Key), x.2))
  | [], _, _, _ => .nil
  | _ :: _, _, _, .nil => .nil
  | _ :: ks, _, _, .cons a r => .cons ⟨rfl, a⟩ (kv_zip (ks := ks) r)
theorem repK_zip {K : PySem.W.Frag} {as : List Addr} {F : Hp} : ∀ {ks : List Str} {zs : List V} {ds : List D}, RepL K as F zs ds → RepK K as F ((ks.zip zs).map fun x => ((.inr x.1 : Key), x.2)) ((ks.zip ds).map fun x => ((.inr x.1 : Key), x.2))
  | [], _, _, _ => .nil
  | _ :: _, _, _, .nil => .nil
  | _ :: ks, _, _, .cons a r => .cons a (repK_zip (ks := ks) r)
section
variable {P : Program} {w : World} {K : PySem.W.Frag} {mg : Str → Option Value} {base : Heap} {k : Nat} {f : Addr} {fd : FuncData} {x qual : Str} {st : Stmt} {N ps ks : List Str} {pv : Str} {S : DSp}
/-- the parameters, seen -/
structure KwdF (fd : FuncData) (ps : List Str) (pv : Str) : Prop where
  p1 : fd.params.posonlyargs = []
  p2 : fd.params.args.map (·.arg) = ps
  p3 : fd.params.kwonlyargs = []
  p4 : fd.params.vararg = none
  p5 : ∃ pd, fd.params.kwarg = some pd ∧ pd.arg = pv
  p6 : fd.defaults = .none
theorem lookup_zip1 {α : Type} {p : Str} : ∀ {us : List α}, us.length = 1 → ([p].filterMap fun n => (([p].zip us).lookup n).map (n, ·)) = [p].zip us
  | [u], _ => by
    rw [List.zip_cons_cons, List.filterMap_cons, List.lookup_cons, beq_self_eq_true]
    rfl
theorem okD {p0 : Str} (Fu : DefAt K x qual st f fd) (Sc : FnScope N [p0, pv] (defScope st)) (kf : KwdF fd [p0] pv) (hks : (ks.all fun k => !([p0] : List Str).contains k) = true) (hn : ks.Nodup) (hz : ks.length ≤ 1000) (u : DTS)
    (body : ∀ (cdv : Value) (A : Around) (outer : List Env) (s : Shared) (H : Hp) (E' : XK), Gd.Calm0 A → Room k (A.deeper (envOfC qual (defScope st) s.heap.objs.size f cdv)) →
      ∃ t, BD (cxOf (L2.CX P w) P w K mg base N qual (defScope st) f cdv A outer s H E') K (fun _ => E') (defBody st) t u)
    (read : ∀ ds μ Q E, S ds μ Q E → u { nx := fun _ μ' => FZ μ Q .non μ', rt := FZ μ Q } (FZE μ E) (startD N ds) μ) : FnC P w K mg base (k + 1) f ks (kwdS 1 ks S) := by
  intro A outer s H us ws vs zs Q E g hr e0 r rz lz hsp
  obtain ⟨oc, od, dV, kV, doc, pm, an, cdv, ct, osl, rfl, lk, hcd⟩ := Fu.ex
  obtain ⟨Z, as, F, ds, μ, Qd, Ed, rr, M, ⟨pd, kd, rfl, hp, hk, hS⟩, kQ, kE⟩ := hsp
  obtain ⟨v1, v2, e1, r1, r2⟩ := repL_split rr
  obtain ⟨rfl, rfl⟩ := List.append_inj' e1 (by rw [lz, r2.len, hk])
  have hnH : H s.heap.objs.size = Option.none := e0.hok.fresh (Nat.le_refl _)
  have hl1 : us.length = 1 := by rw [← r.length, r1.len, hp]
  have hl3 : ws.length = ks.length := by rw [← rz.length, lz]
  obtain ⟨pa, hpa, rfl⟩ := kf.p5
  refine StX.run_bnd lk hcd Sc hr e0 (G := fun xs H2 => ∃ p od, H p = Option.none ∧ xs = vs ++ [V.ref p] ∧ H2 = upd H p (.frz od (.dK ((ks.zip zs).map fun x => ((.inr x.1 : Key), x.2))))) (fun A' Ex Q' h => ?_) fun s2 H2 xs ⟨p, od, hp', ex, eH⟩ hr' => ?_
  · refine bind_kwd kf.p1 kf.p2 kf.p3 kf.p4 hpa kf.p6 hl1 hl3 (fun q hq => by have := List.all_eq_true.mp hks q hq; simpa using this) hn hz (lookup_zip1 hl1) fun h' t' hd' hx => ?_
    have kp : ∀ b o, s.heap.get? b = some o → h'.get? b = some o := fun b o e => hx b o (Nat.ne_of_lt (Heap.lt_size e)) e
    obtain ⟨od, hod⟩ : ∃ od, h'.get? s.heap.objs.size = some od := let ⟨o, _, _, ho, _⟩ := hd'; ⟨o, ho⟩
    have hsz : s.heap.objs.size ≤ h'.objs.size := by
      obtain ⟨o, _, _, ho, _⟩ := hd'
      exact Nat.le_of_lt (Heap.lt_size ho)
    have new : ObjOk P w (upd H s.heap.objs.size (.frz od (.dK ((ks.zip zs).map fun x => ((.inr x.1 : Key), x.2))))) h' s.heap.objs.size (.frz od (.dK ((ks.zip zs).map fun x => ((.inr x.1 : Key), x.2)))) :=
      ⟨hod, dk_new (by rw [List.length_map, List.length_zip, sizeLine_eq]; omega) (beq_eq_false_iff_ne.mpr (Ne.symm (Nat.ne_of_lt (StX.env0_big e0)))) (kv_zip rz) hd'⟩
    have un : Un (frs outer) [] H (upd H s.heap.objs.size (.frz od (.dK ((ks.zip zs).map fun x => ((.inr x.1 : Key), x.2))))) s.heap h' := Un.laid kp (Nat.le_refl _) hnH
    have z := h { s with heap := h', toks := t' } _ (vs ++ [V.ref s.heap.objs.size]) (us ++ [Value.ref s.heap.objs.size]) (env0_new e0 kp rfl hsz new) un rfl (fun e s' => StX.cxUp outer s H _ _ E e s' un kp rfl) (r.append (.cons rfl .nil))
      (by rw [List.length_append, r.length, hl1]; rfl) ⟨_, od, hnH, rfl, rfl⟩
    rw [show [p0, pa.arg] = [p0] ++ [pa.arg] from rfl, List.zip_append (show [p0].length = us.length from hl1.symm)] at z
    exact z
  · subst ex eH
    obtain ⟨t, ht⟩ := body cdv A outer s2 (upd H p (.frz od (.dK ((ks.zip zs).map fun x => ((.inr x.1 : Key), x.2))))) E g hr'
    refine ⟨t, ht.pe, ?_⟩
    have g2 := Gr.upd (as := as) (o := .frz od (.dK ((ks.zip zs).map fun x => ((.inr x.1 : Key), x.2)))) (M.newF hp')
    have rb : RepL K as (upd F p (.frz od (.dK ((ks.zip zs).map fun x => ((.inr x.1 : Key), x.2))))) (vs ++ [V.ref p]) (pd ++ [.fd ((ks.zip kd).map fun x => (.inr x.1, x.2))]) := (r1.up g2).append (.cons (.fd upd_same (repK_zip (r2.up g2))) .nil)
    exact ht.sim Z as _ _ (L2.start N _) (startD N (pd ++ [.fd ((ks.zip kd).map fun x => (.inr x.1, x.2))])) μ _ _ _ ⟨M.addF hp', env_start rb⟩ (fze_end (M.addF hp') fun C gs dx μ' as' F' H' g => kE C gs dx μ' as' F' H' (g2.trans g)) (read _ μ Qd Ed hS)
      (fun σ' ρ' μ' as' F' H' g R q => fz_end (M.addF hp') (fun v d μ' as' F' H' g => kQ v d μ' as' F' H' (g2.trans g)) g R.mm .non q) (fun v d μ' as' F' H' g M' r q => fz_end (M.addF hp') (fun v d μ' as' F' H' g => kQ v d μ' as' F' H' (g2.trans g)) g M' r q) (fun _ _ _ _ _ _ _ _ z => z.elim) (fun _ _ _ _ _ _ _ _ z => z.elim)
end
end DX
namespace DX
open PySem PySem.Spec PyProof.Rows L2
/-! ### for x in d, d locked -/
def keyD : Key → D
  | .inl i => .int i
  | .inr z => .str z
section
variable {K : PySem.W.Frag} {Z : Hp} {as as' as1 : List Addr} {F F' F1 H H' H1 : Hp} {Ex : L2.St → XK}
theorem key_rep : ∀ k : Key, Rep K as F (kV k) (keyD k)
  | .inl i => .int i
  | .inr z => .str z
theorem RepK.at : ∀ {vs : List (Key × V)} {ds : List (Key × D)} {i : Nat} {k : Key} {v : V}, RepK K as F vs ds → vs[i]? = some (k, v) → ∃ d, ds[i]? = some (k, d)
  | _, _, _, _, _, .nil, e => by simp at e
  | _, _, 0, k, v, .cons h _, e => by simp at e; obtain ⟨rfl, rfl⟩ := e; exact ⟨_, rfl⟩
  | _, _, i + 1, k, v, .cons _ r, e => by
    obtain ⟨d, h⟩ := RepK.at (i := i) (k := k) (v := v) r (by simpa using e)
    exact ⟨d, by simpa using h⟩
def uIKeys (ue : DTE) : DTI := fun ρ μ R E => ue ρ μ (fun x μ1 => match x with
  | .fd kvs => R (kvs.map fun p => keyD p.1) (fun _ => True) μ1
  | _ => False) E
theorem sim_iKeys {t : TE} {u : DTE} (a : Sim K Ex t u) : SimI K Ex (iKeys t) (uIKeys u) := fun Z as F H σ ρ μ R E R' r X h k =>
  a Z as F H σ ρ μ _ E _ r X h fun v d μ1 as1 F1 H1 g1 R1 r1 h1 => by
    cases r1 with
    | @fd p o vs ds q x =>
      refine ⟨p, o, rfl, .inl ⟨vs, R1.mm.same _ _ q, k _ _ _ μ1 as1 F1 H1 g1 R1 ⟨fun Z i as' F' H' μ g M _ hi => ?_, fun Z i as' F' H' μ v H2 d g M _ hd y => ?_, fun Z i as' F' H' μ g M _ hi => ?_⟩ h1⟩⟩
      · rw [List.length_map] at hi
        exact ⟨M.same _ _ (g.f _ _ q), by rw [x.len]; exact hi⟩
      · obtain ⟨rfl, k', v', e1, rfl⟩ := y
        obtain ⟨d', e2⟩ := RepK.at x e1
        rw [List.getElem?_map, e2] at hd
        cases hd
        exact ⟨F', Gr.refl, M, key_rep k'⟩
      · rw [List.length_map] at hi
        exact ⟨M.same _ _ (g.f _ _ q), by rw [x.len]; exact hi⟩
    | _ => exact h1.elim
end
section
variable {X : Cx} {K : PySem.W.Frag} {Ex : L2.St → XK} {tg e : Expr} {te : TE} {ue : DTE}
theorem i_keys (h : PD X K Ex e te ue) : ID X K Ex tg e (iKeys te) (uIKeys ue) := ⟨pi_keys h.pe, sim_iKeys h.sim⟩
end
end DX
set_option Elab.async false
set_option linter.all false
set_option maxRecDepth 100000
set_option maxHeartbeats 4000000
namespace DX
open PySem PySem.Spec PyProof.Rows L2
/-! ### d.update(e) -/
def rUpdate : V → List V → Hp → VK → Prop := fun x xs H Q => ∃ d o kvs more, x = .ref d ∧ xs = [.ref o] ∧ d ≠ o ∧ H d = some (.dK kvs) ∧ Rd H o (.dK more) ∧ kvs.length + more.length ≤ 1000 ∧ Q .non (upd H d (.dK (mergeK kvs more)))
theorem merge_len : ∀ (more kvs : List (Key × V)), (mergeK kvs more).length ≤ kvs.length + more.length
  | [], kvs => Nat.le_refl _
  | p :: r, kvs => by
    have h1 := merge_len r (putK kvs p.1 p.2)
    have h2 : (putK kvs p.1 p.2).length ≤ kvs.length + 1 := by
      unfold putK
      split
      · rw [List.length_map]; exact Nat.le_succ _
      · rw [List.length_append]; exact Nat.le_refl _
    show (mergeK (putK kvs p.1 p.2) r).length ≤ kvs.length + (r.length + 1)
    omega
theorem mt_update {X : Cx} : MtR X "dict.update" rUpdate := by
  intro pins s σ H x xs v us Q I rx rs h
  obtain ⟨d, o, kvs, more, ex, es, ne, hd, ho, hz, q⟩ := h
  subst ex es
  obtain rfl : v = Value.ref d := rx
  cases rs with
  | @cons _ u0 _ ur ra rb =>
    cases rb
    obtain rfl : u0 = Value.ref o := ra
    obtain ⟨z1, hd1, vs, r1, dd1⟩ := dk_of I.hok hd
    obtain ⟨z2, hd2, ws, r2, dd2⟩ := dk_rd I.hok ho
    refine call_meetsIn F.slot_dict_update dd1.typeIs F.entry_dict_update (F.args_dict_update_2 _ _) (meets_dict_update (mixKind X.prog X.w) d o ne hd2) ⟨vs, ws, dd1, dd2, by rw [← KV.length r1, ← KV.length r2, sizeLine_eq]; omega, fun h' e1 e2 sb => ?_⟩
    refine ⟨.non, _, d_write (t' := s.toks) I (by rw [hd]; exact True.intro) sb ?_ (dk_new (Nat.le_trans (merge_len more kvs) (by rw [sizeLine_eq]; omega)) hd1 (KV.merge r2 r1) e1), rfl, q⟩
    obtain ⟨o', _, _, ho', _⟩ := e1
    exact ⟨o', ho'⟩
end DX
namespace DX
open PySem PySem.Spec PyProof.Rows L2
/-- a dict of the memory takes another's entries -/
def dUpd : DM := fun x ds μ Q => match x, ds with
  | .ob k, [y] => ∃ kvs more, μ[k]? = some (.dic kvs) ∧ dicAt μ y = some more ∧ y ≠ .ob k ∧ kvs.length + more.length ≤ 1000 ∧ Q .non (μ.set k (.dic (dmerge kvs more)))
  | _, _ => False
section
variable {K : PySem.W.Frag} {Z : Hp} {as as' as1 : List Addr} {F F' F1 H H' H1 : Hp} {Ex : L2.St → XK}
theorem sim_update : SimM K rUpdate dUpd := fun Z as F H μ v d vs ds Q Q' M r rs z k => by
  unfold dUpd at z
  split at z
  · rename_i n y
    obtain ⟨kvs, more, e1, e2, ne, hz, q⟩ := z
    cases r with
    | ob qa =>
      rename_i a
      match vs, rs with
      | _, .cons ry .nil =>
        obtain ⟨b, hb, x⟩ := M.at_ n _ e1
        obtain rfl := Option.some.inj (qa.symm.trans hb)
        obtain ⟨ks, hk, rk⟩ := x
        obtain ⟨c, ws, rfl, hc, rw_⟩ := dic_at M ry e2
        have hne : a ≠ c := fun z => by
          subst z
          cases ry with
          | ob qc =>
            rename_i j
            have hj : j = n := (List.getElem?_inj (List.getElem?_eq_some_iff.mp qc).1 M.nd).mp (qc.trans qa.symm)
            exact ne (by rw [hj])
          | dic qc _ => rw [M.fr a (List.mem_of_getElem? qa)] at qc; cases qc
          | fd qc _ => rw [M.fr a (List.mem_of_getElem? qa)] at qc; cases qc
          | val _ => cases e2
          | _ => cases e2
        refine ⟨a, c, ks, ws, rfl, rfl, hne, hk, hc, by rw [rk.len, rw_.len]; exact hz, ?_⟩
        exact k .non .non _ as F _ Gr.refl (M.put (m := .dic (dmerge kvs more)) qa ⟨_, upd_same, RepK.merge rw_ rk⟩) .non q
  · exact z.elim
def isDic (μ : Mem) (d : D) : Prop := ∃ k kvs, d = .ob k ∧ μ[k]? = some (.dic kvs)
def uBMD (dm : DM) (uo : DTE) (ua : DTA) : DTE := fun ρ μ Q E => uo ρ μ (fun x μ1 => isDic μ1 x ∧ ua ρ μ1 (fun ds μ2 => dm x ds μ2 Q) E) E
theorem dic_ty {μ : Mem} (M : Mm K Z as F H μ) {v : V} {d : D} (r : Rep K as F v d) (h : isDic μ d) : tyV K "dict" v H := by
  obtain ⟨k, kvs, rfl, e⟩ := h
  obtain ⟨a, ks, rfl, _, q, _⟩ := dic_ob M r e
  exact .inr (.inr (.inl ⟨rfl, .inl ⟨ks, q⟩⟩))
theorem sim_bmD {r : V → List V → Hp → VK → Prop} {dm : DM} {to : TE} {uo : DTE} {t : TA} {u : DTA} (s : SimM K r dm) (o : Sim K Ex to uo) (a : SimA K Ex t u) : Sim K Ex (tBM K "dict" r to t) (uBMD dm uo u) := fun Z as F H σ ρ μ Q E Q' R X h k =>
  o Z as F H σ ρ μ _ E _ R X h fun v d μ1 as1 F1 H1 g1 R1 r1 h1 => ⟨dic_ty R1.mm r1 h1.1, a Z as1 F1 H1 σ ρ μ1 _ E _ R1 (X.up g1) h1.2 fun vs ds μ2 as2 F2 H2 g2 R2 r2 h2 =>
    s Z as2 F2 H2 μ2 v d vs ds Q Q' R2.mm (r1.up g2) r2 h2 fun v d' μ' as' F' H' g3 M3 r3 q => k v d' μ' as' F' H' ((g1.trans g2).trans g3) (R2.up g3 M3) r3 q⟩
end
section
variable {X : Cx} {K : PySem.W.Frag} {Ex : L2.St → XK} {pos : Pos} {o e : Expr} {es : List Expr} {to : TE} {uo : DTE} {t : TA} {u : DTA} {apos : Pos}
theorem d_upd (ho : PD X K Ex o to uo) (ha : AD X K Ex (e :: es) t u) (hK : X.K = K := by rfl)
    (hbase : attributeBase o "update" X.env (eval o X.env) = eval o X.env := by rfl)
    (hfew : ((backTo pos (starEach (e :: es) X.env)).all (fun x => !x.1) && (backToKw pos (keywordEach [] X.env)).all (fun x => x.1.isSome)
      && decide ((e :: es).length + ([] : List Keyword).length + (if ([] : List Keyword).isEmpty then 0 else 1) < 30)) = true := by rfl) (hline : (apos.endLine == pos.line) = true := by rfl)
    (hs : starEach (e :: es) X.env = (false, eval e X.env) :: starEach es X.env := by rfl) (hplain : (backTo pos (starEach es X.env)).any (·.1) = false := by rfl) :
    PD X K Ex (.Call (.Attribute o "update" apos) (e :: es) [] pos) (tBM K "dict" rUpdate to t) (uBMD dUpd uo u) := by
  subst hK
  exact ⟨pe_bm PySem.F.plainAttrs_dict PySem.F.slot_dict_update PySem.F.type_dict_update mt_update ho.pe ha.pe hbase hfew hline hs hplain, sim_bmD sim_update ho.sim ha.sim⟩
end
/-! ### o.m(k = .., ..) -/
section
variable {X : Cx} {CX : CXT} {k : Nat} {f : Addr} {ks : List Str} {sp : Sp} {E : L2.St → XK}
theorem run_fnKC {pn : List (Addr × Obj)} {σ : L2.St} {H : Hp} {s : Shared} {Q : VK} {us ws : List Value} {vs zs : List V} (F : FnKC X.prog X.w X.K X.mg X.base CX k f ks sp) (g : Gd.Calm0 X.A) (hr : Room k X.A) (hx : PassesAt CX X σ (E σ)) (I : L2.Inv X pn σ H s) (r : Vals vs us) (rz : Vals zs ws) (lz : zs.length = ks.length)
    (h : sp (vs ++ zs) H Q (E σ)) : wpAny (model X.prog X.w) X.A (call (.ref f) us (ks.zip ws)) (EP X pn σ Q) X.xe s := by
  refine wpAny_call (codeAny_mono (F X.A X.stack s H us ws vs zs Q (E σ) g hr I.env0 r rz lz h) fun z s2 y => ?_)
  match z, y with
  | .error er, y => exact hx pn H s er s2 I y
  | .ok (.ret u), y => exact I.after y
end
def tMethK (C : Addr) (m : Str) (n : Nat) (sp : Sp) (E : L2.St → XK) (ta : TE) (t : TA) : TE := fun σ H Q => ta σ H fun x H1 => ∃ a dx fs, x = .ref a ∧ H1 a = some (.ins C dx fs) ∧ fs.lookup m = Option.none ∧ t σ H1 fun zs H2 => zs.length = n ∧ sp (.ref a :: zs) H2 Q (E σ)
def uMethK (C : Addr) (m : Str) (n : Nat) (S : DSp) (uo : DTE) (u : DTA) : DTE := fun ρ μ Q E => uo ρ μ (fun x μ1 => insAt C m μ1 x ∧ u ρ μ1 (fun ds μ2 => ds.length = n ∧ S (x :: ds) μ2 Q (E ρ)) E) E
section
variable {K : PySem.W.Frag} {Ex : L2.St → XK}
theorem sim_methK {C : Addr} {m : Str} {n : Nat} {S : DSp} {to : TE} {uo : DTE} {t : TA} {u : DTA} (o : Sim K Ex to uo) (a : SimA K Ex t u) : Sim K Ex (tMethK C m n (toSp K S) Ex to t) (uMethK C m n S uo u) := fun Z as F H σ ρ μ Q E Q' R X h k =>
  o Z as F H σ ρ μ _ E _ R X h fun v d μ1 as1 F1 H1 g1 R1 r1 h1 => by
    obtain ⟨p, dx, fs, rfl, q, l⟩ := ins_at R1.mm r1 h1.1
    exact ⟨p, dx, fs, rfl, q, l, a Z as1 F1 H1 σ ρ μ1 _ E _ R1 (X.up g1) h1.2 fun vs ds μ2 as2 F2 H2 g2 R2 r2 h2 =>
      ⟨by rw [r2.len]; exact h2.1, sp_use R2 (X.up (g1.trans g2)) (.cons (r1.up g2) r2) h2.2 fun v d μ' as' F' H' g M r q => k v d μ' as' F' H' ((g1.trans g2).trans g) (R2.up g M) r q⟩⟩
end
section
variable {X : Cx} {K : PySem.W.Frag} {Ex : L2.St → XK} {k : Nat} {f C : Addr} {ks : List Str} {S : DSp} {m : Str} {pos apos : Pos} {o : Expr} {kws : List Keyword} {to : TE} {uo : DTE} {t : TA} {u : DTA} {pl : Sem Bool}
theorem d_methK (c : Cls K C) (hm : Meth K C m f) (F : FnC X.prog X.w K X.mg X.base k f ks S) (g : Gd.Calm0 X.A) (hr : Room k X.A) (tk : Tk X Ex) (ho : PD X K Ex o to uo) (hkw : KD X K Ex kws t u) (hK : X.K = K := by rfl)
    (hall : (backToKw pos (keywordEach kws X.env)).all (·.1.isSome) = true := by rfl) (hks : (backToKw pos (keywordEach kws X.env)).filterMap (·.1) = ks := by rfl)
    (hpl : ((backTo pos (starEach [] X.env)).any (·.1) || (backToKw pos (keywordEach kws X.env)).any (·.1.isNone)) = false := by rfl)
    (hW : eval (.Call (.Attribute o m apos) [] kws pos) X.env = (do
      let ov ← eval o X.env
      standAt apos.atName
      let (f, first) ← holding [ov] (getMethod ov m pl)
      callWith pos f first (backTo pos (starEach [] X.env)) (backToKw pos (keywordEach kws X.env))) := by rfl) : PD X K Ex (.Call (.Attribute o m apos) [] kws pos) (tMethK C m ks.length (toSp K S) Ex to t) (uMethK C m ks.length S uo u) := by
  subst hK
  refine ⟨⟨fun pn s σ H Q I h => PySem.W.methodCall_KW (pl := pl) (thn (ho.pe.run pn s σ H _ I h) fun u s1 hh => ?_) hW⟩, sim_methK ho.sim hkw.sim⟩
  obtain ⟨x, H1, I1, rx, a, dx, fs, ex, ea, l, q⟩ := hh
  subst ex
  obtain rfl : u = Value.ref a := rx
  refine getmeth_ok I1 ea c hm l (PySem.W.callWith_KW0 (first := [.ref a]) (h₀ := X.base) I.ok.mod.kin hm.kp hall ?_ hpl)
  refine thn (hkw.pe.run pos pn s1 σ H1 _ I1 q) fun ws s2 ⟨zs, H2, I2, rz, l2, q2⟩ => ⟨I2.kIn, ?_⟩
  rw [hks]
  exact run_fnKC (us := [.ref a]) (vs := [.ref a]) F g hr (tk_pass tk σ) I2 (.cons rfl .nil) rz l2 q2
end
end DX
set_option Elab.async false
set_option linter.all false
set_option maxRecDepth 100000
set_option maxHeartbeats 4000000
namespace DX
open PySem PySem.Spec PyProof.Rows L2
/-! ### new lists that stay in the memory: s.split(t), xs + ys -/
def dSplitM : DM := fun x ds μ Q => match x, ds with
  | .str a, [.str b] => (b.length == 0) = false ∧ a.length + 2 ≤ sizeLine ∧ Q (.ob μ.length) (μ ++ [.lst ((Txt.split a b).map .str)])
  | _, _ => False
def dAddM : DR2 := fun x y μ Q => match viewT μ x, viewT μ y with
  | .lst xs, .lst ys => xs.length + ys.length ≤ sizeLine ∧ Q (.ob μ.length) (μ ++ [.lst (xs ++ ys)])
  | _, _ => False
section
variable {K : PySem.W.Frag} {Z : Hp} {as as' as1 : List Addr} {F F' F1 H H' H1 : Hp} {Ex : L2.St → XK}
theorem sim_splitM : SimM K rSplit dSplitM := fun Z as F H μ v d vs ds Q Q' M r rs z k => by
  unfold dSplitM at z
  split at z
  · rename_i wa wb
    cases r
    match vs, rs with
    | _, .cons (.str _) .nil =>
      refine ⟨_, _, rfl, rfl, z.1, z.2.1, fun p np => ?_⟩
      exact k _ _ _ (as ++ [p]) F _ Gr.add (M.addM (m := .lst _) np ⟨_, upd_same, rep_strs _⟩) (rep_ob M.len) z.2.2
  · exact z.elim
theorem sim_addM : SimR K (rAddAll K) dAddM := fun Z as F H μ x y d e Q Q' M rx ry z k => by
  unfold dAddM at z
  split at z
  · rename_i xs ys h1 h2
    obtain ⟨a, vs, rfl, e1, r1⟩ := viewT_lst M rx h1
    obtain ⟨b, us, rfl, e2, r2⟩ := viewT_lst M ry h2
    refine .inr (.inr (.inl ⟨a, b, vs, us, rfl, rfl, e1, e2, by rw [r1.len, r2.len]; exact z.1, fun p np => ?_⟩))
    exact k _ _ _ (as ++ [p]) F _ Gr.add (M.addM (m := .lst _) np ⟨_, upd_same, (r1.append r2).up Gr.add⟩) (rep_ob M.len) z.2
  · exact z.elim
end
end DX
local macro_rules
  | `(tactic| push_cast) => `(tactic| simp (maxSteps := 4000000) only [↓DX.ite_iteB, DX.dSplitM, DX.dAddM, DX.uSetP, DX.uDisp, DX.uPNil, DX.uPCons, DX.dDIn, DX.dKGet, DX.dEqK, DX.uMakeK2, DX.uLenS, DX.dicAt_ob, DX.dKey_str, DX.dKey_int, DX.v_dic, DX.ty_dic, DX.iteB_t, DX.iteB_f, DX.at_r0, DX.set_r0, DX.putD_nil, DX.putD_hd, DX.look_hd, DX.atI_nat, DX.at0, DX.at1, DX.at2, DX.at3, DX.eqok_int, DX.eqok_str, DX.eqok_bl, DX.deqv_int, DX.deqv_str, DX.deqv_bl, DX.uMakeM, DX.uMakeF, DX.uMakeSF, DX.uMakeCM, DX.uMakeCF, DX.uAddO, DX.uStar, DX.uStarT, DX.uProp, DX.uGName, DX.uGNil, DX.uGCons, DX.uGTup, DX.uGSet, DX.uAsg, DX.uDrop, DX.uRet, DX.uRetN, DX.uNext, DX.uBreak, DX.uCont, DX.uNever, DX.uSeq, DX.uIfS, DX.uCut, DX.uAug, DX.uSetF, DX.uISeq, DX.uIRng1, DX.uIRng2, DX.uFor, DX.uWhile, DX.uLc, DX.uYes, DX.uRaise, DX.uTry, DX.uXf, DX.uIsX, DX.uGet, DX.uGSetO, DX.uSMeth, DX.uIEnum, DX.uIZip, DX.uGUn, DX.uPar, DX.uVar, DX.uC, DX.uNil, DX.uCons, DX.uTup, DX.uLst, DX.uLstM, DX.uOp, DX.dI, DX.dIC, DX.dEq, DX.dNe, DX.dAdd, DX.uUn, DX.uIsN, DX.dTru, DX.uTru, DX.uTest, DX.uAndB, DX.uOrB, DX.uNotB, DX.uAnd, DX.uOr, DX.uNot, DX.uIf, DX.uChain, DX.dIx, DX.uNoPart, DX.uPart, DX.uSl, DX.dIn, DX.uFld, DX.uCB, DX.one, DX.dLen, DX.dIsB, DX.uIs, DX.dIsO, DX.dInt, DX.dList, DX.dTuple, DX.uBM, DX.dAppend, DX.dExtend, DX.dIndex, DX.uM1, DX.uCall, DX.uMeth, DX.dTwo, DX.dRep, DX.dLenO, DX.dCmpO, DX.dNeO, DX.dInO, DX.isC, DX.isIns, DX.insAt, DX.uDNew, DX.uDGet, DX.uDIn, DX.uDGet1, DX.uDPut, DX.uRev, DX.uLstRg,   List.getElem?_cons_zero, List.getElem?_cons_succ, List.getElem?_nil, List.set_cons_zero, List.set_cons_succ, List.length_cons, List.length_nil, List.length_map, List.map_cons, List.map_nil, List.cons_append, List.nil_append, List.take_succ_cons, List.take_zero, List.drop_zero, List.drop_succ_cons, List.take_nil, List.drop_nil, DX.wipeD, DX.tyIs, DX.v_non, DX.vT_non, DX.ty_non, DX.v_bl, DX.vT_bl, DX.ty_bl, DX.v_int, DX.vT_int, DX.ty_int, DX.v_str, DX.vT_str, DX.ty_str, DX.v_byt, DX.vT_byt, DX.ty_byt, DX.v_lst, DX.vT_lst, DX.ty_lst, DX.v_tup, DX.vT_tup, DX.ty_tup, DX.v_kt, DX.vT_kt, DX.ty_kt, DX.v_kl, DX.vT_kl, DX.ty_kl, DX.v_ins, DX.vT_ins, DX.ty_ins, DX.v_val, DX.vT_val, DX.ty_val, if_true, if_false, Bool.false_eq_true, reduceIte, Bool.not_true, Bool.not_false, true_and, and_true, List.isEmpty_cons, List.isEmpty_nil, Nat.reduceAdd])
  | `(tactic| push_cast [$ts,*]) => `(tactic| simp (maxSteps := 4000000) only [$ts,*, ↓DX.ite_iteB, DX.dSplitM, DX.dAddM, DX.uSetP, DX.uDisp, DX.uPNil, DX.uPCons, DX.dDIn, DX.dKGet, DX.dEqK, DX.uMakeK2, DX.uLenS, DX.dicAt_ob, DX.dKey_str, DX.dKey_int, DX.v_dic, DX.ty_dic, DX.iteB_t, DX.iteB_f, DX.at_r0, DX.set_r0, DX.putD_nil, DX.putD_hd, DX.look_hd, DX.atI_nat, DX.at0, DX.at1, DX.at2, DX.at3, DX.eqok_int, DX.eqok_str, DX.eqok_bl, DX.deqv_int, DX.deqv_str, DX.deqv_bl, DX.uMakeM, DX.uMakeF, DX.uMakeSF, DX.uMakeCM, DX.uMakeCF, DX.uAddO, DX.uStar, DX.uStarT, DX.uProp, DX.uGName, DX.uGNil, DX.uGCons, DX.uGTup, DX.uGSet, DX.uAsg, DX.uDrop, DX.uRet, DX.uRetN, DX.uNext, DX.uBreak, DX.uCont, DX.uNever, DX.uSeq, DX.uIfS, DX.uCut, DX.uAug, DX.uSetF, DX.uISeq, DX.uIRng1, DX.uIRng2, DX.uFor, DX.uWhile, DX.uLc, DX.uYes, DX.uRaise, DX.uTry, DX.uXf, DX.uIsX, DX.uGet, DX.uGSetO, DX.uSMeth, DX.uIEnum, DX.uIZip, DX.uGUn, DX.uPar, DX.uVar, DX.uC, DX.uNil, DX.uCons, DX.uTup, DX.uLst, DX.uLstM, DX.uOp, DX.dI, DX.dIC, DX.dEq, DX.dNe, DX.dAdd, DX.uUn, DX.uIsN, DX.dTru, DX.uTru, DX.uTest, DX.uAndB, DX.uOrB, DX.uNotB, DX.uAnd, DX.uOr, DX.uNot, DX.uIf, DX.uChain, DX.dIx, DX.uNoPart, DX.uPart, DX.uSl, DX.dIn, DX.uFld, DX.uCB, DX.one, DX.dLen, DX.dIsB, DX.uIs, DX.dIsO, DX.dInt, DX.dList, DX.dTuple, DX.uBM, DX.dAppend, DX.dExtend, DX.dIndex, DX.uM1, DX.uCall, DX.uMeth, DX.dTwo, DX.dRep, DX.dLenO, DX.dCmpO, DX.dNeO, DX.dInO, DX.isC, DX.isIns, DX.insAt, DX.uDNew, DX.uDGet, DX.uDIn, DX.uDGet1, DX.uDPut, DX.uRev, DX.uLstRg,   List.getElem?_cons_zero, List.getElem?_cons_succ, List.getElem?_nil, List.set_cons_zero, List.set_cons_succ, List.length_cons, List.length_nil, List.length_map, List.map_cons, List.map_nil, List.cons_append, List.nil_append, List.take_succ_cons, List.take_zero, List.drop_zero, List.drop_succ_cons, List.take_nil, List.drop_nil, DX.wipeD, DX.tyIs, DX.v_non, DX.vT_non, DX.ty_non, DX.v_bl, DX.vT_bl, DX.ty_bl, DX.v_int, DX.vT_int, DX.ty_int, DX.v_str, DX.vT_str, DX.ty_str, DX.v_byt, DX.vT_byt, DX.ty_byt, DX.v_lst, DX.vT_lst, DX.ty_lst, DX.v_tup, DX.vT_tup, DX.ty_tup, DX.v_kt, DX.vT_kt, DX.ty_kt, DX.v_kl, DX.vT_kl, DX.ty_kl, DX.v_ins, DX.vT_ins, DX.ty_ins, DX.v_val, DX.vT_val, DX.ty_val, if_true, if_false, Bool.false_eq_true, reduceIte, Bool.not_true, Bool.not_false, true_and, and_true, List.isEmpty_cons, List.isEmpty_nil, Nat.reduceAdd])
set_option Elab.async false
set_option linter.all false
set_option maxRecDepth 100000
set_option maxHeartbeats 4000000
/-! ### lists of words: pure -/
namespace Toy
open PySem PySem.Spec PyProof.Rows L2
theorem eqV_str (a b : Str) : eqV (.str a) (.str b) = decide (a = b) := by
  show (a == b) = decide (a = b)
  by_cases h : a = b
  · subst h
    simp
  · rw [decide_eq_false h]
    exact beq_eq_false_iff_ne.mpr h
def idx (z : Str) : List Str → Nat
  | [] => 0
  | a :: r => if a = z then 0 else idx z r + 1
theorem idx_get : ∀ {z : Str} {ws : List Str}, z ∈ ws → (ws.map V.str)[idx z ws]? = some (.str z)
  | z, a :: r, h => by
    unfold idx
    by_cases e : a = z
    · rw [if_pos e, e]
      rfl
    · rw [if_neg e]
      have h' : z ∈ r := by
        rcases List.mem_cons.mp h with q | q
        · exact absurd q.symm e
        · exact q
      exact idx_get h'
theorem idx_none : ∀ {z : Str} {ws : List Str} (m : Nat) (v : V), m < idx z ws → (ws.map V.str)[m]? = some v → eqV v (.str z) = false
  | z, a :: r, m, v, hm, hv => by
    unfold idx at hm
    by_cases e : a = z
    · rw [if_pos e] at hm
      omega
    · rw [if_neg e] at hm
      cases m with
      | zero =>
        have q : V.str a = v := by simpa using hv
        rw [← q, eqV_str]
        exact decide_eq_false e
      | succ m => exact idx_none (z := z) (ws := r) m v (by omega) (by simpa using hv)
def ahd (ws : List Str) (a b : Str) : Bool := decide (a ∈ ws) && (decide (b ∈ ws) && decide (idx a ws < idx b ws))
def lck (ws : List Str) : Bool := (!decide (("lock" : Str) ∈ ws) && !decide (("unlock" : Str) ∈ ws)) || ahd ws "lock" "unlock"
def splitW (known ws : List Str) : List Str := if ((ws.all fun z => decide (z ∈ known)) && decide ws.Nodup) = true then ws else []
def WW : List Str := ["change", "clear", "commit", "enter", "lock", "unlock"]
def CW : List Str := ["again", "lock", "look", "remove", "set", "unlock"]
def RW : List Str := ["entry", "hold", "mark", "page", "take", "tell"]
def isW (ws : List Str) : Bool := ahd (splitW WW ws) "change" "enter" && (ahd (splitW WW ws) "change" "commit" && lck (splitW WW ws))
def isC (ws : List Str) : Bool := ahd (splitW CW ws) "look" "set" && ((!decide (("remove" : Str) ∈ splitW CW ws) || ahd (splitW CW ws) "remove" "look") && ((!decide (("again" : Str) ∈ splitW CW ws) || ahd (splitW CW ws) "set" "again") && lck (splitW CW ws)))
def isR (ws : List Str) : Bool :=
  if (!decide (("entry" : Str) ∈ splitW RW ws) || (!decide (("mark" : Str) ∈ splitW RW ws) || !decide ((splitW RW ws).getLast? = some ("page" : Str)))) = true then false
  else if (("hold" : Str) ∈ splitW RW ws) then (!decide (("take" : Str) ∈ splitW RW ws) && !decide (("tell" : Str) ∈ splitW RW ws)) else ahd (splitW RW ws) "take" "tell"
def insAt (z : Str) (ws : List Str) (i : Nat) : List Str := ws.take i ++ [z] ++ ws.drop i
def puts (z : Str) (least : Nat) (ws : List Str) : List (List Str) := (List.range (ws.length + 1 - least)).map fun k => insAt z ws (least + k)
theorem mem_puts {z : Str} {least k : Nat} {ws : List Str} (h : k < ws.length + 1 - least) : insAt z ws (least + k) ∈ puts z least ws := List.mem_map.mpr ⟨k, List.mem_range.mpr h, rfl⟩
theorem ins_len {z : Str} {ws : List Str} {i : Nat} (h : i ≤ ws.length) : (insAt z ws i).length = ws.length + 1 := by
  unfold insAt
  rw [List.length_append, List.length_append, List.length_take, List.length_drop, List.length_singleton]
  omega
theorem puts_len {z : Str} {least : Nat} {ws us : List Str} (h : us ∈ puts z least ws) : us.length = ws.length + 1 := by
  obtain ⟨k, hk, rfl⟩ := List.mem_map.mp h
  have := List.mem_range.mp hk
  exact ins_len (by omega)
theorem puts_mem {z : Str} {least : Nat} {ws us : List Str} (h : us ∈ puts z least ws) : z ∈ us := by
  obtain ⟨k, hk, rfl⟩ := List.mem_map.mp h
  unfold insAt
  simp
def lock1 (ws : List Str) : List (List Str) := ws :: (puts "unlock" 0 ws).flatMap fun us => (List.range (idx "unlock" us + 1)).map (insAt "lock" us)
def wBase : List (List Str) := (puts "enter" 1 ["change"]).flatMap (puts "commit" 1)
def WL : List (List Str) := (wBase ++ wBase.flatMap (puts "clear" 0)).flatMap lock1
def CL : List (List Str) := ([["look", "set"], ["remove", "look", "set"], ["look", "set", "again"], ["remove", "look", "set", "again"]] : List (List Str)).flatMap lock1
def rBase : List (List Str) := puts "mark" 0 ["entry"]
def RL : List (List Str) := (rBase.flatMap (puts "hold" 0) ++ (rBase.flatMap (puts "take" 0)).flatMap (fun us => puts "tell" (idx "take" us + 1) us)).map (· ++ [("page" : Str)])
theorem wBase_len : ∀ ws ∈ wBase, ws.length = 3 := by decide +kernel
theorem wAll_len : ∀ ws ∈ wBase ++ wBase.flatMap (puts "clear" 0), ws.length ≤ 15 := by decide +kernel
theorem idx_lt {z : Str} {us : List Str} (mu : z ∈ us) : idx z us < us.length := by
  have g := idx_get mu
  rw [List.getElem?_map] at g
  by_cases h : idx z us < us.length
  · exact h
  · rw [List.getElem?_eq_none (by omega)] at g
    cases g
theorem app_assoc (a b c : Str) : a ++ b ++ c = a ++ (b ++ c) := TL.ext_tl (by rw [TL.tl_append, TL.tl_append, TL.tl_append, TL.tl_append, List.append_assoc])
theorem join_snoc (y x : Str) : ∀ {ws : List Str}, ws ≠ [] → Str.join y (ws ++ [x]) = Str.join y ws ++ y ++ x
  | [], h => absurd rfl h
  | [a], _ => rfl
  | a :: b :: r, _ => by
    show a ++ y ++ Str.join y ((b :: r) ++ [x]) = a ++ y ++ Str.join y (b :: r) ++ y ++ x
    rw [join_snoc y x (ws := b :: r) (by simp), app_assoc (a ++ y), app_assoc (a ++ y), app_assoc (Str.join y (b :: r))]
theorem app_len (a b : Str) : (a ++ b).length = a.length + b.length := by
  show (a.cps ++ b.cps).size = _
  rw [Array.size_append]
  rfl
theorem join_len {n : Nat} : ∀ {ws : List Str}, (∀ z ∈ ws, z.length ≤ n) → (Str.join " " ws).length ≤ (n + 1) * ws.length
  | [], _ => Nat.zero_le _
  | [a], h => by
    show a.length ≤ (n + 1) * 1
    have := h a List.mem_cons_self
    omega
  | a :: b :: r, h => by
    show (a ++ (" " : Str) ++ Str.join " " (b :: r)).length ≤ (n + 1) * ((b :: r).length + 1)
    have ih := join_len (n := n) (ws := b :: r) fun z hz => h z (List.mem_cons_of_mem _ hz)
    have ha := h a List.mem_cons_self
    rw [app_len, app_len, Nat.mul_add]
    have e : (" " : Str).length = 1 := by decide +kernel
    omega
def plain (z : Str) : Bool := decide (z.length ≤ 6) && !(z.cps.toList.contains 32)
theorem split_ok {ws : List Str} (hne : ws ≠ []) (hp : ∀ z ∈ ws, 32 ∉ TL.tl z) : Txt.split (Str.join " " ws) " " = ws := by
  rw [← TL.join_eq]
  exact TL.split_join (s := 32) (S := []) (by decide +kernel) (by decide +kernel) hne hp
theorem no_word {known us : List Str} {x : Str} (hx : x ∈ us) (h : x ∉ known) : splitW known us = [] := by
  unfold splitW
  rw [if_neg]
  intro c
  exact h (of_decide_eq_true (List.all_eq_true.mp (Bool.and_eq_true_iff.mp c).1 x hx))
theorem isW_no {us : List Str} {x : Str} (hx : x ∈ us) (h : x ∉ WW) : isW us = false := by
  unfold isW
  rw [no_word hx h]
  rfl
theorem isC_no {us : List Str} {x : Str} (hx : x ∈ us) (h : x ∉ CW) : isC us = false := by
  unfold isC
  rw [no_word hx h]
  rfl
theorem isR_no {us : List Str} {x : Str} (hx : x ∈ us) (h : x ∉ RW) : isR us = false := by
  unfold isR
  rw [no_word hx h]
  rfl
theorem isR_twice {us : List Str} (h : ¬ us.Nodup) : isR us = false := by
  unfold isR
  have e : splitW RW us = [] := by
    unfold splitW
    rw [if_neg]
    intro c
    exact h (of_decide_eq_true (Bool.and_eq_true_iff.mp c).2)
  rw [e]
  rfl
def cheap (k : Nat) (ws : List Str) : Bool := (decide (ws.length ≤ 7) && (!ws.isEmpty && ((isW ws == (k == 0)) && ((isC ws == (k == 1)) && ((isR ws == (k == 2)) && (decide (("page" : Str) ∈ ws) || ws.any fun z => !decide (z ∈ RW))))))) && ws.all plain
theorem cheapR : (RL.all (cheap 2)) = true := by decide +kernel
theorem cheapC : (CL.all (cheap 1)) = true := by decide +kernel
theorem cheapW : (WL.all (cheap 0)) = true := by decide +kernel
structure Good (k : Nat) (ws : List Str) : Prop where
  small : ∀ z ∈ ws, z.length ≤ 6
  few : ws.length ≤ 7
  len : (Str.join " " ws).length ≤ 49
  cut : Txt.split (Str.join " " ws) " " = ws
  w : isW ws = (k == 0)
  c : isC ws = (k == 1)
  r : isR ws = (k == 2)
  w1 : isW (Txt.split (Str.join " " ws ++ (" " : Str)) " ") = false
  c1 : isC (Txt.split ((" " : Str) ++ Str.join " " ws) " ") = false
  r1 : isR (Txt.split (Str.join " " ws ++ ("\n" : Str)) " ") = false
  r2 : isR (Txt.split (Str.join " " ws ++ (" page" : Str)) " ") = false
theorem good_of {k : Nat} {ws : List Str} (h : cheap k ws = true) : Good k ws := by
  unfold cheap at h
  simp only [Bool.and_eq_true] at h
  obtain ⟨⟨h1, h2, h3, h4, h5, h6⟩, h7⟩ := h
  have few := of_decide_eq_true h1
  have hne : ws ≠ [] := fun e => by rw [e] at h2; cases h2
  have pl : ∀ z ∈ ws, z.length ≤ 6 ∧ 32 ∉ TL.tl z := fun z hz => by
    have := List.all_eq_true.mp h7 z hz
    unfold plain at this
    rw [Bool.and_eq_true] at this
    exact ⟨of_decide_eq_true this.1, by simpa using this.2⟩
  have cut := split_ok hne fun z hz => (pl z hz).2
  have len := join_len (n := 6) fun z hz => (pl z hz).1
  have e0 : ∀ x : Str, x ++ ("" : Str) = x := fun x => TL.ext_tl (by rw [TL.tl_append]; show _ ++ [] = _; rw [List.append_nil])
  have e1 : ∀ x : Str, ("" : Str) ++ x = x := fun x => TL.ext_tl (by rw [TL.tl_append]; rfl)
  refine ⟨fun z hz => (pl z hz).1, few, by omega, cut, by simpa using h3, by simpa using h4, by simpa using h5, ?_, ?_, ?_, ?_⟩
  · have e : Str.join " " ws ++ (" " : Str) = Str.join " " (ws ++ [("" : Str)]) := by rw [join_snoc _ _ hne, e0]
    rw [e, split_ok (by simp)]
    · exact isW_no (x := "") (by simp) (by decide +kernel)
    · intro z hz
      rcases List.mem_append.mp hz with m | m
      · exact (pl z m).2
      · rw [List.mem_singleton.mp m]
        decide +kernel
  · obtain ⟨a, r, rfl⟩ : ∃ a r, ws = a :: r := by
      cases ws with
      | nil => exact absurd rfl hne
      | cons a r => exact ⟨a, r, rfl⟩
    have e : (" " : Str) ++ Str.join " " (a :: r) = Str.join " " (("" : Str) :: a :: r) := by
      show _ = ("" : Str) ++ (" " : Str) ++ Str.join " " (a :: r)
      rw [e1]
    rw [e, split_ok (by simp)]
    · exact isC_no (x := "") (by simp) (by decide +kernel)
    · intro z hz
      rcases List.mem_cons.mp hz with m | m
      · rw [m]
        decide +kernel
      · exact (pl z m).2
  · obtain ⟨ini, z, rfl⟩ : ∃ ini z, ws = ini ++ [z] := by
      rcases List.eq_nil_or_concat ws with e | e
      · exact absurd e hne
      · obtain ⟨i, z, e⟩ := e
        exact ⟨i, z, by rw [e, List.concat_eq_append]⟩
    have e : Str.join " " (ini ++ [z]) ++ ("\n" : Str) = Str.join " " (ini ++ [z ++ ("\n" : Str)]) := by
      by_cases hi : ini = []
      · rw [hi]
        rfl
      · rw [join_snoc _ _ hi, join_snoc _ _ hi, app_assoc]
    rw [e, split_ok (by simp)]
    · refine isR_no (x := z ++ ("\n" : Str)) (by simp) fun m => ?_
      have k : ∀ y ∈ RW, 10 ∉ TL.tl y := by decide +kernel
      refine k _ m ?_
      rw [TL.tl_append]
      exact List.mem_append_right _ (by decide +kernel)
    · intro x hx
      rcases List.mem_append.mp hx with m | m
      · exact (pl x (List.mem_append_left _ m)).2
      · rw [List.mem_singleton.mp m, TL.tl_append]
        intro y
        rcases List.mem_append.mp y with y | y
        · exact (pl z (by simp)).2 y
        · exact absurd y (by decide +kernel)
  · have e : Str.join " " ws ++ (" page" : Str) = Str.join " " (ws ++ [("page" : Str)]) := by
      rw [join_snoc _ _ hne, app_assoc]
      congr 1
    rw [e, split_ok (by simp)]
    · rcases Bool.or_eq_true_iff.mp h6 with m | m
      · refine isR_twice fun n => ?_
        exact (List.nodup_append.mp n).2.2 _ (of_decide_eq_true m) _ (List.mem_singleton.mpr rfl) rfl
      · obtain ⟨x, hx, n⟩ := List.any_eq_true.mp m
        exact isR_no (x := x) (List.mem_append_left _ hx) (by simpa using n)
    · intro z hz
      rcases List.mem_append.mp hz with m | m
      · exact (pl z m).2
      · rw [List.mem_singleton.mp m]
        decide +kernel
theorem goodW : ∀ ws ∈ WL, Good 0 ws := fun ws h => good_of (List.all_eq_true.mp cheapW ws h)
theorem goodC : ∀ ws ∈ CL, Good 1 ws := fun ws h => good_of (List.all_eq_true.mp cheapC ws h)
theorem goodR : ∀ ws ∈ RL, Good 2 ws := fun ws h => good_of (List.all_eq_true.mp cheapR ws h)
end Toy
set_option Elab.async false
set_option linter.all false
set_option maxRecDepth 100000
set_option maxHeartbeats 4000000
namespace KeX
open PySem PySem.Spec PySem.W PyProof.Rows PySem.HandSPX Builtin Builtin.ObjectAttr
/-! ### own errors over KeyError: their making, their fields -/
/-- own classes ahead of KeyError's own line -/
def lineK : List Value → Bool
  | .ref _ :: r => lineK r
  | l => l == [.type "KeyError", .type "LookupError", .type "Exception", .type "BaseException", .type "object"]
theorem lineK_end {l : List Value} (e : lineK l = true) (nr : ∀ c r, l ≠ .ref c :: r) : l = [.type "KeyError", .type "LookupError", .type "Exception", .type "BaseException", .type "object"] := by
  unfold lineK at e
  split at e
  · exact absurd rfl (nr _ _)
  · exact beq_iff_eq.mp e
theorem lineK_pass (self : Value) : ∀ l : List Value, lineK l = true → refuseLoop self "__setattr__" l = pure ()
  | [], e => absurd e (by decide)
  | a :: r, e => by
    by_cases h : ∃ c, a = .ref c
    · obtain ⟨c, rfl⟩ := h
      rw [refuseLoop_ref]
      exact lineK_pass self r e
    · rw [lineK_end e fun c r z => h ⟨c, (List.cons.inj z).1⟩]
      kernel_rfl
theorem lineK_has (X : String) : ∀ l : List Value, lineK l = true → l.contains (.type X) = ([.type "KeyError", .type "LookupError", .type "Exception", .type "BaseException", .type "object"] : List Value).contains (.type X)
  | [], e => absurd e (by decide)
  | a :: r, e => by
    by_cases h : ∃ c, a = .ref c
    · obtain ⟨c, rfl⟩ := h
      rw [List.contains_cons, lineK_has X r e]
      rfl
    · rw [lineK_end e fun c r z => h ⟨c, (List.cons.inj z).1⟩]
theorem lineK_ne {l : List Value} (e : lineK l = true) : l.isEmpty = false := by
  cases l with
  | nil => exact absurd e (by decide)
  | cons _ _ => rfl
section
variable {M : Model} {A : Around} {E : Value → Shared → Prop} {h : Heap} {g : Array GenState} {d : Drawn} {t : Nat} {os : OsState}
variable {nm q : Str} {C N : Addr} {bs bm : List Value} {hdct : Bool} {sn : List Str} {sub : List Value} {ab : Bool} {col : Option Bool} {dd : Option Addr} {k0 k1 k2 k3 k5 : Option Value}
theorem new_check (hL : lineK bm = true) {rest : List Value} {Q : Unit → Shared → Prop}
    (hC : h.get? C = some (excClassObj nm q C N bs bm hdct sn sub ab col dd k0 k1 k2 k3 k5 "LookupError.__new__")) (hq : Q () ⟨h, g, d, t, os⟩) : wpAny M A (checkBuiltinCall "LookupError.__new__" ⟨.ref C :: rest, []⟩) Q E ⟨h, g, d, t, os⟩ := by
  have B := F.excBase_LookupError
  have has : (Value.ref C :: bm).contains (.type "LookupError") = true := by rw [List.contains_cons, lineK_has _ _ hL]; rfl
  have star := B.noStar
  simp only [checkBuiltinCall, B.newKind, B.newSplit, B.newRow]
  repeat (first | refine wpAny_loadPart_at hC ?_ | (refine wpAny_isSubtype_exc hC ?_; rw [has]) | refine wpAny_staticBase_exc hC ?_ | refine wpAny_madeBy_exc hC ?_ | simp only [bne_self_eq_false, Bool.false_eq_true, if_false] | wp_step)
  exact hq
theorem init_check (hL : lineK bm = true) {e : Addr} {oe : Obj} {rest : List Value} {Q : Unit → Shared → Prop}
    (hC : h.get? C = some (excClassObj nm q C N bs bm hdct sn sub ab col dd k0 k1 k2 k3 k5 "LookupError.__new__")) (he : h.get? e = some oe) (hcls : oe.cls = .ref C) (hq : Q () ⟨h, g, d, t, os⟩) :
    wpAny M A (checkBuiltinCall "KeyError.__init__" ⟨.ref e :: rest, []⟩) Q E ⟨h, g, d, t, os⟩ := by
  have B := excClass_KeyError
  have has : (Value.ref C :: bm).contains (.type "KeyError") = true := by rw [List.contains_cons, lineK_has _ _ hL]; rfl
  have star := B.notStar
  simp only [checkBuiltinCall, B.initKind, B.initSplit, B.initSig]
  repeat (first | (with_reducible refine wpAny_loadPart_at he ?_; rw [hcls]) | with_reducible refine wpAny_loadPart_at hC ?_ | (with_reducible refine wpAny_isSubtype_exc hC ?_; rw [has]) | wp_step)
  refine wpAny_onRaise ?_
  rw [show ∀ (a b : String) (n : Nat), Bind.check ⟨.positional, "*", "KeyError", .self, [⟨"args", .varPos, false⟩]⟩ a b n (List.map (fun x => x.fst) ({ pos := Value.ref e :: rest } : Args).kw) = pure () from
    fun a b n => check_star_args _ _ _ _ _ _]
  exact wpAny_pure hq
end
section
variable {prog : Program} {w : World} {A : Around} {E : Value → Shared → Prop} {R : Result → Shared → Prop} {h : Heap} {g : Array GenState} {d : Drawn} {t : Nat} {os : OsState}
variable {nm q : Str} {C N : Addr} {bs bm : List Value} {hdct : Bool} {sn : List Str} {sub : List Value} {ab : Bool} {col : Option Bool} {dd : Option Addr} {k0 k1 k2 k3 k5 : Option Value}
theorem new_of (hL : lineK bm = true) {rest : List Value}
    (hC : h.get? C = some (excClassObj nm q C N bs bm hdct sn sub ab col dd k0 k1 k2 k3 k5 "LookupError.__new__")) (hrest : rest.length ≤ sizeLine)
    (hq : R (.ok (.ret (.ref (h.objs.size + 1)))) ⟨(h.push (W.kdv_tup rest)).push (excO C h.objs.size), g, d, t, os⟩) :
    codeAny (model prog w) A (.builtin "LookupError.__new__" ⟨.ref C :: rest, []⟩) R ⟨h, g, d, t, os⟩ := by
  have B := F.excBase_LookupError
  have ends := B.ends
  have has : (Value.ref C :: bm).contains (.type "LookupError") = true := by rw [List.contains_cons, lineK_has _ _ hL]; rfl
  have nA : (Value.ref C :: bm).contains (.type "AttributeError") = false := by rw [List.contains_cons, lineK_has _ _ hL, (by decide +kernel : ([.type "KeyError", .type "LookupError", .type "Exception", .type "BaseException", .type "object"] : List Value).contains (.type "AttributeError") = false)]; rfl
  have nN : (Value.ref C :: bm).contains (.type "NameError") = false := by rw [List.contains_cons, lineK_has _ _ hL, (by decide +kernel : ([.type "KeyError", .type "LookupError", .type "Exception", .type "BaseException", .type "object"] : List Value).contains (.type "NameError") = false)]; rfl
  refine codeAny_builtinAt B.entry ?_
  unfold Builtin.«BaseException.__new__»
  refine PySem.wpAt_bind ?_
  show PySem.wpAt _ _ _ (stack >>= _) _ _ _
  refine PySem.wpAt_bind (PySem.wpAt_stack fun p below => PySem.wpAt_of_wpAny ?_)
  wp_walk
  refine PySem.wpAt_of_wpAny ?_
  rw [B.owner]
  repeat (first | with_reducible refine wpAny_madeHere_exc B.canon hC ?_ | with_reducible refine wpAny_loadPart_at hC ?_ | (with_reducible refine wpAny_isSubtype_exc hC ?_; first | rw [has] | rw [nA] | rw [nN]) | wp_step)
  show R _ _
  rw [Heap.size_push]
  exact hq
theorem type_of (hL : lineK bm = true) {rest : List Value} {fI : Addr} {Q : Fin → Shared → Prop}
    (hC : h.get? C = some (excClassObj nm q C N bs bm hdct sn sub ab col dd k0 k1 k2 k3 k5 "LookupError.__new__"))
    (hi : W.Looks (model prog w) h (typeLookup (.ref C) "__init__") (some (.ref fI))) (hb : ∀ self, W.Looks (model prog w) h (bindSpecial (.ref fI) self) (.ref fI, [self])) (hrest : rest.length ≤ sizeLine)
    (hq : codeAny (model prog w) A (.call (.ref fI) ⟨.ref (h.objs.size + 1) :: rest, []⟩)
      (fun r s' => match r with | .ok (.ret v) => v = .none ∧ Q (.done (.ret (.ref (h.objs.size + 1)))) s' | .ok _ => False | .error e => E e s')
      ⟨(h.push (W.kdv_tup rest)).push (excO C h.objs.size), g, d, t, os⟩) :
    wpAny (model prog w) A (Builtin.«type.__call__» ⟨.ref C :: rest, []⟩) Q E ⟨h, g, d, t, os⟩ := by
  repeat (first | with_reducible refine wpAny_loadPart_at hC ?_ | with_reducible refine wpAny_madeBy_exc hC ?_ | wp_step)
  refine codeAny_call_builtin_code (Code.quiet_builtin _ F.excBase_LookupError.quiet) (new_check hL hC (new_of hL hC hrest ?_))
  show wpAny _ _ _ _ _ _
  have k : ∀ b o, h.get? b = some o → ((h.push (W.kdv_tup rest)).push (excO C h.objs.size)).get? b = some o := fun b o e => Heap.get?_push_of_some _ (Heap.get?_push_of_some _ e)
  have hC₁ := k _ _ hC
  have hget : ((h.push (W.kdv_tup rest)).push (excO C h.objs.size)).get? (h.objs.size + 1) = some (excO C h.objs.size) := by heap_get
  have hcC : (Value.ref C :: bm).contains (.ref C) = true := by simp
  have i1 := hi.keeps k
  have b1 := (hb (.ref (h.objs.size + 1))).keeps k
  unfold isInstance
  repeat (first | with_reducible refine wpAny_loadPart_at hget ?_ | (with_reducible refine wpAny_isSubtype_exc hC₁ ?_; rw [hcC]) | wp_step)
  show wpAny _ _ (typeLookup (.ref C) _) _ _ _
  refine i1.at (wpAny_holding (wpAny_bind (b1.at (wpAny_bind (wpAny_call (codeAny_mono hq fun r s' z => ?_))))))
  rcases r with e | (v | _ | _ | _) <;> first | exact z | exact z.elim | skip
  obtain ⟨rfl, z⟩ := z
  first
    | exact wpAny_pure (wpAny_pure z)
    | (wp_walk; exact z)
theorem call_of (hL : lineK bm = true) {rest : List Value} {fI : Addr}
    (hC : h.get? C = some (excClassObj nm q C N bs bm hdct sn sub ab col dd k0 k1 k2 k3 k5 "LookupError.__new__"))
    (hi : W.Looks (model prog w) h (typeLookup (.ref C) "__init__") (some (.ref fI))) (hb : ∀ self, W.Looks (model prog w) h (bindSpecial (.ref fI) self) (.ref fI, [self])) (hrest : rest.length ≤ sizeLine)
    (hq : codeAny (model prog w) (A.under (.builtin "type.__call__" ⟨.ref C :: rest, []⟩)) (.call (.ref fI) ⟨.ref (h.objs.size + 1) :: rest, []⟩) (W.InitBack (h.objs.size + 1) R)
      ⟨(h.push (W.kdv_tup rest)).push (excO C h.objs.size), g, d, t, os⟩) :
    codeAny (model prog w) A (.call (.ref C) ⟨rest, []⟩) R ⟨h, g, d, t, os⟩ := by
  have f1 := tc_lookup
  have f2 := tc_bind (.ref C)
  have hTy : (⟨h, g, d, t, os⟩ : Shared).TypeIs (.ref C) "type" := ⟨_, hC, rfl⟩
  refine codeAny_of_tree ?_
  show wpAny _ _ (callAny (.ref C) _) _ _ _
  repeat (any_goals (first | assumption | with_reducible refine wpAny_loadPart_at hC ?_ | wp_step))
  refine ⟨rfl, ?_⟩
  refine codeAny_call_builtin_at (Code.quiet_builtin _ (by decide +kernel)) entry_typeCall (wpAny_check_type_call_sub hC (type_of hL hC hi hb hrest ?_))
  refine codeAny_mono hq fun r s' z => ?_
  rcases r with e | (v | _ | _ | _) <;> exact z
theorem init_of (hL : lineK bm = true) {e t0 : Addr} {rest : List Value}
    (hC : h.get? C = some (excClassObj nm q C N bs bm hdct sn sub ab col dd k0 k1 k2 k3 k5 "LookupError.__new__")) (he : h.get? e = some (excO C t0)) (hrest : rest.length ≤ sizeLine)
    (hq : ∀ h' t1, (∀ b o, b ≠ e → h.get? b = some o → h'.get? b = some o) → h'.get? e = some (excO C t1) → R (.ok (.ret .none)) ⟨h', g, d, t, os⟩) :
    codeAny (model prog w) A (.call (.builtin "KeyError.__init__") ⟨.ref e :: rest, []⟩) R ⟨h, g, d, t, os⟩ := by
  refine codeAny_call_builtin excClass_KeyError.init.plain excClass_KeyError.initEntry (init_check hL hC he rfl ?_)
  wp_walk
  refine hq _ h.objs.size (fun b o hb ho => ?_) ?_
  · rw [Heap.get?_update_other _ _ (Ne.symm hb)]
    exact Heap.get?_push_of_some _ ho
  · rw [Heap.get?_update_self _ (Heap.get?_push_of_some _ he) rfl]
    rfl
end
section
variable {prog : Program} {w : World} {A : Around} {R : Result → Shared → Prop} {hp : Heap} {g : Array GenState} {d : Drawn} {t : Nat} {os : OsState}
theorem set_of {K : W.Frag} {name : Str} {tk : Tok} {v : Value} {x C : Addr} {fv : Array Value} {cd : ClassData}
    (X : K.In hp) (hx : hp.get? x = some { cls := .ref C, data := .fields fv }) (hcd : W.clsIn K C = some cd) (hm : lineK cd.mro = true) (hh : cd.hasDict = true) (ha : W.findIn K (.ref C) name = some none)
    (hq : ∀ h' tk' dx, (∀ b o, b ≠ x → hp.get? b = some o → h'.get? b = some o) → hp.objs.size ≤ dx → dx ≠ x → h'.get? x = some { cls := .ref C, dict := some dx, data := .fields fv } →
      h'.Ns1 dx (fun y => if y = name then some v else none) → R (.ok (.ret .none)) ⟨h', g, d, tk', os⟩) :
    codeAny (model prog w) A (.call (.builtin "object.__setattr__") ⟨[.ref x, .str name tk, v], []⟩) R ⟨hp, g, d, t, os⟩ := by
  have I : W.InstAt hp x { cls := .ref C, data := .fields fv } C none := ⟨hx, rfl, rfl, trivial⟩
  have S := F.store_object
  have ob : cd.mro.contains (.type "object") = true := (lineK_has "object" _ hm).trans (by decide +kernel)
  have hxs : x ≠ hp.objs.size := Nat.ne_of_lt (Heap.lt_size hx)
  have sub : W.Looks (model prog w) hp (isInstance (.ref x) (.type "object")) true := I.type.andThen (W.looks_mroIn X (by unfold W.mroIn; rw [hcd, Option.bind_some, if_neg (by rw [lineK_ne hm]; decide), ob]))
  refine codeAny_call_builtin S.slot.plain S.entry (@W.check_slot (model prog w) _ _ ⟨hp, g, d, t, os⟩ "object.__setattr__" "object" "__setattr__" (.ref x) [.str name tk, v] [] _ S.kind S.split sub (S.args (.ref x) (.str name tk) v) ?_)
  have hmr : W.Looks (model prog w) hp (mroOf (.ref C)) cd.mro := (W.looks_clsIn X hcd).andThen .now
  have L3 : W.Looks (model prog w) hp (storeTaker? none) none := .now
  have hcls : W.Looks (model prog w) hp (classData C) cd := W.looks_clsIn X hcd
  rw [W.osa_eq, refuse_eq]
  refine wpAny_bind (wpAny_bind (I.type.at (wpAny_bind (hmr.at ?_))))
  rw [lineK_pass _ _ hm]
  refine wpAny_pure (wpAny_bind (I.type.at (wpAny_bind ((W.looks_findIn X ha).at (wpAny_bind (L3.at ?_))))))
  show wpAny _ _ (storeInOwnDict (.ref x) (.ref C) (.str name tk) name v false) _ _ _
  obtain ⟨nm, bs, mro, ns, qn, hd, sn, sb, ab, col, del⟩ := cd
  dsimp only at hh
  subst hh
  unfold storeInOwnDict ownDictForStores
  repeat (first | with_reducible refine store_in_new ?_ ?_ | with_reducible refine wpAny_loadPart_at hx ?_ | with_reducible refine hcls.at ?_ | wp_step)
  · exact ⟨_, #[], _, (Heap.get?_update_ne _ _ _ _ hxs.symm).trans (Heap.get?_push_at rfl rfl), rfl, fun e he => absurd he (by simp), fun _ => rfl⟩
  · intro h' tk' hn' hs
    refine hq h' tk' hp.objs.size (fun b o hb ho => ?_) (Nat.le_refl _) hxs.symm ?_ hn'
    · exact (hs.2 b (Nat.ne_of_lt (Heap.lt_size ho))).trans ((Heap.get?_update_ne _ _ _ _ hb).trans (Heap.get?_push_of_some _ ho))
    · exact (hs.2 x hxs).trans (Heap.get?_update_self _ (Heap.get?_push_of_some _ hx) rfl)
end
theorem typ_KE : typeOf (.type "KeyError") = pure (.type "type") := by kernel_rfl
end KeX
set_option Elab.async false
set_option linter.all false
set_option maxRecDepth 100000
set_option maxHeartbeats 4000000
namespace DX
open PySem PySem.Spec PyProof.Rows L2
/-! ### own errors over KeyError -/
/-- what the written part says of such a class -/
structure OexK (K : PySem.W.Frag) (C : Addr) : Prop where
  cls : ∃ nm q N bs bm sn sub ab col dd k0 k1 k2 k3 k5, K.lookup C = some (excClassObj nm q C N bs bm true sn sub ab col dd k0 k1 k2 k3 k5 "LookupError.__new__") ∧ KeX.lineK bm = true
  sa : PySem.W.findIn K (.ref C) "__setattr__" = some (some (.builtin "object.__setattr__"))
  exC : PySem.W.subIn K (.ref C) (.type "BaseException") = some true
  tyC : PySem.W.typeIn K (.ref C) = some (.type "type")
  kC : PySem.W.keepIn K (.ref C) = true
section
variable {X : Cx} {pins : List (Addr × Obj)} {σ : L2.St} {H : Hp} {s : Shared} {a C dx : Addr} {f : Str} {y : V} {u : Value} {fs : List (Str × V)} {Q : Unit → Shared → Prop} {E : Value → Shared → Prop} {A : Around}
theorem put_first (T : OexK X.K C) (I : Inv X pins σ H s) (e : H a = some (exo a C none)) (hno : PySem.W.findIn X.K (.ref C) f = some none) (ry : RelV y u)
    (h : ∀ dx s', H dx = none → dx ≠ a → Inv X pins σ (upd (upd H dx (exd dx [(f, y)])) a (exo a C (some dx))) s' → Q () s') : wpAny (model X.prog X.w) A (setAttr (.ref a) f u) Q E s := by
  obtain ⟨nm, q, N, bs, bm, sn, sub, ab, col, dd, k0, k1, k2, k3, k5, hC, hbm⟩ := T.cls
  have hcl : PySem.W.clsIn X.K C = some { name := nm, bases := bs, mro := .ref C :: bm, ns := N, qualname := q, hasDict := true, slotNames := sn, subclasses := sub, abstract := ab, collection := col, hasDel := false } := by unfold PySem.W.clsIn; rw [hC] <;> rfl
  obtain ⟨t1, ho⟩ := exo_at I.hok e
  obtain ⟨hp, g, d, t, os⟩ := s
  refine PySem.W.set_plain I.kIn (ox := { cls := .ref C, dict := none, data := .fields #[.ref t1, .none, .none, .none, .bool false, .none] }) (od := none) ⟨ho, rfl, rfl, trivial⟩ T.sa ?_
  refine KeX.set_of I.kIn ho hcl (show KeX.lineK (.ref C :: bm) = true from hbm) rfl hno (fun h' tk' dx k dn dne hx hn => ?_)
  have hnd : H dx = none := I.hok.fresh dn
  have nd : ∀ {b : Addr} {o : Obj}, hp.get? b = some o → b ≠ dx := fun {b o} q => Nat.ne_of_lt (Nat.lt_of_lt_of_le (Heap.lt_size q) dn)
  have na : ∀ {b : Addr}, H b = none → b ≠ a := fun {b} n z => by
    rw [z, e] at n
    cases n
  have Un1 : Un X.fs [] H (upd (upd H dx (exd dx [(f, y)])) a (exo a C (some dx))) hp h' := {
    keep := fun b o q n _ _ => k b o (na n) q
    slot := fun b o q n _ _ => ⟨o.slots, k b o (na n) q⟩
    free := fun b o q n _ => by rw [upd_ne (na n), upd_ne (nd q)]; exact n
    there := fun b o q _ => by
      by_cases hb : b = a
      · exact ⟨_, by rw [hb]; exact hx⟩
      · exact ⟨o, k b o hb q⟩
    tups := fun b xs q => by rw [upd_ne (at_ne e q exo_tup), upd_ne (ne_of_none q hnd)]; exact q
    frzs := fun b o v q => by rw [upd_ne (at_ne e q exo_frz), upd_ne (ne_of_none q hnd)]; exact q
    tbls := fun b ps q => ⟨#[], by rw [upd_ne (at_ne e q exo_tbl), upd_ne (ne_of_none q hnd), q]; simp⟩ }
  refine h dx _ hnd dne (I.un (t' := tk') Un1 fun b o q => ?_)
  by_cases hb : b = a
  · subst hb
    rw [upd_same] at q
    cases q
    exact exo_ok hx
  · rw [upd_ne hb] at q
    by_cases hd : b = dx
    · subst hd
      rw [upd_same] at q
      cases q
      exact exd_ok hn (relO_put (fs := []) ry fun g => True.intro)
    · rw [upd_ne hd] at q
      exact (I.hok b o q).stay (fun c v hc z => k c v (by
          rcases hc with hc | hc
          · rw [hc]
            exact hb
          · exact at_ne e hc exo_own) z)
        (fun c hc => by rw [upd_ne (at_ne e hc exo_own), upd_ne (ne_of_none hc hnd)]; exact hc) (fun c xs hc => by rw [upd_ne (at_ne e hc exo_tup), upd_ne (ne_of_none hc hnd)]; exact hc)
theorem ke_init {us : List Value} {Q : Value → Shared → Prop} (T : OexK X.K C) (I : Inv X pins σ H s) (e : H a = some (exo a C none)) (hl : us.length ≤ sizeLine) (h : ∀ s', Inv X pins σ H s' → Q .none s') :
    wpAny (model X.prog X.w) A (call (.builtin "KeyError.__init__") (.ref a :: us)) Q E s := by
  obtain ⟨nm, q, N, bs, bm, sn, sub, ab, col, dd, k0, k1, k2, k3, k5, hC, hbm⟩ := T.cls
  obtain ⟨t1, ho⟩ := exo_at I.hok e
  obtain ⟨hp, g, d, t, os⟩ := s
  refine wpAny_call (KeX.init_of hbm (I.kIn _ _ hC) ho hl fun h' t2 k hx => ?_)
  have J := I.write (t' := t) (x := a) (e := a) (o := exo a C none) (by rw [e]; exact True.intro) (.inl rfl) k ⟨_, hx⟩ (exo_ok hx)
  have eu : upd H a (exo a C none) = H := by
    funext b
    by_cases hb : b = a
    · rw [hb, upd_same, e]
    · rw [upd_ne hb]
  rw [eu] at J
  exact h _ J
end
/-- KeyError.__init__(self, ..) -/
def tKeI (K : PySem.W.Frag) (ta : TA) : TE := fun σ H Q => ta σ H fun vs H1 => ∃ (a C : Addr) (ws : List V), vs = .ref a :: ws ∧ ws.length ≤ 1000 ∧ OexK K C ∧ H1 a = some (exo a C none) ∧ Q .non H1
/-- self.f = e, the first field -/
def tPutK (K : PySem.W.Frag) (f : Str) (to te : TE) : TS := fun D σ H => te σ H fun y H1 => to σ H1 fun x H2 => ∃ a C : Addr, x = .ref a ∧ OexK K C ∧ PySem.W.findIn K (.ref C) f = some none ∧
  H2 a = some (exo a C none) ∧ ∀ dx, H2 dx = none → dx ≠ a → D.nx σ (upd (upd H2 dx (exd dx [(f, y)])) a (exo a C (some dx)))
section
variable {X : Cx} {o e : Expr} {es : List Expr} {to te : TE} {ta : TA} {f : Str} {p p' p1 p2 pos : Pos}
theorem pe_keinit {pl : Sem Bool} (hg : Gl X "KeyError") (hm : X.mg "KeyError" = none) (vV : PySem.W.findCls X.K (.type "KeyError") (.type "type") "__init__" = some (.val (.builtin "KeyError.__init__"))) (ha : PA X (e :: es) ta)
    (hc : eval (.Call (.Attribute (.Name "KeyError" p1) "__init__" p2) (e :: es) [] pos) X.env = (do
      let ov ← eval (.Name "KeyError" p1) X.env
      standAt p2.atName
      let (f, first) ← holding [ov] (getMethod ov "__init__" pl)
      callWith pos f first (backTo pos (starEach (e :: es) X.env)) (backToKw pos (keywordEach [] X.env))) := by rfl)
    (he : starEach (e :: es) X.env = (false, eval e X.env) :: starEach es X.env := by rfl) (hpl : (backTo pos (starEach es X.env)).any (·.1) = false := by rfl) :
    PE X (.Call (.Attribute (.Name "KeyError" p1) "__init__" p2) (e :: es) [] pos) (tKeI X.K ta) := by
  refine ⟨fun pins s σ H Q I h => ?_⟩
  refine PySem.W.methodCall_KW (ld_blt I hg hm PyProof.Rows.Boot.«KeyError» ?_ (by decide) (by decide)) hc
  obtain ⟨m, fr⟩ := I.fr
  refine PySem.W.method_type fr I.ok.mod.kin KeX.typ_KE (by decide +kernel) vV (by decide +kernel) ?_
  show wpAny _ _ (callWith pos (Value.builtin "KeyError.__init__") [] (backTo pos (starEach (e :: es) X.env)) []) _ _ _
  refine PyProof.Rows.callWith_method1 (thn (ha.run pos pins _ σ H _ (I.tok _) h) fun us s1 ⟨vs, H1, I1, r1, a, C, ws, ev, hl, T, ea, q⟩ => ?_) he hpl
  subst ev
  cases r1 with
  | @cons _ u0 _ ur ra rw' =>
    obtain rfl : u0 = Value.ref a := ra
    have hlen : ur.length ≤ sizeLine := by
      rw [← Paired.length rw', sizeLine_eq]
      omega
    exact ke_init T I1 ea hlen fun s' J => ⟨.non, H1, J, rfl, q⟩
theorem ps_putK (ho : PE X o to) (he : PE X e te) (hs : swapsWith e (some (.Attribute o f p')) pos.line X.env = pure false := by rfl) : PS X (.Assign [.Attribute o f p'] e pos) (tPutK X.K f to te) := by
  refine ⟨fun pins s σ H D I h => ?_⟩
  refine plainObj_wpAny_Assign_Attribute (thn (he.run pins s σ H _ I h) fun v s1 ⟨y, H1, I1, r1, q1⟩ => thn (ho.run pins s1 σ H1 _ I1 q1) fun u s2 ⟨x, H2, I2, r2, a, C, ex, T, hno, ea, q⟩ => ?_) hs
  subst ex
  obtain rfl : u = Value.ref a := r2
  exact put_first T I2 ea hno r1 fun dx s' n ne J => ⟨σ, _, J, q dx n ne⟩
theorem pmk_oexK {CX : CXT} {x : Str} {C fI : Addr} {k : Nat} {fd : FuncData} {ps : List Str} {sp : Sp} {ds : List Value} {dvs : List V} (T : OexK X.K C) (iC : PySem.W.findIn X.K (.ref C) "__init__" = some (some (.ref fI))) (tI : PySem.W.typeIn X.K (.ref fI) = some (.type "function"))
    (F1 : FnOk X.prog X.w X.K X.mg X.base CX k fI fd ps sp) (hr : Room (k + 1) X.A) (hb : Binds X.K fd ps ds) (hd : Vals dvs ds) (hx : Passes CX X (fun _ _ _ => False)) (hg : Gl X x) (hm : X.mg x = some (.ref C)) (ha : PA X (e :: es) ta)
    (hdb : (x == ("__debug__" : Str)) = false := by decide) (he : starEach (e :: es) X.env = (false, eval e X.env) :: starEach es X.env := by rfl) (hpl : (backTo pos (starEach es X.env)).any (·.1) = false := by rfl) :
    PMk X (.Call (.Name x p) (e :: es) [] pos) (tMkO C sp dvs ta) := by
  intro pins s σ H Q I h
  obtain ⟨nm, q, N, bs, bm, sn, sub, ab, col, dd, k0, k1, k2, k3, k5, hC, hbm⟩ := T.cls
  refine wpAny_Call_Name_kw (ld_glob I hg hm ?_ hdb)
  refine PySem.W.callWith_K (h₀ := X.base) I.ok.mod.kin T.kC (thn (ha.run pos pins s σ H _ I h) fun us s1 ⟨vs, H1, I1, r1, hz, q1⟩ => ⟨I1.kIn, ?_⟩) he hpl
  show wpAny _ _ (call (.ref C) us) _ _ _
  obtain ⟨hp, g, dr, tk, os⟩ := s1
  have hsz : hp.objs.size ≤ hp.objs.size + 1 := Nat.le_succ _
  have hn : H1 (hp.objs.size + 1) = none := I1.hok.fresh hsz
  have hq := q1 (hp.objs.size + 1) hn
  have kk : ∀ b o, hp.get? b = some o → ((hp.push (PySem.W.kdv_tup us)).push (PySem.HandSPX.excO C hp.objs.size)).get? b = some o := fun b o e => Heap.get?_push_of_some _ (Heap.get?_push_of_some _ e)
  have hget : ((hp.push (PySem.W.kdv_tup us)).push (PySem.HandSPX.excO C hp.objs.size)).get? (hp.objs.size + 1) = some (PySem.HandSPX.excO C hp.objs.size) := by heap_get
  have I2 : Inv X pins σ (upd H1 (hp.objs.size + 1) (exo (hp.objs.size + 1) C none)) ⟨(hp.push (PySem.W.kdv_tup us)).push (PySem.HandSPX.excO C hp.objs.size), g, dr, tk, os⟩ :=
    I1.laid (t' := tk) (a := hp.objs.size + 1) (o := exo (hp.objs.size + 1) C none) (h' := (hp.push (PySem.W.kdv_tup us)).push (PySem.HandSPX.excO C hp.objs.size)) kk hsz (exo_ok hget)
  have r2 : Vals (V.ref (hp.objs.size + 1) :: (vs ++ dvs)) (Value.ref (hp.objs.size + 1) :: (us ++ ds)) := .cons rfl (r1.append hd)
  have hl : (Value.ref (hp.objs.size + 1) :: us ++ ds).length = ps.length := by
    have e := r2.length
    rw [F1.len _ _ _ _ hq] at e
    exact e.symm
  have hus : us.length ≤ sizeLine := by
    rw [← Paired.length r1, sizeLine_eq]
    omega
  refine wpAny_call (KeX.call_of hbm (I1.kIn _ _ hC) (PySem.W.looks_findIn I1.kIn iC) (fun self => PySem.W.bind_fn I1.kIn self tI) hus
    (codeAny_mono (F1.run _ X.stack _ _ ⟨Value.ref (hp.objs.size + 1) :: us, []⟩ (Value.ref (hp.objs.size + 1) :: (us ++ ds)) _ _ (fun _ _ _ => False) (hr.make C us []) (I2.env0.make C us []) (hb _ (Value.ref (hp.objs.size + 1) :: us) I2.kIn hl) r2 hq) fun r s' hq' => ?_))
  cases r with
  | error er => exact hx pins σ _ _ er s' I2 hq'
  | ok fl =>
    cases fl with
    | ret u =>
      obtain ⟨v, H2, os2, bare2, un2, hok2, rv, ev, d, fs, ea, ed, hd1, q2⟩ := hq'
      subst ev
      obtain ⟨h2, g2, d2, t2, os'⟩ := s'
      exact ⟨rv, mk_end (raises_own T.exC T.tyC) I1 hsz kk un2 hok2 os2 bare2 ea ed hd1 q2⟩
    | next => exact False.elim hq'
    | brk => exact False.elim hq'
    | cont => exact False.elim hq'
end
def spErrK (K : PySem.W.Frag) (f : Str) : Sp := fun vs H Q _ => ∃ (a C : Addr) (v : V), vs = [.ref a, v] ∧ OexK K C ∧ PySem.W.findIn K (.ref C) f = some none ∧ H a = some (exo a C none) ∧ ∀ d, H d = none → d ≠ a → Q .non (upd (upd H d (exd d [(f, v)])) a (exo a C (some d)))
theorem errK_end {K : PySem.W.Frag} {f : Str} {C a : Addr} {v : V} {H : Hp} {E : XK} (T : OexK K C) (no : PySem.W.findIn K (.ref C) f = some none) (na : H a = none)
    (q : ∀ H' d, Same H H' → H d = none → H' d = some (.xd [(f, v)]) → E (.ref C) (some d) H') :
    spErrK K f (.ref a :: ([v] ++ [])) (upd H a (exo a C none)) (fun u H2 => u = .non ∧ ∃ (d : Addr) (fs : List (Str × V)), H2 a = some (exo a C (some d)) ∧ H2 d = some (exd d fs) ∧ H d = none ∧ E (.ref C) (some d) (upd (del H2 a) d (.xd fs))) (fun _ _ _ => False) := by
  refine ⟨a, C, v, rfl, T, no, upd_same, fun d hd ne => ⟨rfl, d, _, upd_same, by rw [upd_ne ne]; exact upd_same, ?_, ?_⟩⟩
  · rw [upd_ne ne] at hd
    exact hd
  · rw [upd_ne ne] at hd
    refine q _ d (fun b o e => ?_) hd upd_same
    have nba : b ≠ a := ne_of_none e na
    have nbd : b ≠ d := ne_of_none e hd
    rw [upd_ne nbd, del_ne nba, upd_ne nba, upd_ne nbd, upd_ne nba]
    exact e
/-- an own error class over KeyError: its attribute f, its __init__ -/
structure ErrK (P : Program) (w : World) (K : PySem.W.Frag) (mg : Str → Option Value) (base : Heap) (x f : Str) (C fI : Addr) (fd : FuncData) : Prop where
  T : OexK K C
  no : PySem.W.findIn K (.ref C) f = some none
  gC : mg x = some (.ref C)
  iC : PySem.W.findIn K (.ref C) "__init__" = some (some (.ref fI))
  tI : PySem.W.typeIn K (.ref fI) = some (.type "function")
  F : FnOk P w K mg base CX0 1 fI fd ["self", f] (spErrK K f)
  b : L2.Binds K fd ["self", f] []
section
variable {K : PySem.W.Frag} {Ex : L2.St → XK}
theorem sim_raiseK {C : Addr} {f : Str} {t : TA} {u : DTA} (T : OexK K C) (no : PySem.W.findIn K (.ref C) f = some none) (a : SimA K Ex t u) : SimS K Ex (fun _ σ H => tMkO C (spErrK K f) [] t σ H fun cls d H' => Ex σ cls d H') (uRaise C f u) := fun Z as F H σ ρ μ De E D' R X h kn kr kb kc =>
  a Z as F H σ ρ μ _ E _ R X h fun vs ds μ1 as1 F1 H1 g1 R1 r1 h1 => by
    have h1 : (match (generalizing := false) ds with | [d] => E ρ C [(f, d)] μ1 | _ => False) := h1
    split at h1
    · cases r1 with
      | @cons w _ _ _ ra rb =>
        cases rb
        refine ⟨Nat.le_of_ble_eq_true rfl, fun p np => errK_end T no np fun H' d sm nd hd => ?_⟩
        have M2 := R1.mm.ext sm
        have nF := R1.mm.newF nd
        have nZ : Z d = none := by
          cases e : Z d with
          | none => rfl
          | some o => have := (R1.mm.hid d o e).1; rw [nd] at this; cases this
        have g2 := Gr.upd (as := as1) (o := .xd [(f, w)]) nF
        exact X σ ρ μ1 as1 _ H' C _ (some d) (g1.trans g2) (R1.up g2 (M2.known hd nF (R1.mm.new nd) nZ)) (.inr ⟨d, _, rfl, upd_same, .cons (ra.up g2) .nil⟩) h1
    · exact h1.elim
end
section
variable {X : Cx} {K : PySem.W.Frag} {Ex : L2.St → XK} {pos pos' : Pos} {e : Expr} {es : List Expr} {t : TA} {u : DTA} {x f : Str} {C fI : Addr} {fd : FuncData}
theorem s_raiseK {p : Pos} (er : ErrK X.prog X.w K X.mg X.base x f C fI fd) (hr : Room 2 X.A) (tk : Tk X Ex) (ha : AD X K Ex (e :: es) t u) (hK : X.K = K := by rfl) (hc : X.calm = true := by rfl) (hg : Gl X x := by rfl)
    (hdb : (x == ("__debug__" : Str)) = false := by decide) (he : starEach (e :: es) X.env = (false, eval e X.env) :: starEach es X.env := by rfl) (hpl : (backTo pos (starEach es X.env)).any (·.1) = false := by rfl) :
    SD X K Ex (.Raise (some (.Call (.Name x p) (e :: es) [] pos)) none pos') (fun _ σ H => tMkO C (spErrK K f) [] t σ H fun cls d H' => Ex σ cls d H') (uRaise C f u) := by
  subst hK
  exact ⟨ps_raise hc tk (pmk_oexK er.T er.iC er.tI er.F hr er.b .nil pass0 hg er.gC ha.pe hdb he hpl), sim_raiseK er.T er.no ha.sim⟩
end
end DX
set_option Elab.async false
set_option linter.all false
set_option maxRecDepth 100000
set_option maxHeartbeats 4000000
namespace DX
open PySem PySem.Spec PyProof.Rows L2
/-! several except clauses, each with 'as' -/
abbrev Suite1 := Addr → Value → Option Addr → TS
def Cleared (i : Nat) (D : Ends) : Ends := { nx := fun σ' H' => D.nx (σ'.set i none) H', rt := D.rt, bk := fun σ' H' => D.bk (σ'.set i none) H', ct := fun σ' H' => D.ct (σ'.set i none) H' }
def wAll (K : PySem.W.Frag) (out : WX) (D : Ends) : List (Value × Nat × Suite1) → WX
  | [] => out
  | (c, i, ts) :: r => fun cls d σ H => ∃ b, PySem.W.exmOne K cls c = some b ∧ (b = true → ∀ a, H a = none → ts a cls d (Cleared i D) (σ.set i (some (.ref a))) H) ∧ (b = false → wAll K out D r cls d σ H)
inductive ClausesAs (X : Cx) : List ExceptHandler → List (Value × Nat × Suite1) → Prop
  | nil : ClausesAs X [] []
  | cons {x n : Str} {c : Value} {i : Nat} {ts : Suite1} {b₀ : Stmt} {suite : List Stmt} {np pos' : Pos} {hds : List ExceptHandler} {l : List (Value × Nat × Suite1)} (hi : X.N[i]? = some n) (hln : X.env.kindOf n = some .local) (hc : Names X x c)
      (hsu : ∀ (a : Addr) (oe : Obj) (cls : Value) (d : Option Addr) (pn : List (Addr × Obj)), Zc cls d oe → (∃ vs, oe.data = .fields vs) → PSs (X.suite a ((a, oe) :: pn)) (b₀ :: suite) (ts a cls d)) (r : ClausesAs X hds l) :
      ClausesAs X (.ExceptHandler (some (.Name x np)) (some n) (b₀ :: suite) pos' :: hds) ((c, i, ts) :: l)
section
variable {X : Cx} {body : List Stmt} {h₀ : ExceptHandler} {hds : List ExceptHandler} {l : List (Value × Nat × Suite1)} {pos : Pos} {tb : WX → TS} {out : WX}
theorem ps_try_asM (hs : X.stack = X.env :: X.outer) (hf : X.env.frame = some X.env.locals) (hN : X.N.Nodup) (tk : Takes X out)
    (hb : ∀ (W : WX) (pn : List (Addr × Obj)) (xe : Value → Shared → Prop), Takes (X.tr pn xe) W → PassesOwn (model X.prog X.w) X.A X.env xe → PSs (X.tr pn xe) body (tb W))
    (hh : ClausesAs X (h₀ :: hds) l) : PS X (.Try body (h₀ :: hds) [] [] pos) (fun D σ H => tb (wAll X.K out D l) D σ H) := by
  refine ⟨fun pins s σ H D I h => wpAny_Try_except ?_⟩
  have ok := I.ok
  have hfr : X.A.frames = some (X.env :: X.outer) := by rw [ok.frames, hs]
  refine wpAny_mono ((hb (wAll X.K out D l) (X.pn ++ pins) (fun e s₁ => wpAny (model X.prog X.w) X.A (noteFrame e X.env) (fun _ s₂ => wpAny (model X.prog X.w) X.A (setFlight e none) (fun _ s₃ =>
    wpAny (model X.prog X.w) X.A (handleBy e X.env (h₀ :: hds)) (SP X pins D) X.xe s₃) X.xe s₂) X.xe s₁) (fun u s' xx => ?_) PassesOwn.looking).run [] s σ H D (I.toTry _) h) (fun f s1 hsp => ?_) (fun e s1 he => he)
  · obtain ⟨a, B, sI, pins', σ', H', cls, d, rfl, J', nb, up, sky, na, os, ag, w⟩ := xx
    have J := J'.ofTry ok
    show wpAny (model X.prog X.w) X.A (noteFrame (.ref a) X.env) _ _ _
    refine Sky.land Zc.steady hfr hf (by rw [← hs]; exact sky : Sky B (X.env :: X.outer) a (Zc cls d) X.env.locals s'.heap) fun h3 fl3 up3 => ?_
    have J3 : Inv X pins σ' H' { s' with heap := h3 } := J.landed nb fl3.1 (up.trans up3) os ag
    obtain ⟨oe3, vs3, he3, hz3, hd3⟩ := fl3.there
    have nfr : a ∉ frs (X.env :: X.outer) := fun hm => by
      obtain ⟨_, o', e', hnf⟩ := fl3.2.2.1.mem hm
      rw [he3] at e'
      cases e'
      exact hnf _ hd3
    have nL : a ≠ X.env.locals := fun z => nfr (List.mem_filterMap.mpr ⟨X.env, List.mem_cons_self, by rw [hf, z]⟩)
    have nF : a ∉ X.fs := fun hm => by
      obtain ⟨e, he, q⟩ := List.mem_filterMap.mp hm
      exact nfr (List.mem_filterMap.mpr ⟨e, List.mem_cons_of_mem _ he, q⟩)
    have S3 := J3.suite he3 hd3 na nL nF
    suffices go : ∀ {hds' : List ExceptHandler} {l' : List (Value × Nat × Suite1)}, ClausesAs X hds' l' → wAll X.K out D l' cls d σ' H' → wpAny (model X.prog X.w) X.A (handleBy (.ref a) X.env hds') (SP X pins D) X.xe { s' with heap := h3 } from go hh w
    intro hds' l' hk
    induction hk with
    | nil =>
      intro w
      refine wpAny_handleBy_nil ?_
      obtain ⟨_, _, _, oe, vs, T, oT, ts', he, hz, hd, h1, hr⟩ := id fl3
      unfold PySem.passOn
      refine wpAny_bind (wpAny_field he hd h1 ?_)
      rw [if_neg (show ¬ ((Value.ref T == Value.none) = true) from by simp)]
      have fin : wpAny (model X.prog X.w) X.A (setFlight (.ref a) X.env.frame) (fun _ s4 => wpAny (model X.prog X.w) X.A (throw (.ref a) : Sem Flow) (SP X pins D) X.xe s4) X.xe { s' with heap := h3 } := by
        rw [hf]
        exact HandSPX.setFlight_upZ fl3 fun h4 hh4 up4 => wpAny_throw (tk _ _ ⟨a, B, sI, pins, σ', H', cls, d, rfl, J, nb, (up.trans up3).trans up4, .inr (.inr (by rw [hs]; exact hh4)), na, os, ag, w⟩)
      first
        | exact wpAny_bind (wpAny_pure (wpAny_bind fin))
        | exact wpAny_bind fin
    | @cons x n c i ts b₀ suite np pos' hds2 l2 hi hln hc hsu r ih =>
      rintro ⟨b, hb1, hyes, hno⟩
      refine wpAny_handleBy_cons (codeAny_handlers_test ?_) (by intro q; cases q)
      have LT : PySem.W.Looks (model X.prog X.w) h3 (typeOf (.ref a)) cls := fun A Q E s k q => wpAny_typeOf_ref (k _ _ he3) (by rw [hz3.1]; exact q)
      have LM := PySem.W.exm_one (M := model X.prog X.w) (J3.kIn) LT hb1
      have test : ∀ {Q : Value → Shared → Prop} {E : Value → Shared → Prop}, Q c { s' with heap := h3 } → wpAny (model X.prog X.w) (X.A.mark (some (.ref a))) (eval (.Name x np) X.env) Q E { s' with heap := h3 } := fun {Q E} q => by
        obtain ⟨hg, hdbg, hm | ⟨hm, hv, hnn⟩⟩ := hc
        · exact ld_glob (X := X.suite a ((a, oe3) :: (X.pn ++ pins))) S3 hg hm q hdbg
        · exact ld_blt (X := X.suite a ((a, oe3) :: (X.pn ++ pins))) S3 hg hm hv q hnn hdbg
      refine test (LM.here ?_)
      cases b with
      | true =>
        refine codeAny_handlers_suite_as (HandSPX.lands_againZ fl3 fun h4 fl4 up4 => ?_)
        have J4 : Inv X pins σ' H' { s' with heap := h4 } := J.landed nb fl4.1 ((up.trans up3).trans up4) os ag
        obtain ⟨oe4, vs4, he4, hz4, hd4⟩ := fl4.there
        have S4 := J4.suite he4 hd4 na nL nF
        refine store_ok (X := X.suite a ((a, oe4) :: (X.pn ++ pins))) (v := .ref a) S4 hN hi (.inl hln) rfl (fun s5 S5 => ?_) (.inr hln)
        refine wpAny_mono ((hsu a oe4 cls d (X.pn ++ pins) hz4 ⟨_, hd4⟩).run [] s5 _ H' _ S5 (hyes rfl a na)) (fun f s6 hsp => ?_) (fun _ _ z => False.elim z)
        have end_ : ∀ {σ6 : L2.St} {H6 : Hp} {Q : Shared → Prop}, Inv (X.suite a ((a, oe4) :: (X.pn ++ pins))) [] σ6 H6 s6 → (∀ s7, Inv X pins (σ6.set i none) H6 s7 → Q s7) →
            wpAny (model X.prog X.w) X.A (do bindName X.env n .none; unbindBehindTheSuite X.env n pos') (fun _ s7 => Q s7) X.xe s6 := fun {σ6 H6 Q} S6 hq => gone_ok (S6.unsuite ok) hN hi hln hq
        cases f with
        | ret u =>
          obtain ⟨v6, σ6, H6, S6, r6, q6⟩ := hsp
          exact end_ S6 fun s7 J7 => ⟨_, _, _, J7, r6, q6⟩
        | next => obtain ⟨σ6, H6, S6, q6⟩ := hsp; exact end_ S6 fun s7 J7 => ⟨_, _, J7, q6⟩
        | brk => obtain ⟨σ6, H6, S6, q6⟩ := hsp; exact end_ S6 fun s7 J7 => ⟨_, _, J7, q6⟩
        | cont => obtain ⟨σ6, H6, S6, q6⟩ := hsp; exact end_ S6 fun s7 J7 => ⟨_, _, J7, q6⟩
      | false =>
        show wpAny _ X.A (handleBy (.ref a) X.env hds2) _ _ _
        exact ih (hno rfl)
  · cases f with
    | next => obtain ⟨σ', H', J', q⟩ := hsp; exact wpAny_execs_nil ⟨σ', H', J'.ofTry ok, q⟩
    | brk => obtain ⟨σ', H', J', q⟩ := hsp; exact ⟨σ', H', J'.ofTry ok, q⟩
    | cont => obtain ⟨σ', H', J', q⟩ := hsp; exact ⟨σ', H', J'.ofTry ok, q⟩
    | ret u => obtain ⟨v, σ', H', J', r, q⟩ := hsp; exact ⟨v, σ', H', J'.ofTry ok, r, q⟩
end

/-- what the clauses ask of the data -/
def uAll (K : PySem.W.Frag) (De : DEnds) (E : Rho → Addr → List (Str × D) → Mem → Prop) : List (Value × Nat × (Addr → Value → Option Addr → DTS)) → Rho → Addr → List (Str × D) → Mem → Prop
  | [] => E
  | (c, i, us) :: r => fun ρ' C gs μ' => ∃ b, PySem.W.exmOne K (.ref C) c = some b ∧ (b = true → ∀ a d, us a (.ref C) d { nx := fun ρ2 μ2 => De.nx (ρ2.set i none) μ2, rt := De.rt, bk := fun ρ2 μ2 => De.bk (ρ2.set i none) μ2, ct := fun ρ2 μ2 => De.ct (ρ2.set i none) μ2 } XN (ρ'.set i (some (.exc a C d gs))) μ') ∧ (b = false → uAll K De E r ρ' C gs μ')
def uTryM (K : PySem.W.Frag) (l : List (Value × Nat × (Addr → Value → Option Addr → DTS))) (ub : DTS) : DTS := fun De E ρ μ => ub De (uAll K De E l) ρ μ
/-- the clauses, each with its reading -/
inductive ClD (X : Cx) (K : PySem.W.Frag) : List ExceptHandler → List (Value × Nat × Suite1) → List (Value × Nat × (Addr → Value → Option Addr → DTS)) → Prop
  | nil : ClD X K [] [] []
  | cons {x n : Str} {c : Value} {i : Nat} {ts : Suite1} {us : Addr → Value → Option Addr → DTS} {b₀ : Stmt} {suite : List Stmt} {np pos' : Pos} {hds : List ExceptHandler} {l m} (hi : X.N[i]? = some n) (hln : X.env.kindOf n = some .local) (hc : Names X x c)
      (hsu : ∀ (a : Addr) (oe : Obj) (cls : Value) (d : Option Addr) (pn : List (Addr × Obj)), Zc cls d oe → (∃ vs, oe.data = .fields vs) → BD (X.suite a ((a, oe) :: pn)) K X0 (b₀ :: suite) (ts a cls d) (us a cls d)) (r : ClD X K hds l m) :
      ClD X K (.ExceptHandler (some (.Name x np)) (some n) (b₀ :: suite) pos' :: hds) ((c, i, ts) :: l) ((c, i, us) :: m)
section
variable {X : Cx} {K : PySem.W.Frag} {Ex : L2.St → XK} {hds : List ExceptHandler} {l : List (Value × Nat × Suite1)} {m : List (Value × Nat × (Addr → Value → Option Addr → DTS))} {h₀ : ExceptHandler} {body : List Stmt} {pos : Pos} {tb : WX → TS} {ub : DTS}
theorem ClD.pe (c : ClD X K hds l m) : ClausesAs X hds l := by
  induction c with
  | nil => exact .nil
  | cons hi hln hc hsu r ih => exact .cons hi hln hc (fun a oe cls d pn z z2 => (hsu a oe cls d pn z z2).pe) ih
theorem sim_tryM (c : ClD X K hds l m) (b : ∀ W : WX, SimS K (WE W) (tb W) ub) : SimS K Ex (fun D σ H => tb (wAll K (fun cls d σ H => Ex σ cls d H) D l) D σ H) (uTryM K m ub) := fun Z as F H σ ρ μ De E D' R X h kn kr kb kc => by
  refine b _ Z as F H σ ρ μ De _ D' R ?_ h kn kr kb kc
  intro σ1 ρ1 μ1 as1 F1 H1 C gs dx g R1 er q
  clear b h
  induction c with
  | nil => exact X σ1 ρ1 μ1 as1 F1 H1 C gs dx g R1 er q
  | @cons x n c i ts us b₀ suite np pos' hds l m hi hln hc hsu r ih =>
    obtain ⟨bb, hb, q1, q2⟩ := q
    refine ⟨bb, hb, fun e a na => ?_, fun e => ih (q2 e)⟩
    have s := (hsu a { cls := .ref C, dict := dx, data := .fields #[] } (.ref C) dx [] ⟨rfl, rfl⟩ ⟨_, rfl⟩).sim
    exact s Z as1 F1 H1 (σ1.set i (some (.ref a))) (ρ1.set i (some (.exc a C dx gs))) μ1 _ XN _ ⟨R1.mm, R1.env.set (exc_rep er) i⟩ XL.no (q1 e a dx)
      (fun σ2 ρ2 μ2 as2 F2 H2 g2 R2 => kn _ _ μ2 as2 F2 H2 (g.trans g2) (R2.unset i)) (fun v d μ2 as2 F2 H2 g2 => kr v d μ2 as2 F2 H2 (g.trans g2))
      (fun σ2 ρ2 μ2 as2 F2 H2 g2 R2 => kb _ _ μ2 as2 F2 H2 (g.trans g2) (R2.unset i)) (fun σ2 ρ2 μ2 as2 F2 H2 g2 R2 => kc _ _ μ2 as2 F2 H2 (g.trans g2) (R2.unset i))
theorem s_tryM (hN : X.N.Nodup) (tk : Tk X Ex)
    (hb : ∀ (W : WX) (pn : List (Addr × Obj)) (xe : Value → Shared → Prop), Takes (X.tr pn xe) W → PassesOwn (model X.prog X.w) X.A X.env xe → BD (X.tr pn xe) K (WE W) body (tb W) ub)
    (c : ClD X K (h₀ :: hds) l m) (hs : X.stack = X.env :: X.outer := by rfl) (hf : X.env.frame = some X.env.locals := by rfl) (hK : X.K = K := by rfl) :
    SD X K Ex (.Try body (h₀ :: hds) [] [] pos) (fun D σ H => tb (wAll K (fun cls d σ H => Ex σ cls d H) D l) D σ H) (uTryM K m ub) := by
  subst hK
  exact ⟨ps_try_asM hs hf hN tk (fun W pn xe a b => (hb W pn xe a b).pe) c.pe,
    sim_tryM c (fun W => (hb W [] (xNote X) (takes_note hs hf W) PassesOwn.looking).sim)⟩
end
end DX
set_option Elab.async false
set_option linter.all false
set_option maxRecDepth 100000
set_option maxHeartbeats 4000000
namespace DX
open PySem PySem.Spec PyProof.Rows L2
/-! ### for .. in reversed(range(n)) -/
theorem rev_get {n i : Nat} (h : i < n) : ((dints 0 n).reverse)[i]? = some (.int ((0 : Int) + n - 1 + (i : Int) * (-1))) := by
  have h2 : (dints 0 n).length = n := dints_len 0 n
  rw [List.getElem?_reverse (by rw [h2]; exact h), h2, dints_get 0 n (n - 1 - i) (by omega)]
  congr 2
  omega
theorem rev_len {n : Nat} : ((dints 0 n).reverse).length = n := by rw [List.length_reverse, dints_len]
section
variable {K : PySem.W.Frag} {as : List Addr} {F : Hp} {Ex : L2.St → XK}
theorem itD_rev {n : Nat} : ItD K as F (Itc ((0 : Int) + n - 1) (-1) n) (dints 0 n).reverse (fun _ => True) := by
  refine ⟨fun Z i as' F' H' μ g M c hi => by rw [rev_len] at hi; exact hi, fun Z i as' F' H' μ v H2 d g M c hd y => ?_, fun Z i as' F' H' μ g M c hi => by rw [rev_len] at hi; exact hi⟩
  obtain ⟨rfl, rfl⟩ := y
  have hi : i < n := by
    have := (List.getElem?_eq_some_iff.mp hd).1
    rwa [rev_len] at this
  rw [rev_get hi] at hd
  cases hd
  exact ⟨F', Gr.refl, M, .int _⟩
def uIRev (u : DTE) : DTI := fun ρ μ R E => u ρ μ (fun d μ1 => match d with
  | .int j => (-(2 ^ 62) ≤ j ∧ j < 2 ^ 62) ∧ R (dints 0 j.toNat).reverse (fun _ => True) μ1
  | _ => False) E
theorem sim_iRev {t : TE} {u : DTE} (a : Sim K Ex t u) : SimI K Ex (iRevR (tRg1 t)) (uIRev u) := fun Z as F H σ ρ μ R E R' r X h k =>
  a Z as F H σ ρ μ _ E _ r X h fun v d μ1 as1 F1 H1 g1 R1 r1 h1 => by
    have h1 : (match (generalizing := false) d with | .int j => (-(2 ^ 62) ≤ j ∧ j < 2 ^ 62) ∧ R (dints 0 j.toNat).reverse (fun _ => True) μ1 | _ => False) := h1
    split at h1
    · cases r1
      refine ⟨_, rfl, by decide, by decide, h1.1.1, h1.1.2, ?_⟩
      rw [Int.sub_zero]
      exact k _ _ _ μ1 as1 F1 H1 g1 R1 itD_rev h1.2
    · exact h1.elim
end
section
variable {X : Cx} {K : PySem.W.Frag} {Ex : L2.St → XK} {tg a : Expr} {p1 p2 q1 q2 : Pos} {t : TE} {u : DTE}
theorem i_rev1 (hr : X.mg "reversed" = none) (hm : X.mg "range" = none) (h : PD X K Ex a t u) (hgr : Gl X "reversed" := by rfl) (hg : Gl X "range" := by rfl) (na : starEach [a] X.env = (false, eval a X.env) :: starEach [] X.env := by rfl)
    (hs : starEach [Expr.Call (.Name "range" p1) [a] [] p2] X.env = (false, eval (Expr.Call (.Name "range" p1) [a] [] p2) X.env) :: starEach [] X.env := by rfl) :
    ID X K Ex tg (.Call (.Name "reversed" q1) [.Call (.Name "range" p1) [a] [] p2] [] q2) (iRevR (tRg1 t)) (uIRev u) := ⟨pi_revR hgr hr (prg_1 hg hm h.pe na) hs, sim_iRev h.sim⟩
end
end DX
set_option Elab.async false
set_option linter.all false
set_option maxRecDepth 100000
set_option maxHeartbeats 4000000
namespace DX
open PySem PySem.Spec PyProof.Rows L2
/-! ### z.partition(y), xs.pop(i), d.get(z, x) of the kit's dict -/
def rPartition : V → List V → Hp → VK → Prop := fun x xs H Q => ∃ a b, x = .str a ∧ xs = [.str b] ∧ (b.length == 0) = false ∧ a.length ≤ sizeLine ∧
  ∀ p, H p = none → Q (.ref p) (upd H p (.tup [.str (Txt.partition a b).1, .str (Txt.partition a b).2.1, .str (Txt.partition a b).2.2]))
def dPartition : DM := fun x ds μ Q => match x, ds with
  | .str a, [.str b] => (b.length == 0) = false ∧ a.length ≤ sizeLine ∧ Q (.tup [.str (Txt.partition a b).1, .str (Txt.partition a b).2.1, .str (Txt.partition a b).2.2]) μ
  | _, _ => False
def dPopAt : DM := fun x ds μ Q => match x, ds with
  | .ob k, [.int i] => match μ[k]? with
    | some (.lst xs) => ∃ m y, -(2 ^ 63) ≤ i ∧ i < 2 ^ 63 ∧ seqIndex? i xs.length = some m ∧ xs[m]? = some y ∧ Q y (μ.set k (.lst (xs.eraseIdx m)))
    | _ => False
  | _, _ => False
def tKGet2 (K : PySem.W.Frag) (td ty tx : TE) : TE := fun σ H Q => td σ H fun x H1 => ∃ a ks, x = .ref a ∧ KDic K a ks ∧ ty σ H1 fun y H2 => tx σ H2 fun d H3 => ∃ z, y = .str z ∧ Q ((valV ks (.inr z)).getD d) H3
def uKGet2 (uo ue uf : DTE) : DTE := fun ρ μ Q E => uo ρ μ (fun x μ1 => ∃ kvs, x = .kd kvs ∧ ue ρ μ1 (fun y μ2 => uf ρ μ2 (fun d μ3 => ∃ z, y = .str z ∧ Q ((valD kvs (.inr z)).getD d) μ3) E) E) E
section
variable {K : PySem.W.Frag} {Z : Hp} {as as' as1 : List Addr} {F F' F1 H H' H1 : Hp} {Ex : L2.St → XK}
theorem sim_partition : SimM K rPartition dPartition := fun Z as F H μ v d vs ds Q Q' M r rs z k => by
  unfold dPartition at z
  split at z
  · rename_i wa wb
    cases r
    match vs, rs with
    | _, .cons (.str _) .nil =>
      refine ⟨_, _, rfl, rfl, z.1, z.2.1, fun p np => ?_⟩
      have g := Gr.upd (as := as) (o := .tup [.str (Txt.partition wa wb).1, .str (Txt.partition wa wb).2.1, .str (Txt.partition wa wb).2.2]) (M.newF np)
      exact k _ _ μ as _ _ g (M.addF np) (.tup upd_same (.cons (.str _) (.cons (.str _) (.cons (.str _) .nil)))) z.2.2
  · exact z.elim
theorem sim_popAt : SimM K rPopAt dPopAt := fun Z as F H μ v d vs ds Q Q' M r rs z k => by
  unfold dPopAt at z
  split at z
  · rename_i n i
    cases r with
    | ob q =>
      rename_i a
      match vs, rs with
      | _, .cons (.int _) .nil =>
        cases e : μ[n]? with
        | none => rw [e] at z; exact z.elim
        | some m =>
          rw [e] at z
          obtain ⟨b, hb, w⟩ := M.at_ n m e
          obtain rfl := Option.some.inj (q.symm.trans hb)
          cases m with
          | lst xs =>
            obtain ⟨us, e1, e2⟩ := w
            obtain ⟨j, y, h1, h2, h3, h4, z⟩ := z
            obtain ⟨u, hu, ru⟩ := e2.get h4
            refine ⟨a, us, _, j, u, rfl, rfl, e1, h1, h2, by rw [e2.len]; exact h3, hu, ?_⟩
            exact k _ _ _ as F _ Gr.refl (M.put (m := .lst (xs.eraseIdx j)) q ⟨_, upd_same, e2.eraseIdx j⟩) ru z
          | _ => exact z.elim
  · exact z.elim
theorem sim_kget2 {to te tf : TE} {uo ue uf : DTE} (a : Sim K Ex to uo) (b : Sim K Ex te ue) (c : Sim K Ex tf uf) : Sim K Ex (tKGet2 K to te tf) (uKGet2 uo ue uf) := fun Z as F H σ ρ μ Q E Q' R X h k =>
  a Z as F H σ ρ μ _ E _ R X h fun v d μ1 as1 F1 H1 g1 R1 r1 h1 => by
    obtain ⟨kvs, rfl, h1⟩ := h1
    cases r1 with
    | kd hk rk =>
      refine ⟨_, _, rfl, hk, b Z as1 F1 H1 σ ρ μ1 _ E _ R1 (X.up g1) h1 fun v2 d2 μ2 as2 F2 H2 g2 R2 r2 h2 => c Z as2 F2 H2 σ ρ μ2 _ E _ R2 ((X.up g1).up g2) h2 fun v3 d3 μ3 as3 F3 H3 g3 R3 r3 h3 => ?_⟩
      obtain ⟨z, rfl, q⟩ := h3
      cases r2
      refine ⟨z, rfl, ?_⟩
      have gg := (g1.trans g2).trans g3
      cases e : valD kvs (.inr z) with
      | none =>
        rw [e] at q
        rw [(rk.val _).2 e]
        exact k _ _ μ3 as3 F3 H3 gg R3 r3 q
      | some y =>
        rw [e] at q
        obtain ⟨w, w1, w2⟩ := (rk.val _).1 y e
        rw [w1]
        exact k _ _ μ3 as3 F3 H3 gg R3 (w2.up (g2.trans g3)) q
end
section
variable {X : Cx} {K : PySem.W.Frag} {Ex : L2.St → XK} {o e f : Expr} {apos cpos : Pos} {to te tf : TE} {uo ue uf : DTE}
theorem pe_kget2 (ho : PE X o to) (he : PE X e te) (hf : PE X f tf) (m : M2 X o "get" apos e f cpos) : PE X (.Call (.Attribute o "get" apos) [e, f] [] cpos) (tKGet2 X.K to te tf) := by
  refine ⟨fun pins s σ H Q I h => ?_⟩
  refine wpAny_Call_method m.base m.few m.line PySem.F.plainAttrs_dict PySem.F.slot_dict_get PySem.F.type_dict_get (thn (ho.run pins s σ H _ I h) fun u s1 ⟨x, H1, I1, rx, a, ks, ex, hk, q1⟩ => ?_)
  subst ex
  obtain rfl : u = Value.ref a := rx
  obtain ⟨D, rfl, hT⟩ := hk
  have T1 : VTab s1.heap a D := hT _ I1.kIn
  refine ⟨T1.typeIs, fun b q => ?_, ?_⟩
  · cases q
    obtain ⟨_, ob, _, _, ho, hc, _⟩ := T1
    exact ⟨ob, ho, hc.2.1⟩
  rw [m.trees]
  refine Calls.callWith_builtin rfl (Calls.evalArgs_plain (Calls.spliced_cons (thn (he.run pins s1 σ H1 _ I1 q1) fun iv s2 ⟨y, H2, I2, ry, q2⟩ =>
    Calls.spliced_cons (thn (hf.run pins s2 σ H2 _ I2 q2) fun fv s3 ⟨z, H3, I3, rz, w, ez, q3⟩ => Calls.spliced_nil ?_))))
  subst ez
  obtain ⟨t, rfl⟩ := ry
  have T3 : VTab s3.heap a D := hT _ I3.kIn
  rw [val_datum] at q3
  refine call_meetsIn (S := fun _ R s => VTab s.heap a D ∧ (∀ d v, KTD.datumAt w D = some d → RelV d v → R (.ok (.ret v)) { s with toks := s.toks + 1 }) ∧ (KTD.datumAt w D = none → R (.ok (.ret fv)) { s with toks := s.toks + 1 }))
    PySem.F.slot_dict_get T3.typeIs PySem.F.entry_dict_get (PySem.F.args_dict_get_3 _ _ _) (.of_wp fun A R s ⟨T, h1, h2⟩ => ?_) ⟨T3, fun d v hd rv => ?_, fun hn => ?_⟩
  · show wpAny _ _ (dictGet a (.str w t) >>= _) _ _ s
    refine wpAny_bind (dictGet_v T (fun d v ha hv => wpAny_pure ⟨v, rfl, h1 d v ha hv⟩) fun hn => ?_)
    show wpAny _ _ (Builtin.Dict.missed a (.str w t) >>= _) _ _ _
    exact wpAny_bind (wpAny_missed_other T.1 (wpAny_pure ⟨fv, rfl, h2 hn⟩))
  · rw [hd] at q3
    exact ⟨_, H3, I3.tok _, rv, q3⟩
  · rw [hn] at q3
    exact ⟨_, H3, I3.tok _, rz, q3⟩
theorem d_kget2 (ho : PD X K Ex o to uo) (he : PD X K Ex e te ue) (hf : PD X K Ex f tf uf) (m : M2 X o "get" apos e f cpos := by exact ⟨rfl, rfl, rfl, rfl⟩) (hK : X.K = K := by rfl) : PD X K Ex (.Call (.Attribute o "get" apos) [e, f] [] cpos) (tKGet2 K to te tf) (uKGet2 uo ue uf) := by
  subst hK
  exact ⟨pe_kget2 ho.pe he.pe hf.pe m, sim_kget2 ho.sim he.sim hf.sim⟩
end
end DX
set_option Elab.async false
set_option linter.all false
set_option maxRecDepth 100000
set_option maxHeartbeats 4000000
namespace DX
open PySem PySem.Spec PyProof.Rows L2
/-! ### C(**d): the keywords in any order -/
def selOf (kp ks : List Str) : List Nat := kp.map fun m => ks.idxOf m
theorem lookup_zip {α : Type} : ∀ {ks : List Str} {ws : List α} {m : Str}, m ∈ ks → ks.length = ws.length → ∃ v, (ks.zip ws).lookup m = some v ∧ ws[ks.idxOf m]? = some v
  | [], _, _, h, _ => nomatch h
  | k :: ks, [], _, _, h => nomatch h
  | k :: ks, w :: ws, m, h, hl => by
    by_cases e : m = k
    · subst e
      exact ⟨w, by simp [List.lookup], by simp⟩
    · have hm : m ∈ ks := by
        rcases List.mem_cons.mp h with z | z
        · exact absurd z e
        · exact z
      obtain ⟨v, h1, h2⟩ := lookup_zip hm (Nat.succ.inj hl)
      refine ⟨v, ?_, ?_⟩
      · have eb : (m == k) = false := by simpa using e
        rw [List.zip_cons_cons, List.lookup_cons, eb]; exact h1
      · have eb : (k == m) = false := by simpa using fun z : k = m => e z.symm
        rw [List.idxOf_cons, eb]; exact h2
theorem perm_he {ks : List Str} {a : Str} {u : Value} {ws : List Value} (hw : ks.length = ws.length) : ∀ {l : List Str}, (∀ m ∈ l, m ∈ ks) → a ∉ l →
    l.filterMap (fun m => (((a, u) :: ks.zip ws).lookup m).map (m, ·)) = l.zip ((selOf l ks).flatMap fun i => (ws[i]?).toList)
  | [], _, _ => rfl
  | m :: l, h, ha => by
    obtain ⟨v, h1, h2⟩ := lookup_zip (h m List.mem_cons_self) hw
    have em : (m == a) = false := by simpa using fun z : m = a => ha (by rw [z]; exact List.mem_cons_self)
    have ih := perm_he (u := u) hw (l := l) (fun x hx => h x (List.mem_cons_of_mem _ hx)) (fun x => ha (List.mem_cons_of_mem _ x))
    rw [List.filterMap_cons, List.lookup_cons, em]
    simp only [h1, Option.map_some]
    rw [ih]
    show _ = (m :: l).zip ((ws[ks.idxOf m]?).toList ++ (selOf l ks).flatMap fun i => (ws[i]?).toList)
    rw [h2]
    rfl
theorem BindK.perm {K : PySem.W.Frag} {fd : FuncData} {ks kp : List Str} {a : Str} {D : Addr}
    (h1 : fd.params.posonlyargs = []) (h2 : fd.params.args.map (·.arg) = [a]) (h3 : fd.params.kwonlyargs.map (·.arg) = kp) (h4 : fd.params.vararg = none) (h5 : fd.params.kwarg = none) (h6 : fd.defaults = .none) (h7 : fd.kwdefaults = .ref D)
    (hk : kwOk [a] kp ks [] = true) : BindK K fd (a :: kp) ks 1 [] (fun us ws mv => gsel (selOf kp ks) us ws mv) := by
  have hk' := hk
  unfold kwOk at hk'
  simp only [Bool.and_eq_true, decide_eq_true_iff, List.all_eq_true] at hk'
  obtain ⟨_, _, k3, k4⟩ := hk'
  have sub : ∀ m ∈ kp, m ∈ ks := fun m hm => by
    by_cases e : ks.contains m = true
    · simpa using e
    · have : m ∈ kp.filter (fun k => !ks.contains k) := List.mem_filter.mpr ⟨hm, by simpa using e⟩
      rw [k4] at this
      exact nomatch this
  have na : a ∉ kp := by
    rw [List.singleton_append, List.nodup_cons] at k3
    exact k3.1
  refine BindK.gen (pos := [a]) (kp := kp) (D := D) (lk := []) h1 h2 h3 h4 h5 h6 h7 rfl hk (fun q hq => nomatch hq) fun us ws hu hw => ?_
  match us, hu with
  | [u], _ =>
    show (a :: kp).filterMap (fun m => (((a, u) :: (ks.zip ws ++ [])).lookup m).map (m, ·)) = (a, u) :: kp.zip ((selOf kp ks).flatMap fun i => ((ws ++ [])[i]?).toList)
    rw [List.append_nil, List.append_nil]
    rw [List.filterMap_cons, List.lookup_cons, show (a == a) = true from BEq.rfl]
    show (a, u) :: _ = _
    rw [perm_he hw.symm sub na]
def tMakeKP (C : Addr) (P : List Str → Prop) (sp : List Str → Sp) (E : L2.St → XK) (te : TE) : TE := fun σ H Q => ∃ ks, P ks ∧ tMakeK2 C ks (sp ks) E te σ H Q
def uMakeKP (fr : Bool) (C : Addr) (P : List Str → Prop) (Sf : List Str → DSp) (ue : DTE) : DTE := fun ρ μ Q E => ∃ ks, P ks ∧ uMakeK2 fr C ks (Sf ks) ue ρ μ Q E
section
variable {X : Cx} {K : PySem.W.Frag} {Ex : L2.St → XK} {k : Nat} {f C : Addr} {P : List Str → Prop} {Sf : List Str → DSp} {x : Str} {p pos : Pos} {e : Expr} {kws : List Keyword} {te : TE} {ue : DTE}
theorem d_makeKP (fr : Bool) (M : Mk K C f) (F : ∀ ks, P ks → FnC X.prog X.w K X.mg X.base k f ks (Sf ks)) (hm : X.mg x = some (.ref C)) (g : Gd.Calm0 X.A) (hr : Room (k + 1) X.A) (tkx : Tk X Ex) (he : PD X K Ex e te ue) (hK : X.K = K := by rfl) (hg : Gl X x := by rfl)
    (hkw : backToKw pos (keywordEach kws X.env) = [(none, do let v ← eval e X.env; standAt pos; pure v)] := by rfl) (hdb : (x == ("__debug__" : Str)) = false := by decide) :
    PD X K Ex (.Call (.Name x p) [] kws pos) (tMakeKP C P (fun ks => toSp K (Sf ks)) Ex te) (uMakeKP fr C P Sf ue) := by
  subst hK
  exact ⟨⟨fun pins s σ H Q I ⟨ks, hP, h⟩ => (pe_makeK2 M (F ks hP) g hr hg hm tkx he.pe hkw hdb).run pins s σ H Q I h⟩,
    fun Z as F0 H σ ρ μ Q E Q' R X h k => by
      obtain ⟨ks, hP, h⟩ := h
      exact ⟨ks, hP, sim_makeK2 (ks := ks) (S := Sf ks) fr he.sim Z as F0 H σ ρ μ Q E Q' R X h k⟩⟩
end
end DX
set_option Elab.async false
set_option linter.all false
set_option maxRecDepth 100000
namespace Toy
open PySem PySem.Spec PyProof.Rows L2
def topS (i : Nat) : Stmt := PySem.Challenge.pw_trustedpages_k72_texts_of_books.main.body.getD i (.Pass ⟨0, 0, 0, 0⟩)
abbrev s_wall : Stmt := topS 0
theorem sc_wall : FnScope ["k"] ["k"] (defScope s_wall) := ⟨rfl, rfl, rfl, by decide +kernel, rfl, by decide +kernel, by decide +kernel⟩
abbrev s_BadBook_init : Stmt := inClass (topS 3) 0
theorem sc_BadBook_init : FnScope ["self", "part"] ["self", "part"] (defScope s_BadBook_init) := ⟨rfl, rfl, rfl, by decide +kernel, rfl, by decide +kernel, by decide +kernel⟩
abbrev s_BadText_init : Stmt := inClass (topS 4) 0
theorem sc_BadText_init : FnScope ["self", "at"] ["self", "at"] (defScope s_BadText_init) := ⟨rfl, rfl, rfl, by decide +kernel, rfl, by decide +kernel, by decide +kernel⟩
abbrev s_UnknownPart_init : Stmt := inClass (topS 5) 0
theorem sc_UnknownPart_init : FnScope ["self", "part"] ["self", "part"] (defScope s_UnknownPart_init) := ⟨rfl, rfl, rfl, by decide +kernel, rfl, by decide +kernel, by decide +kernel⟩
abbrev s_is_one_of : Stmt := topS 7
theorem sc_is_one_of : FnScope ["value", "known"] ["value", "known"] (defScope s_is_one_of) := ⟨rfl, rfl, rfl, by decide +kernel, rfl, by decide +kernel, by decide +kernel⟩
abbrev s_split : Stmt := topS 12
theorem sc_split : FnScope ["value", "known", "words", "word"] ["value", "known"] (defScope s_split) := ⟨rfl, rfl, rfl, by decide +kernel, rfl, by decide +kernel, by decide +kernel⟩
abbrev s_ahead : Stmt := topS 13
theorem sc_ahead : FnScope ["words", "first", "second"] ["words", "first", "second"] (defScope s_ahead) := ⟨rfl, rfl, rfl, by decide +kernel, rfl, by decide +kernel, by decide +kernel⟩
abbrev s_locks : Stmt := topS 14
theorem sc_locks : FnScope ["words"] ["words"] (defScope s_locks) := ⟨rfl, rfl, rfl, by decide +kernel, rfl, by decide +kernel, by decide +kernel⟩
abbrev s_is_writer : Stmt := topS 15
theorem sc_is_writer : FnScope ["value", "words"] ["value"] (defScope s_is_writer) := ⟨rfl, rfl, rfl, by decide +kernel, rfl, by decide +kernel, by decide +kernel⟩
abbrev s_is_cleaner : Stmt := topS 16
theorem sc_is_cleaner : FnScope ["value", "words", "removes", "looks_again"] ["value"] (defScope s_is_cleaner) := ⟨rfl, rfl, rfl, by decide +kernel, rfl, by decide +kernel, by decide +kernel⟩
abbrev s_is_reader : Stmt := topS 17
theorem sc_is_reader : FnScope ["value", "words"] ["value"] (defScope s_is_reader) := ⟨rfl, rfl, rfl, by decide +kernel, rfl, by decide +kernel, by decide +kernel⟩
abbrev s_is_part : Stmt := topS 21
theorem sc_is_part : FnScope ["value"] ["value"] (defScope s_is_part) := ⟨rfl, rfl, rfl, by decide +kernel, rfl, by decide +kernel, by decide +kernel⟩
abbrev s_is_allowed : Stmt := topS 22
theorem sc_is_allowed : FnScope ["part", "value"] ["part", "value"] (defScope s_is_allowed) := ⟨rfl, rfl, rfl, by decide +kernel, rfl, by decide +kernel, by decide +kernel⟩
abbrev s_check_parts : Stmt := topS 23
theorem sc_check_parts : FnScope ["parts", "part"] ["parts"] (defScope s_check_parts) := ⟨rfl, rfl, rfl, by decide +kernel, rfl, by decide +kernel, by decide +kernel⟩
abbrev s_assign : Stmt := topS 24
theorem sc_assign : FnScope ["book", "part", "value"] ["book", "part", "value"] (defScope s_assign) := ⟨rfl, rfl, rfl, by decide +kernel, rfl, by decide +kernel, by decide +kernel⟩
abbrev s_Book_init : Stmt := inClass (topS 25) 0
theorem sc_Book_init : FnScope ["self", "writer", "cleaner", "reader", "horizon", "pins", "cleared", "sets", "force", "ahead", "first", "waits", "follower", "parts"] ["self", "writer", "cleaner", "reader", "horizon", "pins", "cleared", "sets", "force", "ahead", "first", "waits", "follower"] (defScope s_Book_init) := ⟨rfl, rfl, rfl, by decide +kernel, rfl, by decide +kernel, by decide +kernel⟩
abbrev s_Book_careful : Stmt := inClass (topS 25) 1
theorem sc_Book_careful : FnScope [] [] (defScope s_Book_careful) := ⟨rfl, rfl, rfl, by decide +kernel, rfl, by decide +kernel, by decide +kernel⟩
abbrev s_Book_plain : Stmt := inClass (topS 25) 2
theorem sc_Book_plain : FnScope [] [] (defScope s_Book_plain) := ⟨rfl, rfl, rfl, by decide +kernel, rfl, by decide +kernel, by decide +kernel⟩
abbrev s_Book_quick : Stmt := inClass (topS 25) 3
theorem sc_Book_quick : FnScope [] [] (defScope s_Book_quick) := ⟨rfl, rfl, rfl, by decide +kernel, rfl, by decide +kernel, by decide +kernel⟩
abbrev s_Book_change : Stmt := inClass (topS 25) 4
theorem sc_Book_change : FnScope ["self", "parts", "part"] ["self", "parts"] (defScope s_Book_change) := ⟨rfl, rfl, rfl, by decide +kernel, rfl, by decide +kernel, by decide +kernel⟩
abbrev s_Book_twin : Stmt := inClass (topS 25) 5
theorem sc_Book_twin : FnScope ["self"] ["self"] (defScope s_Book_twin) := ⟨rfl, rfl, rfl, by decide +kernel, rfl, by decide +kernel, by decide +kernel⟩
abbrev s_Book_put : Stmt := inClass (topS 25) 6
theorem sc_Book_put : FnScope ["self", "part", "value"] ["self", "part", "value"] (defScope s_Book_put) := ⟨rfl, rfl, rfl, by decide +kernel, rfl, by decide +kernel, by decide +kernel⟩
abbrev s_Book_iter : Stmt := inClass (topS 25) 7
theorem sc_Book_iter : FnScope ["self"] ["self"] (defScope s_Book_iter) := ⟨rfl, rfl, rfl, by decide +kernel, rfl, by decide +kernel, by decide +kernel⟩
abbrev s_Book_getitem : Stmt := inClass (topS 25) 8
theorem sc_Book_getitem : FnScope ["self", "part"] ["self", "part"] (defScope s_Book_getitem) := ⟨rfl, rfl, rfl, by decide +kernel, rfl, by decide +kernel, by decide +kernel⟩
abbrev s_Book_setitem : Stmt := inClass (topS 25) 9
theorem sc_Book_setitem : FnScope ["self", "part", "value"] ["self", "part", "value"] (defScope s_Book_setitem) := ⟨rfl, rfl, rfl, by decide +kernel, rfl, by decide +kernel, by decide +kernel⟩
abbrev s_Book_eq : Stmt := inClass (topS 25) 10
theorem sc_Book_eq : FnScope ["self", "other"] ["self", "other"] (defScope s_Book_eq) := ⟨rfl, rfl, rfl, by decide +kernel, rfl, by decide +kernel, by decide +kernel⟩
abbrev s_Book_writer : Stmt := inClass (topS 25) 11
theorem sc_Book_writer : FnScope ["self"] ["self"] (defScope s_Book_writer) := ⟨rfl, rfl, rfl, by decide +kernel, rfl, by decide +kernel, by decide +kernel⟩
abbrev s_Book_writer_set : Stmt := inClass (topS 25) 12
theorem sc_Book_writer_set : FnScope ["self", "value"] ["self", "value"] (defScope s_Book_writer_set) := ⟨rfl, rfl, rfl, by decide +kernel, rfl, by decide +kernel, by decide +kernel⟩
abbrev s_Book_cleaner : Stmt := inClass (topS 25) 13
theorem sc_Book_cleaner : FnScope ["self"] ["self"] (defScope s_Book_cleaner) := ⟨rfl, rfl, rfl, by decide +kernel, rfl, by decide +kernel, by decide +kernel⟩
abbrev s_Book_cleaner_set : Stmt := inClass (topS 25) 14
theorem sc_Book_cleaner_set : FnScope ["self", "value"] ["self", "value"] (defScope s_Book_cleaner_set) := ⟨rfl, rfl, rfl, by decide +kernel, rfl, by decide +kernel, by decide +kernel⟩
abbrev s_Book_reader : Stmt := inClass (topS 25) 15
theorem sc_Book_reader : FnScope ["self"] ["self"] (defScope s_Book_reader) := ⟨rfl, rfl, rfl, by decide +kernel, rfl, by decide +kernel, by decide +kernel⟩
abbrev s_Book_reader_set : Stmt := inClass (topS 25) 16
theorem sc_Book_reader_set : FnScope ["self", "value"] ["self", "value"] (defScope s_Book_reader_set) := ⟨rfl, rfl, rfl, by decide +kernel, rfl, by decide +kernel, by decide +kernel⟩
abbrev s_Book_horizon : Stmt := inClass (topS 25) 17
theorem sc_Book_horizon : FnScope ["self"] ["self"] (defScope s_Book_horizon) := ⟨rfl, rfl, rfl, by decide +kernel, rfl, by decide +kernel, by decide +kernel⟩
abbrev s_Book_horizon_set : Stmt := inClass (topS 25) 18
theorem sc_Book_horizon_set : FnScope ["self", "value"] ["self", "value"] (defScope s_Book_horizon_set) := ⟨rfl, rfl, rfl, by decide +kernel, rfl, by decide +kernel, by decide +kernel⟩
abbrev s_Book_pins : Stmt := inClass (topS 25) 19
theorem sc_Book_pins : FnScope ["self"] ["self"] (defScope s_Book_pins) := ⟨rfl, rfl, rfl, by decide +kernel, rfl, by decide +kernel, by decide +kernel⟩
abbrev s_Book_pins_set : Stmt := inClass (topS 25) 20
theorem sc_Book_pins_set : FnScope ["self", "value"] ["self", "value"] (defScope s_Book_pins_set) := ⟨rfl, rfl, rfl, by decide +kernel, rfl, by decide +kernel, by decide +kernel⟩
abbrev s_Book_cleared : Stmt := inClass (topS 25) 21
theorem sc_Book_cleared : FnScope ["self"] ["self"] (defScope s_Book_cleared) := ⟨rfl, rfl, rfl, by decide +kernel, rfl, by decide +kernel, by decide +kernel⟩
abbrev s_Book_cleared_set : Stmt := inClass (topS 25) 22
theorem sc_Book_cleared_set : FnScope ["self", "value"] ["self", "value"] (defScope s_Book_cleared_set) := ⟨rfl, rfl, rfl, by decide +kernel, rfl, by decide +kernel, by decide +kernel⟩
abbrev s_Book_sets : Stmt := inClass (topS 25) 23
theorem sc_Book_sets : FnScope ["self"] ["self"] (defScope s_Book_sets) := ⟨rfl, rfl, rfl, by decide +kernel, rfl, by decide +kernel, by decide +kernel⟩
abbrev s_Book_sets_set : Stmt := inClass (topS 25) 24
theorem sc_Book_sets_set : FnScope ["self", "value"] ["self", "value"] (defScope s_Book_sets_set) := ⟨rfl, rfl, rfl, by decide +kernel, rfl, by decide +kernel, by decide +kernel⟩
abbrev s_Book_force : Stmt := inClass (topS 25) 25
theorem sc_Book_force : FnScope ["self"] ["self"] (defScope s_Book_force) := ⟨rfl, rfl, rfl, by decide +kernel, rfl, by decide +kernel, by decide +kernel⟩
abbrev s_Book_force_set : Stmt := inClass (topS 25) 26
theorem sc_Book_force_set : FnScope ["self", "value"] ["self", "value"] (defScope s_Book_force_set) := ⟨rfl, rfl, rfl, by decide +kernel, rfl, by decide +kernel, by decide +kernel⟩
abbrev s_Book_ahead : Stmt := inClass (topS 25) 27
theorem sc_Book_ahead : FnScope ["self"] ["self"] (defScope s_Book_ahead) := ⟨rfl, rfl, rfl, by decide +kernel, rfl, by decide +kernel, by decide +kernel⟩
abbrev s_Book_ahead_set : Stmt := inClass (topS 25) 28
theorem sc_Book_ahead_set : FnScope ["self", "value"] ["self", "value"] (defScope s_Book_ahead_set) := ⟨rfl, rfl, rfl, by decide +kernel, rfl, by decide +kernel, by decide +kernel⟩
abbrev s_Book_first : Stmt := inClass (topS 25) 29
theorem sc_Book_first : FnScope ["self"] ["self"] (defScope s_Book_first) := ⟨rfl, rfl, rfl, by decide +kernel, rfl, by decide +kernel, by decide +kernel⟩
abbrev s_Book_first_set : Stmt := inClass (topS 25) 30
theorem sc_Book_first_set : FnScope ["self", "value"] ["self", "value"] (defScope s_Book_first_set) := ⟨rfl, rfl, rfl, by decide +kernel, rfl, by decide +kernel, by decide +kernel⟩
abbrev s_Book_waits : Stmt := inClass (topS 25) 31
theorem sc_Book_waits : FnScope ["self"] ["self"] (defScope s_Book_waits) := ⟨rfl, rfl, rfl, by decide +kernel, rfl, by decide +kernel, by decide +kernel⟩
abbrev s_Book_waits_set : Stmt := inClass (topS 25) 32
theorem sc_Book_waits_set : FnScope ["self", "value"] ["self", "value"] (defScope s_Book_waits_set) := ⟨rfl, rfl, rfl, by decide +kernel, rfl, by decide +kernel, by decide +kernel⟩
abbrev s_Book_follower : Stmt := inClass (topS 25) 33
theorem sc_Book_follower : FnScope ["self"] ["self"] (defScope s_Book_follower) := ⟨rfl, rfl, rfl, by decide +kernel, rfl, by decide +kernel, by decide +kernel⟩
abbrev s_Book_follower_set : Stmt := inClass (topS 25) 34
theorem sc_Book_follower_set : FnScope ["self", "value"] ["self", "value"] (defScope s_Book_follower_set) := ⟨rfl, rfl, rfl, by decide +kernel, rfl, by decide +kernel, by decide +kernel⟩
abbrev s_truth_word : Stmt := topS 29
theorem sc_truth_word : FnScope ["value"] ["value"] (defScope s_truth_word) := ⟨rfl, rfl, rfl, by decide +kernel, rfl, by decide +kernel, by decide +kernel⟩
abbrev s_value_of : Stmt := topS 30
theorem sc_value_of : FnScope ["word"] ["word"] (defScope s_value_of) := ⟨rfl, rfl, rfl, by decide +kernel, rfl, by decide +kernel, by decide +kernel⟩
abbrev s_line : Stmt := topS 31
theorem sc_line : FnScope ["book", "part", "value"] ["book", "part"] (defScope s_line) := ⟨rfl, rfl, rfl, by decide +kernel, rfl, by decide +kernel, by decide +kernel⟩
abbrev s_book_text : Stmt := topS 32
theorem sc_book_text : FnScope ["book", "part"] ["book"] (defScope s_book_text) := ⟨rfl, rfl, rfl, by decide +kernel, rfl, by decide +kernel, by decide +kernel⟩
abbrev s_read_book : Stmt := topS 33
theorem sc_read_book : FnScope ["text", "lines", "parts", "at", "line", "part", "_", "word"] ["text"] (defScope s_read_book) := ⟨rfl, rfl, rfl, by decide +kernel, rfl, by decide +kernel, by decide +kernel⟩
abbrev s_law_pool : Stmt := topS 35
theorem sc_law_pool : FnScope ["script", "k", "cell", "seed"] ["script", "k"] (defScope s_law_pool) := ⟨rfl, rfl, rfl, by decide +kernel, rfl, by decide +kernel, by decide +kernel⟩
abbrev s_law_take : Stmt := topS 36
theorem sc_law_take : FnScope ["pool", "many", "digit"] ["pool", "many"] (defScope s_law_take) := ⟨rfl, rfl, rfl, by decide +kernel, rfl, by decide +kernel, by decide +kernel⟩
abbrev s_law_locked : Stmt := topS 37
theorem sc_law_locked : FnScope ["pool", "row", "at", "to"] ["pool", "row"] (defScope s_law_locked) := ⟨rfl, rfl, rfl, by decide +kernel, rfl, by decide +kernel, by decide +kernel⟩
abbrev s_law_writing : Stmt := topS 38
theorem sc_law_writing : FnScope ["pool", "way", "row", "at"] ["pool"] (defScope s_law_writing) := ⟨rfl, rfl, rfl, by decide +kernel, rfl, by decide +kernel, by decide +kernel⟩
abbrev s_law_cleaning : Stmt := topS 39
theorem sc_law_cleaning : FnScope ["pool", "row"] ["pool"] (defScope s_law_cleaning) := ⟨rfl, rfl, rfl, by decide +kernel, rfl, by decide +kernel, by decide +kernel⟩
abbrev s_law_reading : Stmt := topS 40
theorem sc_law_reading : FnScope ["pool", "rows"] ["pool"] (defScope s_law_reading) := ⟨rfl, rfl, rfl, by decide +kernel, rfl, by decide +kernel, by decide +kernel⟩
abbrev s_law_parts : Stmt := topS 41
theorem sc_law_parts : FnScope ["pool", "p", "k"] ["pool"] (defScope s_law_parts) := ⟨rfl, rfl, rfl, by decide +kernel, rfl, by decide +kernel, by decide +kernel⟩
abbrev s_law_book : Stmt := topS 42
theorem sc_law_book : FnScope ["p", "book"] ["p"] (defScope s_law_book) := ⟨rfl, rfl, rfl, by decide +kernel, rfl, by decide +kernel, by decide +kernel⟩
abbrev s_law_names : Stmt := topS 43
theorem sc_law_names : FnScope ["row"] [] (defScope s_law_names) := ⟨rfl, rfl, rfl, by decide +kernel, rfl, by decide +kernel, by decide +kernel⟩
abbrev s_law_lines : Stmt := topS 44
theorem sc_law_lines : FnScope ["p", "rows", "at", "worth"] ["p"] (defScope s_law_lines) := ⟨rfl, rfl, rfl, by decide +kernel, rfl, by decide +kernel, by decide +kernel⟩
abbrev s_law_turned : Stmt := topS 45
theorem sc_law_turned : FnScope ["pool", "rows", "rest", "found"] ["pool", "rows"] (defScope s_law_turned) := ⟨rfl, rfl, rfl, by decide +kernel, rfl, by decide +kernel, by decide +kernel⟩
abbrev s_law : Stmt := topS 46
theorem sc_law : FnScope ["script", "k", "pool", "p", "text", "told"] ["script"] (defScope s_law) := ⟨rfl, rfl, rfl, by decide +kernel, rfl, by decide +kernel, by decide +kernel⟩
end Toy
set_option Elab.async false
set_option linter.all false
set_option maxRecDepth 100000
set_option maxHeartbeats 4000000
namespace Toy
open PySem PySem.Spec PyProof.Rows L2 DX
abbrev spLaw := DX.spLaw
structure Wd (P : Program) (w : World) (K : PySem.W.Frag) (mg : Str → Option Value) (base : Heap) where
  C_Book : Addr
  c_Book : ClsF K mg "Book" C_Book
  f_is_one_of : Addr
  fd_is_one_of : FuncData
  t_is_one_of : TopF K mg "is_one_of" "is_one_of" s_is_one_of f_is_one_of fd_is_one_of ["value", "known"]
  f_split : Addr
  fd_split : FuncData
  t_split : TopF K mg "_split" "_split" s_split f_split fd_split ["value", "known"]
  f_ahead : Addr
  fd_ahead : FuncData
  t_ahead : TopF K mg "_ahead" "_ahead" s_ahead f_ahead fd_ahead ["words", "first", "second"]
  f_locks : Addr
  fd_locks : FuncData
  t_locks : TopF K mg "_locks" "_locks" s_locks f_locks fd_locks ["words"]
  f_is_writer : Addr
  fd_is_writer : FuncData
  t_is_writer : TopF K mg "is_writer" "is_writer" s_is_writer f_is_writer fd_is_writer ["value"]
  f_is_cleaner : Addr
  fd_is_cleaner : FuncData
  t_is_cleaner : TopF K mg "is_cleaner" "is_cleaner" s_is_cleaner f_is_cleaner fd_is_cleaner ["value"]
  f_is_reader : Addr
  fd_is_reader : FuncData
  t_is_reader : TopF K mg "is_reader" "is_reader" s_is_reader f_is_reader fd_is_reader ["value"]
  f_is_part : Addr
  fd_is_part : FuncData
  t_is_part : TopF K mg "is_part" "is_part" s_is_part f_is_part fd_is_part ["value"]
  f_is_allowed : Addr
  fd_is_allowed : FuncData
  t_is_allowed : TopF K mg "is_allowed" "is_allowed" s_is_allowed f_is_allowed fd_is_allowed ["part", "value"]
  f_check_parts : Addr
  fd_check_parts : FuncData
  t_check_parts : TopF K mg "_check_parts" "_check_parts" s_check_parts f_check_parts fd_check_parts ["parts"]
  f_Book_init : Addr
  fd_Book_init : FuncData
  td_Book_init_horizon : Tok
  td_Book_init_follower : Tok
  t_Book_init : MetS K C_Book "__init__" "Book.__init__" s_Book_init f_Book_init fd_Book_init
  f_Book_change : Addr
  fd_Book_change : FuncData
  t_Book_change : MetS K C_Book "change" "Book.change" s_Book_change f_Book_change fd_Book_change
  kf_Book_change : KwdF fd_Book_change ["self"] "parts"
  f_Book_getitem : Addr
  fd_Book_getitem : FuncData
  t_Book_getitem : MetF K C_Book "__getitem__" "Book.__getitem__" s_Book_getitem f_Book_getitem fd_Book_getitem ["self", "part"]
  f_Book_eq : Addr
  fd_Book_eq : FuncData
  t_Book_eq : MetF K C_Book "__eq__" "Book.__eq__" s_Book_eq f_Book_eq fd_Book_eq ["self", "other"]
  f_truth_word : Addr
  fd_truth_word : FuncData
  t_truth_word : TopF K mg "truth_word" "truth_word" s_truth_word f_truth_word fd_truth_word ["value"]
  f_value_of : Addr
  fd_value_of : FuncData
  t_value_of : TopF K mg "value_of" "value_of" s_value_of f_value_of fd_value_of ["word"]
  f_line : Addr
  fd_line : FuncData
  t_line : TopF K mg "_line" "_line" s_line f_line fd_line ["book", "part"]
  f_book_text : Addr
  fd_book_text : FuncData
  t_book_text : TopF K mg "book_text" "book_text" s_book_text f_book_text fd_book_text ["book"]
  f_read_book : Addr
  fd_read_book : FuncData
  t_read_book : TopF K mg "read_book" "read_book" s_read_book f_read_book fd_read_book ["text"]
  f_law_pool : Addr
  fd_law_pool : FuncData
  t_law_pool : TopF K mg "_law_pool" "_law_pool" s_law_pool f_law_pool fd_law_pool ["script", "k"]
  f_law_take : Addr
  fd_law_take : FuncData
  t_law_take : TopF K mg "_law_take" "_law_take" s_law_take f_law_take fd_law_take ["pool", "many"]
  f_law_locked : Addr
  fd_law_locked : FuncData
  t_law_locked : TopF K mg "_law_locked" "_law_locked" s_law_locked f_law_locked fd_law_locked ["pool", "row"]
  f_law_writing : Addr
  fd_law_writing : FuncData
  t_law_writing : TopF K mg "_law_writing" "_law_writing" s_law_writing f_law_writing fd_law_writing ["pool"]
  f_law_cleaning : Addr
  fd_law_cleaning : FuncData
  t_law_cleaning : TopF K mg "_law_cleaning" "_law_cleaning" s_law_cleaning f_law_cleaning fd_law_cleaning ["pool"]
  f_law_reading : Addr
  fd_law_reading : FuncData
  t_law_reading : TopF K mg "_law_reading" "_law_reading" s_law_reading f_law_reading fd_law_reading ["pool"]
  f_law_parts : Addr
  fd_law_parts : FuncData
  t_law_parts : TopF K mg "_law_parts" "_law_parts" s_law_parts f_law_parts fd_law_parts ["pool"]
  f_law_book : Addr
  fd_law_book : FuncData
  t_law_book : TopF K mg "_law_book" "_law_book" s_law_book f_law_book fd_law_book ["p"]
  f_law_names : Addr
  fd_law_names : FuncData
  t_law_names : TopF K mg "_law_names" "_law_names" s_law_names f_law_names fd_law_names []
  f_law_lines : Addr
  fd_law_lines : FuncData
  t_law_lines : TopF K mg "_law_lines" "_law_lines" s_law_lines f_law_lines fd_law_lines ["p"]
  f_law_turned : Addr
  fd_law_turned : FuncData
  t_law_turned : TopF K mg "_law_turned" "_law_turned" s_law_turned f_law_turned fd_law_turned ["pool", "rows"]
  f_law : Addr
  fd_law : FuncData
  t_law : TopF K mg "law" "law" s_law f_law fd_law ["script"]
  eq_Book : CmpI K C_Book f_Book_eq "__eq__"
  n_Book_parts : NoAttr K C_Book "_parts"
  gi_Book : GetI K C_Book f_Book_getitem
  T_CHOICES : Addr
  g_CHOICES : GlobC K mg "CHOICES" (V.ref T_CHOICES) (D.kd [(.inr (Str.ofString "horizon"), .kt [.str (Str.ofString "all"), .str (Str.ofString "none")]), (.inr (Str.ofString "follower"), .kt [.str (Str.ofString "trust"), .str (Str.ofString "wait"), .str (Str.ofString "look")])])
  T_CLEANER_WORDS : Addr
  g_CLEANER_WORDS : GlobC K mg "CLEANER_WORDS" (V.ref T_CLEANER_WORDS) (D.kt [.str (Str.ofString "again"), .str (Str.ofString "lock"), .str (Str.ofString "look"), .str (Str.ofString "remove"), .str (Str.ofString "set"), .str (Str.ofString "unlock")])
  T_PARTS : Addr
  g_PARTS : GlobC K mg "PARTS" (V.ref T_PARTS) (D.kt [.str (Str.ofString "writer"), .str (Str.ofString "cleaner"), .str (Str.ofString "reader"), .str (Str.ofString "horizon"), .str (Str.ofString "pins"), .str (Str.ofString "cleared"), .str (Str.ofString "sets"), .str (Str.ofString "force"), .str (Str.ofString "ahead"), .str (Str.ofString "first"), .str (Str.ofString "waits"), .str (Str.ofString "follower")])
  T_READER_WORDS : Addr
  g_READER_WORDS : GlobC K mg "READER_WORDS" (V.ref T_READER_WORDS) (D.kt [.str (Str.ofString "entry"), .str (Str.ofString "hold"), .str (Str.ofString "mark"), .str (Str.ofString "page"), .str (Str.ofString "take"), .str (Str.ofString "tell")])
  g_SIGN : GlobC K mg "SIGN" (V.str (Str.ofString " = ")) (D.str (Str.ofString " = "))
  T_TRUTHS : Addr
  g_TRUTHS : GlobC K mg "TRUTHS" (V.ref T_TRUTHS) (D.kd [(.inr (Str.ofString "yes"), .bl true), (.inr (Str.ofString "no"), .bl false)])
  T_WRITER_WORDS : Addr
  g_WRITER_WORDS : GlobC K mg "WRITER_WORDS" (V.ref T_WRITER_WORDS) (D.kt [.str (Str.ofString "change"), .str (Str.ofString "clear"), .str (Str.ofString "commit"), .str (Str.ofString "enter"), .str (Str.ofString "lock"), .str (Str.ofString "unlock")])
  z_all : mg "all" = none
  z_bool : mg "bool" = none
  z_enumerate : mg "enumerate" = none
  z_int : mg "int" = none
  z_isinstance : mg "isinstance" = none
  z_len : mg "len" = none
  z_list : mg "list" = none
  z_max : mg "max" = none
  z_min : mg "min" = none
  z_range : mg "range" = none
  z_set : mg "set" = none
  z_str : mg "str" = none
  k_Book_init_writer_cleaner_reader_horizon_pins : BindK K fd_Book_init ["self", "writer", "cleaner", "reader", "horizon", "pins", "cleared", "sets", "force", "ahead", "first", "waits", "follower"] ["writer", "cleaner", "reader", "horizon", "pins"] 1 [.bool true, .bool true, .bool true, .bool true, .bool false, .bool true, .str (Str.ofString "wait") td_Book_init_follower] (fun us ws mv => gsel [0, 1, 2, 3, 4, 5, 6, 7, 8, 9, 10, 11] us ws mv)
  mk_Book : Mk K C_Book f_Book_init
  ne_Book : NeI K C_Book f_Book_eq
  X_BadBook : Addr
  fi_BadBook : Addr
  fdi_BadBook : FuncData
  e_BadBook : ErrD P w K mg base "BadBook" "part" X_BadBook fi_BadBook fdi_BadBook
  kp_Book_init : ∀ ks : List Str, kwOk ["self"] ["writer", "cleaner", "reader", "horizon", "pins", "cleared", "sets", "force", "ahead", "first", "waits", "follower"] ks [] = true → BindK K fd_Book_init ("self" :: ["writer", "cleaner", "reader", "horizon", "pins", "cleared", "sets", "force", "ahead", "first", "waits", "follower"]) ks 1 [] (fun us ws mv => gsel (selOf ["writer", "cleaner", "reader", "horizon", "pins", "cleared", "sets", "force", "ahead", "first", "waits", "follower"] ks) us ws mv)
  nfB : PySem.W.notFirst K C_Book (.ref C_Book) = true

section
variable {P : Program} {w : World} {K : PySem.W.Frag} {mg : Str → Option Value} {base : Heap}
variable (W : Wd P w K mg base)

def wholeF (x : D) : Bool := match x with
  | .int _ => true
  | _ => false
def betF (x : D) (lo hi : Int) : Bool := match x with
  | .int i => decide (lo ≤ i) && decide (i ≤ hi)
  | _ => false

def oneF (x : D) (ws : List Str) : Bool := match x with
  | .str s => ws.any fun e => e == s
  | _ => false
def S_is_one_of (_ : Wd P w K mg base) : DSp := fun ds μ Q _ => match ds with
  | [x, .kt ys] => ∃ ws : List Str, ys = ws.map .str ∧ (∃ t, tyOf μ x = some t ∧ ∀ C, t ≠ .own C) ∧ Q (.bl (oneF x ws)) μ
  | _ => False
theorem oneF_no {μ : Mem} {x : D} {ws : List Str} {t : Ty} (h : tyOf μ x = some t) (hs : tyIs t .str = false) : oneF x ws = false := by
  cases x <;> first | rfl | (cases h; done) | (cases h; cases hs)
theorem ty_strv {μ : Mem} {x : D} {t : Ty} (h : tyOf μ x = some t) (hs : tyIs t .str = true) (ho : ∀ C, t ≠ .own C) : ∃ s, x = .str s := by
  cases x <;> first | exact ⟨_, rfl⟩ | (cases h; done) | (cases h; first | (cases hs; done) | exact absurd rfl (ho _)) | skip
  · have h : (match μ[(_ : Nat)]? with | some (DX.M.lst _) => some Ty.lst | some (.ins C _) => some (.own C) | some (.dic _) => some .dic | none => none) = some t := h
    split at h <;> first | (cases h; done) | (cases h; first | (cases hs; done) | exact absurd rfl (ho _)) | cases h

theorem ok_is_one_of (W : Wd P w K mg base) : FnD P w K mg base 2 W.f_is_one_of (S_is_one_of W) := by
  refine (okB W.t_is_one_of.d sc_is_one_of (by (intro ds μ Q E h; unfold S_is_one_of at h; split at h <;> first | rfl | exact h.elim)) _ (fun cdv A outer s H E' g hr => ⟨_, (b_one (s_ret (d_and (d_isB .str (by intro _ z; cases z) rfl W.z_isinstance W.z_str (d_var 0)) (d_one (d_cmp (op_inA hr.units rfl) (sim_in false) (d_var 0) (d_var 1) (by rfl))))))⟩) (fun ds μ Q E h => ?_)).fn0 W.t_is_one_of.b
  unfold S_is_one_of at h
  split at h
  · rename_i x ys
    obtain ⟨ws, rfl, ⟨t, ht, ho⟩, q⟩ := h
    rw [show startD ["value", "known"] [x, .kt (ws.map .str)] = [some x, some (.kt (ws.map .str))] from rfl]
    push_cast
    rw [ht]
    cases e : tyIs t .str with
    | false =>
      rw [oneF_no ht e] at q
      cases t <;> first | exact absurd rfl (ho _) | (cases e; done) | exact .inl q
    | true =>
      obtain ⟨s, rfl⟩ := ty_strv ht e ho
      cases ht
      push_cast
      refine ⟨inokF rfl ?_, .inl ?_⟩
      · rw [List.all_map]; exact List.all_eq_true.mpr fun _ _ => rfl
      · rw [show ((ws.map D.str).any fun e => deqv e (.str s)) = oneF (.str s) ws by rw [List.any_map]; rfl]
        exact q
  · exact h.elim

end
end Toy
set_option Elab.async false
set_option linter.all false
set_option maxRecDepth 100000
set_option maxHeartbeats 4000000
namespace Toy
open PySem PySem.Spec PyProof.Rows L2 DX
section
variable {P : Program} {w : World} {K : PySem.W.Frag} {mg : Str → Option Value} {base : Heap}
/-- a value as an order: the words of a text -/
def wordsF (x : D) : List Str := match x with
  | .str z => Txt.split z " "
  | _ => []
/-- what may be asked whether it is an order -/
structure ValW (μ : Mem) (x : D) : Prop where
  t : ∃ t, tyOf μ x = some t ∧ ∀ C, t ≠ .own C
  s : ∀ z, x = .str z → z.length ≤ 500
theorem words_few {x : D} (h : ∀ z, x = .str z → z.length ≤ 500) : (wordsF x).length ≤ 502 := by
  cases x with
  | str z => have := h z rfl; exact Nat.le_trans (PyProof.Rows.split_le z " ") (by omega)
  | _ => exact Nat.zero_le _
theorem words_no {μ : Mem} {x : D} {t : Ty} (h : tyOf μ x = some t) (hs : tyIs t .str = false) : wordsF x = [] := by
  cases x <;> first | rfl | (cases h; cases hs)
theorem splitW_nil (ks : List Str) : splitW ks [] = [] := by unfold splitW; split <;> rfl
theorem any_eq (z : Str) (ks : List Str) : (ks.any fun e => e == z) = decide (z ∈ ks) := by
  induction ks with
  | nil => rfl
  | cons a r ih =>
    rw [List.any_cons, ih]
    by_cases h : a = z
    · subst h; simp
    · have h2 : z ≠ a := fun e => h e.symm
      simp [h, h2]
theorem oneF_str (z : Str) (ks : List Str) : oneF (.str z) ks = decide (z ∈ ks) := any_eq z ks

def S_split (W : Wd P w K mg base) : DSp := fun ds μ Q _ => match ds with
  | [x, .kt ys] => ∃ ks : List Str, ys = ks.map .str ∧ ValW μ x ∧ Q (.lst ((splitW ks (wordsF x)).map .str)) μ
  | _ => False

theorem ok_split (W : Wd P w K mg base) : FnD P w K mg base 3 W.f_split (S_split W) := by
  refine (okB W.t_split.d sc_split (by (intro ds μ Q E h; unfold S_split at h; split at h <;> first | rfl | exact h.elim)) _ (fun cdv A outer s H E' g hr => ⟨_, (b_cons (s_if (t_not (t_tru (d_isB .str (by intro _ z; cases z) rfl W.z_isinstance W.z_str (d_var 0)))) (b_one (s_ret (d_lst a_nil))) b_nil)
      (b_cons (s_set 2 sc_split.nd (d_m1 F.slot_str_split F.type_str_split mt_split sim_split (d_var 0) d_str))
      (b_cons (s_if (WD.td (w_and (t_tru (d_callB (call_allA rfl rfl) sim_all W.z_all (a_cons (d_lc false [("word", 3)] sc_split.nd (i_seq (d_var 2)) (blkOk_by (own := [("word", 3)]) (N := ["value", "known", "words", "word"]) (sc := defScope s_split) (by decide +kernel)) (fun _ _ _ _ _ => (g_name 3 sc_split.nd)) (fun _ _ _ _ _ => ts_nil) (fun _ _ _ _ _ => (d_call (ok_is_one_of W) W.t_is_one_of.a W.t_is_one_of.d.kp g hr takes0 (a_cons (d_var 3) (a_cons (d_var 1) a_nil)))) (wip_name (by decide)) mono_name) a_nil))) (w_and1 (t_cmp (op_eqA hr.units rfl) sim_eq (d_lenS W.z_len W.z_set (d_var 2)) (d_callB (call_lenA rfl) sim_len W.z_len (a_cons (d_var 2) a_nil)) (nomark _))))) (b_one (s_ret (d_var 2))) b_nil)
      (b_one (s_ret (d_lst a_nil))))))⟩) (fun ds μ Q E h => ?_)).fn0 W.t_split.b
  unfold S_split at h
  split at h
  · rename_i x ys
    obtain ⟨ks, rfl, ⟨⟨t, ht, ho⟩, hs⟩, q⟩ := h
    rw [show startD ["value", "known", "words", "word"] [x, .kt (ks.map .str)] = [some (x), some (.kt (ks.map .str)), none, none] from rfl]
    refine seq_step fun nx hnx => ?_
    push_cast
    rw [ht]
    cases e : tyIs t .str with
    | false =>
      rw [words_no ht e, splitW_nil] at q
      cases t <;> first | exact absurd rfl (ho _) | (cases e; done) | (push_cast; exact ⟨Nat.zero_le _, .inl q⟩)
    | true =>
      obtain ⟨s, rfl⟩ := ty_strv ht e ho
      cases ht
      push_cast
      refine hnx _ _ ?_
      clear hnx nx
      have hl := hs s rfl
      have few := words_few hs
      have q : Q (.lst ((splitW ks (Txt.split s " ")).map .str)) μ := q
      have few : (Txt.split s " ").length ≤ 502 := few
      refine seq_step fun nx hnx => ?_
      push_cast
      refine ⟨by decide +kernel, Nat.le_trans (show s.length + 2 ≤ 502 by omega) (by decide), hnx _ _ ?_⟩
      clear hnx nx
      change Q (.lst ((splitW ks (Txt.split s (Str.ofString " "))).map .str)) μ at q
      change (Txt.split s (Str.ofString " ")).length ≤ 502 at few
      generalize Txt.split s (Str.ofString " ") = ws at q few
      refine seq_step fun nx hnx => ?_
      push_cast
      refine lc_pure (fun _ d => some (.bl (oneF d ks))) (by rw [List.length_map]; omega) (by first | trivial | rfl) ?_ ?_
      · intro n d acc go hd hl2 k
        rw [List.getElem?_map] at hd
        obtain ⟨z, hz, rfl⟩ := Option.map_eq_some_iff.mp hd
        push_cast [S_is_one_of]
        exact ⟨ks, rfl, ⟨.str, rfl, fun _ z => nomatch z⟩, hl2, k⟩
      · rw [fmI_some (fun d => .bl (oneF d ks))]
        have e : (ws.map D.str).map (fun d => D.bl (oneF d ks)) = (ws.map fun z => decide (z ∈ ks)).map .bl := by
          rw [List.map_map, List.map_map]
          exact List.map_congr_left fun z _ => congrArg D.bl (oneF_str z ks)
        rw [e]
        push_cast [dAll]
        refine ⟨_, rfl, ?_⟩
        have ea : (ws.map fun z => decide (z ∈ ks)).all id = ws.all fun z => decide (z ∈ ks) := by rw [List.all_map]; rfl
        rw [ea]
        have no : ((ws.all fun z => decide (z ∈ ks)) && decide ws.Nodup) ≠ true → nx [some (D.str s), some (D.kt (ks.map .str)), some (D.lst (ws.map .str)), none] μ := fun hn => by
          refine hnx _ _ ?_
          have e : splitW ks ws = [] := by unfold splitW; rw [if_neg hn]
          rw [e] at q
          exact ⟨Nat.zero_le _, .inl q⟩
        have ec : (((Tx.cnt ws ws.length : Nat) : Int) == (ws.length : Int)) = decide ws.Nodup := Tx.cnt_nodup ws
        refine ifb (fun h1 => ?_) (fun h1 => no fun z => h1 (Bool.and_eq_true_iff.mp z).1)
        refine ⟨ws, rfl, by omega, ?_⟩
        rw [ec]
        refine ifb (fun h2 => ?_) (fun h2 => no fun z => h2 (Bool.and_eq_true_iff.mp z).2)
        have e : splitW ks ws = ws := by unfold splitW; rw [if_pos (by rw [h1, h2]; rfl)]
        rw [e] at q
        exact .inl q
  · exact h.elim

end
end Toy
set_option Elab.async false
set_option linter.all false
set_option maxRecDepth 100000
set_option maxHeartbeats 4000000
namespace Toy
open PySem PySem.Spec PyProof.Rows L2 DX
section
variable {P : Program} {w : World} {K : PySem.W.Frag} {mg : Str → Option Value} {base : Heap}
theorem inD_str (z : Str) (ws : List Str) : ((ws.map D.str).any fun e => deqv e (.str z)) = decide (z ∈ ws) := by
  rw [List.any_map]; exact any_eq z ws
theorem inok_strs (z : Str) (ws : List Str) (e : D) : dInOk (.str z) e (ws.map .str) = true := inokF rfl (by rw [List.all_map]; exact List.all_eq_true.mpr fun _ _ => rfl)
theorem flat_strsD (ws : List Str) : (ws.map D.str).all dflat = true := by rw [List.all_map]; exact List.all_eq_true.mpr fun _ _ => rfl
theorem dindex_idx : ∀ {z : Str} {ws : List Str}, z ∈ ws → dindex (ws.map D.str) (.str z) = some (idx z ws)
  | z, [], h => nomatch h
  | z, a :: r, h => by
    have e : dindex ((a :: r).map D.str) (.str z) = if (a == z) = true then some 0 else (dindex (r.map D.str) (.str z)).map (· + 1) := by
      unfold dindex
      rw [List.map_cons, List.findIdx?_cons]; rfl
    rw [e]
    unfold idx
    by_cases q : a = z
    · rw [if_pos q, if_pos (by rw [q]; exact BEq.rfl)]
    · have h2 : z ∈ r := by
        rcases List.mem_cons.mp h with y | y
        · exact absurd y.symm q
        · exact y
      rw [if_neg q, if_neg (fun y => q (eq_of_beq y)), dindex_idx h2]; rfl
theorem isLst_v {μ : Mem} {x : D} {xs : List D} (h : view μ x = .lst xs) : isLst μ x := by unfold isLst; rw [h]; trivial
def S_ahead (W : Wd P w K mg base) : DSp := fun ds μ Q _ => match ds with
  | [x, .str a, .str b] => ∃ ws : List Str, view μ x = .lst (ws.map .str) ∧ Q (.bl (ahd ws a b)) μ
  | _ => False

theorem ok_ahead (W : Wd P w K mg base) : FnD P w K mg base 2 W.f_ahead (S_ahead W) := by
  refine (okB W.t_ahead.d sc_ahead (by (intro ds μ Q E h; unfold S_ahead at h; split at h <;> first | rfl | exact h.elim)) _ (fun cdv A outer s H E' g hr => ⟨_, (b_one (s_ret (d_and (d_cmp (op_inA hr.units rfl) (sim_in false) (d_var 1) (d_var 0) (by rfl)) (d_and (d_cmp (op_inA hr.units rfl) (sim_in false) (d_var 2) (d_var 0) (by rfl)) (d_one (d_cmp op_lt sim_lt (d_bm PySem.F.slot_list_index PySem.F.type_list_index (mt_indexA rfl) sim_index (d_var 0) (a_cons (d_var 1) a_nil)) (d_bm PySem.F.slot_list_index PySem.F.type_list_index (mt_indexA rfl) sim_index (d_var 0) (a_cons (d_var 2) a_nil)) (nomark _)))))))⟩) (fun ds μ Q E h => ?_)).fn0 W.t_ahead.b
  unfold S_ahead at h
  split at h
  · rename_i x a b
    obtain ⟨ws, hv, q⟩ := h
    rw [show startD ["words", "first", "second"] [x, .str a, .str b] = [some (x), some (.str a), some (.str b)] from rfl]
    push_cast [hv]
    have il := isLst_v hv
    have fs : ∀ z : Str, (dflat (.str z) && (ws.map D.str).all dflat) = true := fun z => flat_strsD ws
    unfold ahd at q
    rw [inD_str, inD_str]
    refine ⟨inok_strs _ _ _, ifb (fun h1 => ⟨inok_strs _ _ _, ifb (fun h2 => ?_) (fun h2 => ?_)⟩) (fun h1 => ?_)⟩
    · rw [h1, h2, Bool.true_and, Bool.true_and] at q
      rw [dindex_idx (of_decide_eq_true h1), dindex_idx (of_decide_eq_true h2)]
      refine ⟨il, fs a, il, fs b, .inl ?_⟩
      rw [show decide (((idx a ws : Nat) : Int) < ((idx b ws : Nat) : Int)) = decide (idx a ws < idx b ws) from decide_eq_decide.mpr Int.ofNat_lt]
      exact q
    · rw [h1, b_not h2, Bool.true_and, Bool.false_and] at q
      rw [b_not h2]
      exact .inl q
    · rw [b_not h1, Bool.false_and] at q
      rw [b_not h1]
      exact .inl q
  · exact h.elim

def S_locks (W : Wd P w K mg base) : DSp := fun ds μ Q _ => match ds with
  | [x] => ∃ ws : List Str, view μ x = .lst (ws.map .str) ∧ Q (.bl (lck ws)) μ
  | _ => False

theorem ok_locks (W : Wd P w K mg base) : FnD P w K mg base 3 W.f_locks (S_locks W) := by
  refine (okB W.t_locks.d sc_locks (by (intro ds μ Q E h; unfold S_locks at h; split at h <;> first | rfl | exact h.elim)) _ (fun cdv A outer s H E' g hr => ⟨_, (b_one (s_ret (d_or (d_and (d_cmp (op_notInA hr.units rfl) (sim_in true) d_str (d_var 0) (by rfl)) (d_one (d_cmp (op_notInA hr.units rfl) (sim_in true) d_str (d_var 0) (by rfl)))) (d_one (d_call (ok_ahead W) W.t_ahead.a W.t_ahead.d.kp g hr (takes_of rfl rfl rfl rfl) (a_cons (d_var 0) (a_cons d_str (a_cons d_str a_nil))))))))⟩) (fun ds μ Q E h => ?_)).fn0 W.t_locks.b
  unfold S_locks at h
  split at h
  · rename_i x
    obtain ⟨ws, hv, q⟩ := h
    rw [show startD ["words"] [x] = [some (x)] from rfl]
    push_cast [hv]
    unfold lck at q
    rw [inD_str, inD_str]
    change Q (.bl ((!decide (Str.ofString "lock" ∈ ws) && !decide (Str.ofString "unlock" ∈ ws)) || ahd ws (Str.ofString "lock") (Str.ofString "unlock"))) μ at q
    generalize decide (Str.ofString "lock" ∈ ws) = b1 at q ⊢
    generalize decide (Str.ofString "unlock" ∈ ws) = b2 at q ⊢
    have tail : Q (.bl (ahd ws (Str.ofString "lock") (Str.ofString "unlock"))) μ → S_ahead W [x, D.str (Str.ofString "lock"), D.str (Str.ofString "unlock")] μ (FZ μ Q) (FZE μ E [some x]) := fun q => ⟨ws, hv, .inl q⟩
    refine ⟨inok_strs _ _ _, ?_⟩
    cases b1 <;> cases b2
    · exact ⟨inok_strs _ _ _, .inl q⟩
    · exact ⟨inok_strs _ _ _, tail q⟩
    · exact tail q
    · exact tail q
  · exact h.elim

end
end Toy
set_option Elab.async false
set_option linter.all false
set_option maxRecDepth 100000
set_option maxHeartbeats 4000000
namespace Toy
open PySem PySem.Spec PyProof.Rows L2 DX
section
variable {P : Program} {w : World} {K : PySem.W.Frag} {mg : Str → Option Value} {base : Heap}
theorem and_end {a b : Bool} {μ : Mem} {Q : D → Mem → Prop} {S : Prop} (q : Q (.bl (a && b)) μ) (h1 : a = true → Q (.bl b) μ → S) : iteB a S (FZ μ Q (.bl a) μ) := by
  cases a with
  | true => exact h1 rfl q
  | false => exact .inl q
def S_is_writer (W : Wd P w K mg base) : DSp := fun ds μ Q _ => match ds with
  | [x] => ValW μ x ∧ Q (.bl (isW (wordsF x))) μ
  | _ => False

theorem ok_is_writer (W : Wd P w K mg base) : FnD P w K mg base 4 W.f_is_writer (S_is_writer W) := by
  refine (okB W.t_is_writer.d sc_is_writer (by (intro ds μ Q E h; unfold S_is_writer at h; split at h <;> first | rfl | exact h.elim)) _ (fun cdv A outer s H E' g hr => ⟨_, (b_cons (s_set 1 sc_is_writer.nd (d_call (ok_split W) W.t_split.a W.t_split.d.kp g hr (takes_of rfl rfl rfl rfl) (a_cons (d_var 0) (a_cons (d_glob W.g_WRITER_WORDS.m W.g_WRITER_WORDS.r W.g_WRITER_WORDS.p) a_nil))))
      (b_one (s_ret (d_and (d_call (ok_ahead W) W.t_ahead.a W.t_ahead.d.kp g (hr.mono (by decide)) (takes_of rfl rfl rfl rfl) (a_cons (d_var 1) (a_cons d_str (a_cons d_str a_nil)))) (d_and (d_call (ok_ahead W) W.t_ahead.a W.t_ahead.d.kp g (hr.mono (by decide)) (takes_of rfl rfl rfl rfl) (a_cons (d_var 1) (a_cons d_str (a_cons d_str a_nil)))) (d_one (d_call (ok_locks W) W.t_locks.a W.t_locks.d.kp g hr (takes_of rfl rfl rfl rfl) (a_cons (d_var 1) a_nil))))))))⟩) (fun ds μ Q E h => ?_)).fn0 W.t_is_writer.b
  unfold S_is_writer at h
  split at h
  · rename_i x
    obtain ⟨hv, q⟩ := h
    rw [show startD ["value", "words"] [x] = [some (x), none] from rfl]
    refine seq_step fun nx hnx => ?_
    push_cast [S_split]
    refine ⟨WW, rfl, hv, hnx _ _ ?_⟩
    clear hnx nx
    unfold isW at q
    generalize splitW WW (wordsF x) = ws at q
    push_cast [S_ahead, S_locks]
    have hw : view μ (.lst (ws.map D.str)) = .lst (ws.map D.str) := rfl
    exact ⟨ws, rfl, and_end q fun _ q => ⟨ws, rfl, and_end q fun _ q => ⟨ws, rfl, .inl q⟩⟩⟩
  · exact h.elim

theorem or_nx {b c : Bool} {S : Prop} (P : Bool → Prop) (h : P (b || c)) (k : P c → S) : iteB b (P b) S := by
  cases b with
  | true => exact h
  | false => exact k h
def S_is_cleaner (W : Wd P w K mg base) : DSp := fun ds μ Q _ => match ds with
  | [x] => ValW μ x ∧ Q (.bl (isC (wordsF x))) μ
  | _ => False

theorem ok_is_cleaner (W : Wd P w K mg base) : FnD P w K mg base 4 W.f_is_cleaner (S_is_cleaner W) := by
  refine (okB W.t_is_cleaner.d sc_is_cleaner (by (intro ds μ Q E h; unfold S_is_cleaner at h; split at h <;> first | rfl | exact h.elim)) _ (fun cdv A outer s H E' g hr => ⟨_, (b_cons (s_set 1 sc_is_cleaner.nd (d_call (ok_split W) W.t_split.a W.t_split.d.kp g hr (takes_of rfl rfl rfl rfl) (a_cons (d_var 0) (a_cons (d_glob W.g_CLEANER_WORDS.m W.g_CLEANER_WORDS.r W.g_CLEANER_WORDS.p) a_nil))))
      (b_cons (s_set 2 sc_is_cleaner.nd (d_or (d_cmp (op_notInA hr.units rfl) (sim_in true) d_str (d_var 1) (by rfl)) (d_one (d_call (ok_ahead W) W.t_ahead.a W.t_ahead.d.kp g (hr.mono (by decide)) (takes_of rfl rfl rfl rfl) (a_cons (d_var 1) (a_cons d_str (a_cons d_str a_nil)))))))
      (b_cons (s_set 3 sc_is_cleaner.nd (d_or (d_cmp (op_notInA hr.units rfl) (sim_in true) d_str (d_var 1) (by rfl)) (d_one (d_call (ok_ahead W) W.t_ahead.a W.t_ahead.d.kp g (hr.mono (by decide)) (takes_of rfl rfl rfl rfl) (a_cons (d_var 1) (a_cons d_str (a_cons d_str a_nil)))))))
      (b_one (s_ret (d_and (d_call (ok_ahead W) W.t_ahead.a W.t_ahead.d.kp g (hr.mono (by decide)) (takes_of rfl rfl rfl rfl) (a_cons (d_var 1) (a_cons d_str (a_cons d_str a_nil)))) (d_and (d_var 2) (d_and (d_var 3) (d_one (d_call (ok_locks W) W.t_locks.a W.t_locks.d.kp g hr (takes_of rfl rfl rfl rfl) (a_cons (d_var 1) a_nil)))))))))))⟩) (fun ds μ Q E h => ?_)).fn0 W.t_is_cleaner.b
  unfold S_is_cleaner at h
  split at h
  · rename_i x
    obtain ⟨hv, q⟩ := h
    rw [show startD ["value", "words", "removes", "looks_again"] [x] = [some (x), none, none, none] from rfl]
    refine seq_step fun nx hnx => ?_
    push_cast [S_split]
    refine ⟨CW, rfl, hv, hnx _ _ ?_⟩
    clear hnx nx
    unfold isC at q
    generalize splitW CW (wordsF x) = ws at q
    refine seq_step fun nx hnx => ?_
    push_cast [S_ahead]
    rw [inD_str]
    refine ⟨inok_strs _ _ _, or_nx (c := ahd ws (Str.ofString "remove") (Str.ofString "look")) (fun b => nx [some x, some (.lst (ws.map .str)), some (.bl b), none] μ) (hnx _ _ ?_) fun q => ⟨ws, rfl, q⟩⟩
    clear hnx nx
    refine seq_step fun nx hnx => ?_
    push_cast [S_ahead]
    rw [inD_str]
    refine ⟨inok_strs _ _ _, or_nx (c := ahd ws (Str.ofString "set") (Str.ofString "again")) (fun b => nx [some x, some (.lst (ws.map .str)), _, some (.bl b)] μ) (hnx _ _ ?_) fun q => ⟨ws, rfl, q⟩⟩
    clear hnx nx
    push_cast [S_ahead, S_locks]
    exact ⟨ws, rfl, and_end q fun _ q => and_end q fun _ q => and_end q fun _ q => ⟨ws, rfl, .inl q⟩⟩
  · exact h.elim

theorem last_at {ws : List Str} (h : ws ≠ []) : ∃ z, ws.getLast? = some z ∧ atI (ws.map D.str) (-1) = some (.str z) := by
  have hl : 0 < ws.length := List.length_pos_iff.mpr h
  refine ⟨ws.getLast h, List.getLast?_eq_some_getLast h, ?_⟩
  have e : ixN (ws.map D.str).length (-1) = some (ws.length - 1) := by
    unfold ixN
    rw [if_neg (by decide), List.length_map, if_pos (by omega)]
    congr 1
    omega
  unfold atI
  rw [e]
  show (ws.map D.str)[ws.length - 1]? = _
  rw [List.getElem?_map, List.getElem?_eq_getElem (by omega), List.getLast_eq_getElem]
  rfl
def S_is_reader (W : Wd P w K mg base) : DSp := fun ds μ Q _ => match ds with
  | [x] => ValW μ x ∧ Q (.bl (isR (wordsF x))) μ
  | _ => False

theorem ok_is_reader (W : Wd P w K mg base) : FnD P w K mg base 4 W.f_is_reader (S_is_reader W) := by
  refine (okB W.t_is_reader.d sc_is_reader (by (intro ds μ Q E h; unfold S_is_reader at h; split at h <;> first | rfl | exact h.elim)) _ (fun cdv A outer s H E' g hr => ⟨_, (b_cons (s_set 1 sc_is_reader.nd (d_call (ok_split W) W.t_split.a W.t_split.d.kp g hr (takes_of rfl rfl rfl rfl) (a_cons (d_var 0) (a_cons (d_glob W.g_READER_WORDS.m W.g_READER_WORDS.r W.g_READER_WORDS.p) a_nil))))
      (b_cons (s_if (WD.td (w_or (t_cmp (op_notInA hr.units rfl) (sim_in true) d_str (d_var 1) (by rfl)) (w_or (t_cmp (op_notInA hr.units rfl) (sim_in true) d_str (d_var 1) (by rfl)) (w_or1 (t_cmp (op_neA hr.units rfl) sim_ne (d_ix (d_var 1) (d_un un_neg d_int)) d_str (nomark _)))))) (b_one (s_ret d_bl)) b_nil)
      (b_cons (s_if (t_cmp (op_inA hr.units rfl) (sim_in false) d_str (d_var 1) (by rfl)) (b_one (s_ret (d_and (d_cmp (op_notInA hr.units rfl) (sim_in true) d_str (d_var 1) (by rfl)) (d_one (d_cmp (op_notInA hr.units rfl) (sim_in true) d_str (d_var 1) (by rfl)))))) b_nil)
      (b_one (s_ret (d_call (ok_ahead W) W.t_ahead.a W.t_ahead.d.kp g (hr.mono (by decide)) (takes_of rfl rfl rfl rfl) (a_cons (d_var 1) (a_cons d_str (a_cons d_str a_nil)))))))))⟩) (fun ds μ Q E h => ?_)).fn0 W.t_is_reader.b
  unfold S_is_reader at h
  split at h
  · rename_i x
    obtain ⟨hv, q⟩ := h
    rw [show startD ["value", "words"] [x] = [some (x), none] from rfl]
    refine seq_step fun nx hnx => ?_
    push_cast [S_split]
    refine ⟨RW, rfl, hv, hnx _ _ ?_⟩
    clear hnx nx
    have few : (splitW RW (wordsF x)).length ≤ 502 := by
      unfold splitW
      split
      · exact words_few hv.s
      · exact Nat.zero_le _
    unfold isR at q
    generalize splitW RW (wordsF x) = ws at q few
    refine seq_step fun nx hnx => ?_
    push_cast
    rw [inD_str, inD_str]
    refine ⟨inok_strs _ _ _, ifb (fun h1 => ?_) (fun h1 => ⟨inok_strs _ _ _, ifb (fun h2 => ?_) (fun h2 => ?_)⟩)⟩
    · rw [show (!decide (("entry" : Str) ∈ ws)) = true from h1, Bool.true_or, if_pos rfl] at q
      exact .inl q
    · rw [show (!decide (("mark" : Str) ∈ ws)) = true from h2, Bool.true_or, Bool.or_true, if_pos rfl] at q
      exact .inl q
    · have h1 := b_not h1
      have h2 := b_not h2
      have hm : Str.ofString "entry" ∈ ws := by simpa using h1
      obtain ⟨z, hz, ha⟩ := last_at (List.ne_nil_of_mem hm)
      rw [ha]
      refine ⟨eqokF rfl rfl, ?_⟩
      rw [show (!decide (("entry" : Str) ∈ ws)) = false from h1, show (!decide (("mark" : Str) ∈ ws)) = false from h2, Bool.false_or, Bool.false_or, hz] at q
      have ez : deqv (view μ (.str z)) (.str (Str.ofString "page")) = decide (some z = some (Str.ofString "page")) := by
        show (z == Str.ofString "page") = _
        by_cases e : z = Str.ofString "page"
        · rw [e]; simp
        · rw [beq_eq_false_iff_ne.mpr e, decide_eq_false (fun y => e (Option.some.inj y))]
      rw [ez]
      change Q (.bl (if (!decide (some z = some (Str.ofString "page"))) = true then false else if Str.ofString "hold" ∈ ws then (!decide (Str.ofString "take" ∈ ws) && !decide (Str.ofString "tell" ∈ ws)) else ahd ws (Str.ofString "take") (Str.ofString "tell"))) μ at q
      refine ifb (fun h3 => ?_) (fun h3 => hnx _ _ ?_)
      · rw [if_pos h3] at q
        exact .inl q
      clear hnx nx ez
      rw [if_neg h3] at q
      refine seq_step fun nx hnx => ?_
      push_cast
      rw [inD_str, inD_str, inD_str]
      refine ⟨inok_strs _ _ _, ifb (fun h4 => ?_) (fun h4 => hnx _ _ ?_)⟩
      · rw [if_pos (of_decide_eq_true h4)] at q
        exact ⟨inok_strs _ _ _, and_end q fun _ q => ⟨inok_strs _ _ _, .inl q⟩⟩
      · clear hnx nx
        rw [if_neg (of_decide_eq_false (b_not h4))] at q
        push_cast [S_ahead]
        exact ⟨ws, rfl, .inl q⟩
  · exact h.elim

end
end Toy
set_option Elab.async false
set_option linter.all false
set_option maxRecDepth 100000
set_option maxHeartbeats 4000000
namespace Toy
open PySem PySem.Spec PyProof.Rows L2 DX
section
variable {P : Program} {w : World} {K : PySem.W.Frag} {mg : Str → Option Value} {base : Heap}
def PL : List Str := ["writer", "cleaner", "reader", "horizon", "pins", "cleared", "sets", "force", "ahead", "first", "waits", "follower"]
def HL : List Str := ["all", "none"]
def FL : List Str := ["trust", "wait", "look"]

def S_is_part (W : Wd P w K mg base) : DSp := fun ds μ Q _ => match ds with
  | [x] => (∃ t, tyOf μ x = some t ∧ ∀ C, t ≠ .own C) ∧ Q (.bl (oneF x PL)) μ
  | _ => False

theorem ok_is_part (W : Wd P w K mg base) : FnD P w K mg base 3 W.f_is_part (S_is_part W) := by
  refine (okB W.t_is_part.d sc_is_part (by (intro ds μ Q E h; unfold S_is_part at h; split at h <;> first | rfl | exact h.elim)) _ (fun cdv A outer s H E' g hr => ⟨_, (b_one (s_ret (d_call (ok_is_one_of W) W.t_is_one_of.a W.t_is_one_of.d.kp g hr (takes_of rfl rfl rfl rfl) (a_cons (d_var 0) (a_cons (d_glob W.g_PARTS.m W.g_PARTS.r W.g_PARTS.p) a_nil)))))⟩) (fun ds μ Q E h => ?_)).fn0 W.t_is_part.b
  unfold S_is_part at h
  split at h
  · rename_i x
    obtain ⟨ht, q⟩ := h
    rw [show startD ["value"] [x] = [some (x)] from rfl]
    push_cast [S_is_one_of]
    exact ⟨PL, rfl, ht, .inl q⟩
  · exact h.elim

def blF (x : D) : Bool := match x with
  | .bl _ => true
  | _ => false
theorem ty_blF {μ : Mem} {x : D} {t : Ty} (h : tyOf μ x = some t) (ho : ∀ C, t ≠ .own C) : blF x = tyIs t .bl := by
  cases x <;> first | (cases h; done) | (cases h; rfl) | (cases h; exact absurd rfl (ho _)) | skip
  · have h : (match μ[(_ : Nat)]? with | some (DX.M.lst _) => some Ty.lst | some (.ins C _) => some (.own C) | some (.dic _) => some .dic | none => none) = some t := h
    split at h <;> first | (cases h; done) | (cases h; rfl) | (cases h; exact absurd rfl (ho _)) | cases h
/-- whether a part may have a value -/
def allowB (p : Str) (x : D) : Bool := if p == "writer" then isW (wordsF x) else if p == "cleaner" then isC (wordsF x) else if p == "reader" then isR (wordsF x) else if p == "horizon" then oneF x HL else if p == "follower" then oneF x FL else blF x
theorem val_two {h f p : Str} {a b : D} : valD [(.inr h, a), (.inr f, b)] (.inr p) = if (p == h) = true then some a else if (p == f) = true then some b else none := by
  rw [valD_cons, valD_cons]
  have e : ∀ x : Str, ((.inr x : Key) = .inr p) = ((p == x) = true) := fun x => propext ⟨fun z => by rw [Sum.inr.inj z]; exact BEq.rfl, fun z => by rw [eq_of_beq z]⟩
  simp only [e]; rfl

def S_is_allowed (W : Wd P w K mg base) : DSp := fun ds μ Q _ => match ds with
  | [.str p, x] => ValW μ x ∧ Q (.bl (allowB p x)) μ
  | _ => False

theorem ok_is_allowed (W : Wd P w K mg base) : FnD P w K mg base 5 W.f_is_allowed (S_is_allowed W) := by
  refine (okB W.t_is_allowed.d sc_is_allowed (by (intro ds μ Q E h; unfold S_is_allowed at h; split at h <;> first | rfl | exact h.elim)) _ (fun cdv A outer s H E' g hr => ⟨_, (b_cons (s_if (t_cmp (op_eqA hr.units rfl) sim_eq (d_var 0) d_str (nomark _)) (b_one (s_ret (d_call (ok_is_writer W) W.t_is_writer.a W.t_is_writer.d.kp g hr (takes_of rfl rfl rfl rfl) (a_cons (d_var 1) a_nil)))) b_nil)
      (b_cons (s_if (t_cmp (op_eqA hr.units rfl) sim_eq (d_var 0) d_str (nomark _)) (b_one (s_ret (d_call (ok_is_cleaner W) W.t_is_cleaner.a W.t_is_cleaner.d.kp g hr (takes_of rfl rfl rfl rfl) (a_cons (d_var 1) a_nil)))) b_nil)
      (b_cons (s_if (t_cmp (op_eqA hr.units rfl) sim_eq (d_var 0) d_str (nomark _)) (b_one (s_ret (d_call (ok_is_reader W) W.t_is_reader.a W.t_is_reader.d.kp g hr (takes_of rfl rfl rfl rfl) (a_cons (d_var 1) a_nil)))) b_nil)
      (b_cons (s_if (t_cmp (op_inK (hu_of hr) rfl) sim_inK (d_var 0) (d_glob W.g_CHOICES.m W.g_CHOICES.r W.g_CHOICES.p) (by rfl)) (b_one (s_ret (d_call (ok_is_one_of W) W.t_is_one_of.a W.t_is_one_of.d.kp g (hr.mono (by decide)) (takes_of rfl rfl rfl rfl) (a_cons (d_var 1) (a_cons (d_kget (d_glob W.g_CHOICES.m W.g_CHOICES.r W.g_CHOICES.p) (d_var 0)) a_nil))))) b_nil)
      (b_one (s_ret (d_isB .bl (by intro _ z; cases z) rfl W.z_isinstance W.z_bool (d_var 1))))))))⟩) (fun ds μ Q E h => ?_)).fn0 W.t_is_allowed.b
  unfold S_is_allowed at h
  split at h
  · rename_i p x
    obtain ⟨hv, q⟩ := h
    rw [show startD ["part", "value"] [.str p, x] = [some (.str p), some (x)] from rfl]
    obtain ⟨t, ht, ho⟩ := hv.t
    unfold allowB at q
    refine seq_step fun nx hnx => ?_
    push_cast [S_is_writer]
    refine ifb (fun h1 => ⟨hv, ?_⟩) (fun h1 => hnx _ _ ?_)
    · rw [if_pos h1] at q
      exact .inl q
    clear hnx nx
    rw [if_neg h1] at q
    refine seq_step fun nx hnx => ?_
    push_cast [S_is_cleaner]
    refine ifb (fun h2 => ⟨hv, ?_⟩) (fun h2 => hnx _ _ ?_)
    · rw [if_pos h2] at q
      exact .inl q
    clear hnx nx
    rw [if_neg h2] at q
    refine seq_step fun nx hnx => ?_
    push_cast [S_is_reader]
    refine ifb (fun h3 => ⟨hv, ?_⟩) (fun h3 => hnx _ _ ?_)
    · rw [if_pos h3] at q
      exact .inl q
    clear hnx nx
    rw [if_neg h3] at q
    refine seq_step fun nx hnx => ?_
    push_cast [S_is_one_of]
    refine ⟨_, _, rfl, .inr ⟨rfl, ⟨_, rfl⟩, ?_⟩⟩
    rw [val_two]
    by_cases h4 : (p == Str.ofString "horizon") = true
    · rw [if_pos h4] at q
      rw [if_pos h4]
      push_cast [Option.isSome_some]
      refine ⟨_, p, _, rfl, rfl, by rw [val_two, if_pos h4], ?_⟩
      exact ⟨HL, rfl, ⟨t, ht, ho⟩, .inl q⟩
    rw [if_neg h4] at q
    rw [if_neg h4]
    by_cases h5 : (p == Str.ofString "follower") = true
    · rw [if_pos h5] at q
      rw [if_pos h5]
      push_cast [Option.isSome_some]
      refine ⟨_, p, _, rfl, rfl, by rw [val_two, if_neg h4, if_pos h5], ?_⟩
      exact ⟨FL, rfl, ⟨t, ht, ho⟩, .inl q⟩
    rw [if_neg h5] at q
    rw [if_neg h5]
    push_cast [Option.isSome_none]
    refine hnx _ _ ?_
    clear hnx nx
    rw [ty_blF ht ho] at q
    push_cast
    rw [ht]
    cases t <;> first | exact absurd rfl (ho _) | exact .inl q
  · exact h.elim

end
end Toy
set_option Elab.async false
set_option linter.all false
set_option maxRecDepth 100000
set_option maxHeartbeats 4000000
namespace Toy
open PySem PySem.Spec PyProof.Rows L2 DX
section
variable {P : Program} {w : World} {K : PySem.W.Frag} {mg : Str → Option Value} {base : Heap}
/-- the first part whose value is not allowed -/
def badP (kvs : List (Key × D)) (p : Str) : Bool := match valD kvs (.inr p) with
  | some v => !allowB p v
  | none => false
def firstBad (kvs : List (Key × D)) : Option Str := PL.find? (badP kvs)
theorem find_at_str {ps : List Str} {f : Str → Bool} {n : Nat} {p : Str} (h : ps[n]? = some p) (hp : f p = true) (hb : ∀ (i : Nat) q, i < n → ps[i]? = some q → f q = false) : ps.find? f = some p := by
  induction ps generalizing n with
  | nil => cases h
  | cons a r ih =>
    rw [List.find?_cons]
    cases n with
    | zero =>
      cases h
      rw [hp]
    | succ n =>
      rw [hb 0 a (Nat.succ_pos n) rfl]
      exact ih (n := n) h fun i q hi hq => hb (i + 1) q (by omega) hq
theorem find_no_str {ps : List Str} {f : Str → Bool} (hb : ∀ (i : Nat) q, ps[i]? = some q → f q = false) : ps.find? f = none := by
  rw [List.find?_eq_none]
  intro x hx
  obtain ⟨i, hi⟩ := List.getElem?_of_mem hx
  rw [hb i x hi]; exact Bool.false_ne_true

def S_check_parts (W : Wd P w K mg base) : DSp := fun ds μ Q E => match ds with
  | [x] => ∃ kvs, dicAt μ x = some kvs ∧ (∀ p v, valD kvs (.inr p) = some v → ValW μ v) ∧ (∀ p, firstBad kvs = some p → E W.X_BadBook [("part", .str p)] μ) ∧ (firstBad kvs = none → Q .non μ)
  | _ => False

theorem ok_check_parts (W : Wd P w K mg base) : FnD P w K mg base 6 W.f_check_parts (S_check_parts W) := by
  refine (okB W.t_check_parts.d sc_check_parts (by (intro ds μ Q E h; unfold S_check_parts at h; split at h <;> first | rfl | exact h.elim)) _ (fun cdv A outer s H E' g hr => ⟨_, (b_one (s_for (passes_of rfl) (i_seq (d_glob W.g_PARTS.m W.g_PARTS.r W.g_PARTS.p)) (g_name 1 sc_check_parts.nd)
      (b_one (s_if (WD.td (w_and (t_cmp (op_inK (hu_of hr) rfl) sim_inK (d_var 1) (d_var 0) (by rfl)) (w_and1 (t_not (t_tru (d_call (ok_is_allowed W) W.t_is_allowed.a W.t_is_allowed.d.kp g hr (takes_of rfl rfl rfl rfl) (a_cons (d_var 1) (a_cons (d_dget (hu_of hr) (d_var 0) (d_var 1)) a_nil)))))))) (b_one (s_raise W.e_BadBook (hr.mono (by decide)) (takes_of rfl rfl rfl rfl) (a_cons (d_var 1) a_nil))) b_nil))))⟩) (fun ds μ Q E h => ?_)).fn0 W.t_check_parts.b
  unfold S_check_parts at h
  split at h
  · rename_i x
    obtain ⟨kvs, hd, hv, qe, q⟩ := h
    rw [show startD ["parts", "part"] [x] = [some (x), none] from rfl]
    push_cast
    change uForGo _ _ _ _ _ (PL.map D.str) _ _
    refine for_first (fun ρ => ∃ o, ρ = [some x, o]) (fun _ d => match d with
      | .str p => badP kvs p
      | _ => false) ⟨none, rfl⟩ (by first | trivial | rfl) ?_ ?_
    · rintro ρ ⟨o, rfl⟩ hb
      refine .inl (q (find_no_str fun i p hp => hb i (.str p) ?_))
      rw [List.getElem?_map, hp]; rfl
    · rintro n d ρ go hdd ⟨o, rfl⟩ hbef k
      rw [List.getElem?_map] at hdd
      obtain ⟨p, hp, rfl⟩ := Option.map_eq_some_iff.mp hdd
      clear hdd
      have hbef : ∀ (i : Nat) p', i < n → PL[i]? = some p' → badP kvs p' = false := fun i p' hi h => hbef i (.str p') hi (by rw [List.getElem?_map, h]; rfl)
      have k : badP kvs p = false → go [some x, some (.str p)] μ := fun h => k h _ ⟨_, rfl⟩
      push_cast [S_is_allowed]
      refine ⟨kvs, _, rfl, .inl ⟨hd, ?_⟩⟩
      cases e : valD kvs (.inr p) with
      | none =>
        push_cast [Option.isSome_none]
        exact k (by unfold badP; rw [e])
      | some v =>
        push_cast [Option.isSome_some]
        refine ⟨kvs, _, v, hd, rfl, e, hv p v e, ?_⟩
        cases ea : allowB p v with
        | true =>
          push_cast
          exact k (by unfold badP; rw [e]; show (!allowB p v) = false; rw [ea]; rfl)
        | false =>
          push_cast
          exact .inl (qe p (find_at_str hp (by unfold badP; rw [e]; show (!allowB p v) = true; rw [ea]; rfl) hbef))
  · exact h.elim

end
end Toy
set_option Elab.async false
set_option linter.all false
set_option maxRecDepth 100000
set_option maxHeartbeats 4000000
namespace Toy
open PySem PySem.Spec PyProof.Rows L2 DX
section
variable {P : Program} {w : World} {K : PySem.W.Frag} {mg : Str → Option Value} {base : Heap}
def partsK (vs : List D) : List (Key × D) := List.zipWith (fun p v => ((.inr p : Key), v)) PL vs
theorem ValW.app {μ l : Mem} {x : D} (h : ValW μ x) : ValW (μ ++ l) x := by
  obtain ⟨⟨t, ht, ho⟩, hs⟩ := h
  refine ⟨⟨t, ?_, ho⟩, hs⟩
  cases x with
  | ob k =>
    have ht : (match μ[k]? with | some (DX.M.lst _) => some Ty.lst | some (.ins C _) => some (.own C) | some (.dic _) => some .dic | none => none) = some t := ht
    show (match (μ ++ l)[k]? with | some (DX.M.lst _) => some Ty.lst | some (.ins C _) => some (.own C) | some (.dic _) => some .dic | none => none) = some t
    cases e : μ[k]? with
    | none => rw [e] at ht; cases ht
    | some m =>
      rw [List.getElem?_append_left (List.getElem?_eq_some_iff.mp e).1, e]
      rw [e] at ht; exact ht
  | _ => exact ht
theorem merge_new : ∀ (kvs acc : List (Key × D)), ((acc ++ kvs).map (·.1)).Nodup → dmerge acc kvs = acc ++ kvs
  | [], acc, _ => by rw [List.append_nil]; rfl
  | p :: r, acc, h => by
    have e : dputK acc p.1 p.2 = acc ++ [p] := by
      unfold dputK
      rw [if_neg]
      intro ha
      obtain ⟨x, hx, he⟩ := List.any_eq_true.mp ha
      rw [List.map_append, List.map_cons, List.nodup_append] at h
      exact h.2.2 x.1 (List.mem_map.mpr ⟨x, hx, rfl⟩) p.1 List.mem_cons_self (of_decide_eq_true he)
    show dmerge (dputK acc p.1 p.2) r = _
    rw [e, merge_new r (acc ++ [p]) (by rw [List.append_assoc]; exact h), List.append_assoc]; rfl
theorem partsK_keys {vs : List D} (h : vs.length = 12) : (partsK vs).map (·.1) = PL.map .inr := by
  match vs, h with
  | [_, _, _, _, _, _, _, _, _, _, _, _], _ => rfl
theorem PL_nodup : (PL.map (Sum.inr : Str → Key)).Nodup := by decide +kernel
theorem partsK_merge {vs : List D} (h : vs.length = 12) : dmerge [] (partsK vs) = partsK vs := merge_new (partsK vs) [] (by rw [List.nil_append, partsK_keys h]; exact PL_nodup)
/-- what a part of a book is -/
theorem valD_at : ∀ {kvs : List (Key × D)} {i : Nat} {k : Key} {v : D}, (kvs.map (·.1)).Nodup → kvs[i]? = some (k, v) → valD kvs k = some v
  | p :: r, 0, k, v, _, h => by
    cases h
    rw [valD_cons, if_pos rfl]
  | (n, x) :: r, i + 1, k, v, hn, h => by
    have h : r[i]? = some (k, v) := h
    rw [List.map_cons, List.nodup_cons] at hn
    have hne : ¬ n = k := fun e => hn.1 (List.mem_map.mpr ⟨(k, v), List.mem_of_getElem? h, e.symm⟩)
    rw [valD_cons, if_neg hne]
    exact valD_at hn.2 h
theorem partsK_at {vs : List D} (h : vs.length = 12) {i : Nat} {p : Str} {v : D} (hp : PL[i]? = some p) (hv : vs[i]? = some v) : (partsK vs)[i]? = some (.inr p, v) := by
  unfold partsK
  rw [List.getElem?_zipWith, hp, hv]
theorem parts_val {vs : List D} (h : vs.length = 12) {i : Nat} {p : Str} {v : D} (hp : PL[i]? = some p) (hv : vs[i]? = some v) : valD (partsK vs) (.inr p) = some v :=
  valD_at (by rw [partsK_keys h]; exact PL_nodup) (partsK_at h hp hv)
theorem valD_mem {k : Key} {v : D} : ∀ {kvs : List (Key × D)}, valD kvs k = some v → (k, v) ∈ kvs
  | [], h => by cases h
  | (n, x) :: r, h => by
    rw [valD_cons] at h
    by_cases e : n = k
    · rw [if_pos e] at h
      cases h; subst e; exact List.mem_cons_self
    · rw [if_neg e] at h
      exact List.mem_cons_of_mem _ (valD_mem h)
theorem parts_mem {vs : List D} {k : Key} {v : D} (h : valD (partsK vs) k = some v) : ∃ (i : Nat) (p : Str), PL[i]? = some p ∧ vs[i]? = some v ∧ k = .inr p := by
  obtain ⟨i, hi⟩ := List.getElem?_of_mem (valD_mem h)
  unfold partsK at hi
  rw [List.getElem?_zipWith] at hi
  cases e1 : PL[i]? with
  | none => rw [e1] at hi; cases hi
  | some p =>
    cases e2 : vs[i]? with
    | none => rw [e1, e2] at hi; cases hi
    | some u => rw [e1, e2] at hi; cases hi; exact ⟨i, p, e1, e2, rfl⟩

def S_Book_init (W : Wd P w K mg base) : DSp := fun ds μ Q E => match ds with
  | [.ob n, v0, v1, v2, v3, v4, v5, v6, v7, v8, v9, v10, v11] => μ[n]? = some (.ins W.C_Book []) ∧ (∀ v ∈ [v0, v1, v2, v3, v4, v5, v6, v7, v8, v9, v10, v11], ValW μ v) ∧ (∀ p, firstBad (partsK [v0, v1, v2, v3, v4, v5, v6, v7, v8, v9, v10, v11]) = some p → E W.X_BadBook [("part", .str p)] μ) ∧
    (firstBad (partsK [v0, v1, v2, v3, v4, v5, v6, v7, v8, v9, v10, v11]) = none → Q .non (μ.set n (.ins W.C_Book [("_parts", .ob μ.length)]) ++ [.dic (partsK [v0, v1, v2, v3, v4, v5, v6, v7, v8, v9, v10, v11])]))
  | _ => False

theorem okb_Book_init (W : Wd P w K mg base) : FnB P w K mg base 7 W.f_Book_init W.fd_Book_init ["self", "writer", "cleaner", "reader", "horizon", "pins", "cleared", "sets", "force", "ahead", "first", "waits", "follower"] (S_Book_init W) := by
  refine okB W.t_Book_init.d sc_Book_init (by (intro ds μ Q E h; unfold S_Book_init at h; split at h <;> first | rfl | exact h.elim)) _ (fun cdv A outer s H E' g hr => ⟨_, (b_cons (s_set 13 sc_Book_init.nd (d_disp false (p_cons d_str (d_var 1) (p_cons d_str (d_var 2) (p_cons d_str (d_var 3) (p_cons d_str (d_var 4) (p_cons d_str (d_var 5) (p_cons d_str (d_var 6) (p_cons d_str (d_var 7) (p_cons d_str (d_var 8) (p_cons d_str (d_var 9) (p_cons d_str (d_var 10) (p_cons d_str (d_var 11) (p_cons d_str (d_var 12) p_nil))))))))))))))
      (b_cons (s_expr (d_call (ok_check_parts W) W.t_check_parts.a W.t_check_parts.d.kp g hr (takes_of rfl rfl rfl rfl) (a_cons (d_var 13) a_nil)))
      (b_one (s_fld W.c_Book.cl W.n_Book_parts (d_var 0) (d_var 13)))))⟩) (fun ds μ Q E h => ?_)
  unfold S_Book_init at h
  split at h
  · rename_i n v0 v1 v2 v3 v4 v5 v6 v7 v8 v9 v10 v11
    obtain ⟨hn, hv, qe, q⟩ := h
    rw [show startD ["self", "writer", "cleaner", "reader", "horizon", "pins", "cleared", "sets", "force", "ahead", "first", "waits", "follower", "parts"] [.ob n, v0, v1, v2, v3, v4, v5, v6, v7, v8, v9, v10, v11] = [some (.ob n), some (v0), some (v1), some (v2), some (v3), some (v4), some (v5), some (v6), some (v7), some (v8), some (v9), some (v10), some (v11), none] from rfl]
    refine seq_step fun nx hnx => ?_
    push_cast
    iterate 12 refine ⟨_, rfl, ?_⟩
    refine ⟨by decide, hnx _ _ ?_⟩
    clear hnx nx
    have em := partsK_merge (vs := [v0, v1, v2, v3, v4, v5, v6, v7, v8, v9, v10, v11]) rfl
    change dmerge [] [_, _, _, _, _, _, _, _, _, _, _, _] = _ at em
    have hl : n < μ.length := (List.getElem?_eq_some_iff.mp hn).1
    have hval : ∀ p v, valD (partsK [v0, v1, v2, v3, v4, v5, v6, v7, v8, v9, v10, v11]) (.inr p) = some v → ValW μ v := fun p v e => by
      obtain ⟨i, _, _, h2, _⟩ := parts_mem e
      exact hv v (List.mem_of_getElem? h2)
    rw [em]
    clear em hv
    generalize partsK [v0, v1, v2, v3, v4, v5, v6, v7, v8, v9, v10, v11] = kvs at qe q hval
    refine seq_step fun nx hnx => ?_
    push_cast [S_check_parts]
    refine ⟨kvs, dicAt_ob at_r0, fun p v e => (hval p v e).app, fun p hp => ?_, fun hb => hnx _ _ ?_⟩
    · refine .inr ⟨stays_app, rfl, ?_⟩
      rw [take_n rfl]
      exact qe p hp
    · clear hnx nx
      push_cast
      rw [List.getElem?_append_left hl, hn]
      refine ⟨rfl, by decide, .inl ?_⟩
      rw [List.set_append_left _ _ hl]
      exact q hb
  · exact h.elim
/-! a book: of the memory or frozen -/
def BookV (W : Wd P w K mg base) (μ : Mem) (x : D) (vs : List D) : Prop := vs.length = 12 ∧ ∃ d, view μ x = .ins W.C_Book [("_parts", d)] ∧ dicAt μ d = some (partsK vs)
/-- a book of the memory: its object, its parts -/
def BookM (W : Wd P w K mg base) (μ : Mem) (k j : Nat) (vs : List D) : Prop := vs.length = 12 ∧ μ[k]? = some (.ins W.C_Book [("_parts", .ob j)]) ∧ μ[j]? = some (.dic (partsK vs))
theorem BookM.v {W : Wd P w K mg base} {μ : Mem} {k j : Nat} {vs : List D} (h : BookM W μ k j vs) : BookV W μ (.ob k) vs := ⟨h.1, .ob j, v_obI h.2.1, dicAt_ob h.2.2⟩
theorem BookM.app {W : Wd P w K mg base} {μ l : Mem} {k j : Nat} {vs : List D} (h : BookM W μ k j vs) : BookM W (μ ++ l) k j vs :=
  ⟨h.1, by rw [List.getElem?_append_left (List.getElem?_eq_some_iff.mp h.2.1).1]; exact h.2.1, by rw [List.getElem?_append_left (List.getElem?_eq_some_iff.mp h.2.2).1]; exact h.2.2⟩
theorem BookM.ne {W : Wd P w K mg base} {μ : Mem} {k j : Nat} {vs : List D} (h : BookM W μ k j vs) : k ≠ j := fun e => by
  obtain ⟨_, h1, h2⟩ := h
  subst e; rw [h1] at h2; cases h2
theorem BookM.set {W : Wd P w K mg base} {μ : Mem} {k j n : Nat} {vs : List D} {m : DX.M} (h : BookM W μ k j vs) (h1 : n ≠ k) (h2 : n ≠ j) : BookM W (μ.set n m) k j vs :=
  ⟨h.1, by rw [List.getElem?_set_ne h1]; exact h.2.1, by rw [List.getElem?_set_ne h2]; exact h.2.2⟩
theorem BookM.put {W : Wd P w K mg base} {μ : Mem} {k j : Nat} {vs us : List D} (h : BookM W μ k j vs) (hu : us.length = 12) : BookM W (μ.set j (.dic (partsK us))) k j us :=
  ⟨hu, by rw [List.getElem?_set_ne h.ne.symm]; exact h.2.1, List.getElem?_set_self (List.getElem?_eq_some_iff.mp h.2.2).1⟩
theorem view_set {μ : Mem} {n k : Nat} {m : DX.M} (h : n ≠ k) : view (μ.set n m) (.ob k) = view μ (.ob k) := by
  show (match (μ.set n m)[k]? with | some (DX.M.lst ds) => D.lst ds | some (.ins C fs) => .ins C fs | _ => .ob k) = (match μ[k]? with | some (DX.M.lst ds) => D.lst ds | some (.ins C fs) => .ins C fs | _ => .ob k)
  rw [List.getElem?_set_ne h]
theorem view_app {μ l : Mem} {k : Nat} (h : k < μ.length) : view (μ ++ l) (.ob k) = view μ (.ob k) := by
  show (match (μ ++ l)[k]? with | some (DX.M.lst ds) => D.lst ds | some (.ins C fs) => .ins C fs | _ => .ob k) = (match μ[k]? with | some (DX.M.lst ds) => D.lst ds | some (.ins C fs) => .ins C fs | _ => .ob k)
  rw [List.getElem?_append_left h]
theorem BookM.new {W : Wd P w K mg base} {μ l : Mem} {vs : List D} (h : vs.length = 12) : BookM W (μ ++ .ins W.C_Book [("_parts", .ob (μ.length + 1))] :: .dic (partsK vs) :: l) μ.length (μ.length + 1) vs :=
  ⟨h, by rw [List.getElem?_append_right (Nat.le_refl _), Nat.sub_self]; rfl, by rw [List.getElem?_append_right (Nat.le_add_right _ 1), Nat.add_sub_cancel_left]; rfl⟩
theorem BookM.lt {W : Wd P w K mg base} {μ : Mem} {k j : Nat} {vs : List D} (h : BookM W μ k j vs) : k < μ.length ∧ j < μ.length := ⟨(List.getElem?_eq_some_iff.mp h.2.1).1, (List.getElem?_eq_some_iff.mp h.2.2).1⟩
/-- a part has an index -/
theorem parts_get {vs : List D} (h : vs.length = 12) {i : Nat} {p : Str} (hp : PL[i]? = some p) : ∃ d, vs[i]? = some d ∧ valD (partsK vs) (.inr p) = some d := by
  have hi : i < 12 := (List.getElem?_eq_some_iff.mp hp).1
  exact ⟨vs[i]'(by omega), List.getElem?_eq_getElem _, parts_val h hp (List.getElem?_eq_getElem _)⟩
theorem zw_set {f : Str → D → Key × D} : ∀ (ps : List Str) (vs : List D) (i : Nat) (p : Str) (v : D), ps[i]? = some p → List.zipWith f ps (vs.set i v) = (List.zipWith f ps vs).set i (f p v)
  | [], _, _, _, _, h => by cases h
  | _ :: _, [], i, _, _, _ => by cases i <;> rfl
  | a :: ps, x :: vs, 0, p, v, h => by cases h; rfl
  | a :: ps, x :: vs, i + 1, p, v, h => by
    show f a x :: List.zipWith f ps (vs.set i v) = f a x :: (List.zipWith f ps vs).set i (f p v)
    rw [zw_set ps vs i p v h]
theorem dput_at {k : Key} {v d : D} : ∀ {kvs : List (Key × D)} {i : Nat}, (kvs.map (·.1)).Nodup → kvs[i]? = some (k, d) → dputK kvs k v = kvs.set i (k, v) := by
  intro kvs i hn hi
  unfold dputK
  rw [if_pos (List.any_eq_true.mpr ⟨(k, d), List.mem_of_getElem? hi, decide_eq_true rfl⟩)]
  induction kvs generalizing i with
  | nil => cases hi
  | cons p r ih =>
    rw [List.map_cons, List.nodup_cons] at hn
    cases i with
    | zero =>
      cases hi
      show (if k = k then (k, v) else (k, d)) :: _ = (k, v) :: r
      rw [if_pos rfl]
      congr 1
      refine (List.map_congr_left fun x hx => ?_).trans (List.map_id r)
      rw [if_neg (fun e => hn.1 (List.mem_map.mpr ⟨x, hx, e⟩))]; rfl
    | succ i =>
      have hi : r[i]? = some (k, d) := hi
      have hne : ¬ p.1 = k := fun e => hn.1 (List.mem_map.mpr ⟨(k, d), List.mem_of_getElem? hi, e.symm⟩)
      show (if p.1 = k then (p.1, v) else p) :: _ = p :: r.set i (k, v)
      rw [if_neg hne, ih hn.2 hi]
theorem put_parts {vs : List D} (h : vs.length = 12) {i : Nat} {p : Str} (hp : PL[i]? = some p) (v : D) : dputK (partsK vs) (.inr p) v = partsK (vs.set i v) := by
  have hi : i < 12 := (List.getElem?_eq_some_iff.mp hp).1
  rw [dput_at (by rw [partsK_keys h]; exact PL_nodup) (partsK_at h hp (List.getElem?_eq_getElem (by omega)))]
  unfold partsK
  rw [zw_set PL vs i p v hp]

theorem ok_Book_init_writer_cleaner_reader_horizon_pins (W : Wd P w K mg base) : FnC P w K mg base 7 W.f_Book_init ["writer", "cleaner", "reader", "horizon", "pins"] (kwS 1 5 [.bl true, .bl true, .bl true, .bl true, .bl false, .bl true, .str (Str.ofString "wait")] (fun us ws mv => gsel [0, 1, 2, 3, 4, 5, 6, 7, 8, 9, 10, 11] us ws mv) (S_Book_init W)) := (okb_Book_init W).kwsel (mv := [.bool true, .bool true, .bool true, .bool true, .bool false, .bool true, .str (Str.ofString "wait") W.td_Book_init_follower]) (mw := [.bl true, .bl true, .bl true, .bl true, .bl false, .bl true, .str (Str.ofString "wait")]) (md := [.bl true, .bl true, .bl true, .bl true, .bl false, .bl true, .str (Str.ofString "wait")]) [0, 1, 2, 3, 4, 5, 6, 7, 8, 9, 10, 11] (.cons rfl (.cons rfl (.cons rfl (.cons rfl (.cons rfl (.cons rfl (.cons ⟨_, rfl⟩ .nil))))))) (fun _ _ => (.cons (.bl _) (.cons (.bl _) (.cons (.bl _) (.cons (.bl _) (.cons (.bl _) (.cons (.bl _) (.cons (.str _) .nil)))))))) W.k_Book_init_writer_cleaner_reader_horizon_pins
end
end Toy
set_option Elab.async false
set_option linter.all false
set_option maxRecDepth 100000
set_option maxHeartbeats 4000000
namespace Toy
open PySem PySem.Spec PyProof.Rows L2 DX
section
variable {P : Program} {w : World} {K : PySem.W.Frag} {mg : Str → Option Value} {base : Heap}
/-- C(..): the book that is made -/
theorem make_book (W : Wd P w K mg base) {μ : Mem} {kd md vs : List D} {sel : List Nat} {m : Nat} {Q : D → Mem → Prop} {E : Addr → List (Str × D) → Mem → Prop} (hk : kd.length = m) (h12 : vs.length = 12) (hg : ∀ x : D, gsel sel [x] kd md = x :: vs) (ha : ∀ v ∈ vs, ValW μ v)
    (qe : ∀ p, firstBad (partsK vs) = some p → E W.X_BadBook [("part", .str p)] μ) (q : firstBad (partsK vs) = none → Q (.ob μ.length) (μ ++ [.ins W.C_Book [("_parts", .ob (μ.length + 1))], .dic (partsK vs)])) :
    dMakeM W.C_Book (kwS 1 m md (fun us ws mv => gsel sel us ws mv) (S_Book_init W)) kd μ Q E := by
  refine ⟨[.ob μ.length], kd, rfl, rfl, hk, ?_⟩
  show S_Book_init W (gsel sel [.ob μ.length] kd md) _ _ _
  rw [hg]
  match vs, h12 with
  | [v0, v1, v2, v3, v4, v5, v6, v7, v8, v9, v10, v11], _ =>
    refine ⟨at_r0, fun v hv => (ha v hv).app, fun p hp => ?_, fun hb => ⟨rfl, ?_⟩⟩
    · refine ⟨rfl, stays_app, ?_⟩
      rw [take_n rfl]
      exact qe p hp
    · rw [set_r0, List.length_append, List.append_assoc]
      exact q hb
theorem PL_at {i j : Nat} {p : Str} (h1 : PL[i]? = some p) (h2 : PL[j]? = some p) : i = j := (List.getElem?_inj (List.getElem?_eq_some_iff.mp h1).1 (show PL.Nodup by decide +kernel)).mp (h1.trans h2.symm)
theorem PL_eq {i j : Nat} {p q : Str} (h1 : PL[i]? = some p) (h : (p == q) = true) (h2 : PL[j]? = some q) : p = q ∧ i = j := by
  obtain rfl := eq_of_beq h
  exact ⟨rfl, PL_at h1 h2⟩
def valWB (x : D) : Bool := match x with
  | .bl _ => true
  | .str z => decide (z.length ≤ 500)
  | _ => false
theorem valW_b {μ : Mem} {x : D} (h : valWB x = true) : ValW μ x := by
  cases x with
  | bl b => exact ⟨⟨_, rfl, fun _ z => nomatch z⟩, fun _ z => nomatch z⟩
  | str z => exact ⟨⟨_, rfl, fun _ z => nomatch z⟩, fun z' e => by cases e; exact of_decide_eq_true h⟩
  | _ => cases h
theorem valW_all {μ : Mem} {vs : List D} (h : vs.all valWB = true) : ∀ v ∈ vs, ValW μ v := fun v hv => valW_b (List.all_eq_true.mp h v hv)
def carefulL : List D := [.str (Str.ofString "lock clear change unlock enter commit"), .str (Str.ofString "lock remove look set unlock"), .str (Str.ofString "hold entry mark page"), .str (Str.ofString "all"), .bl true, .bl true, .bl true, .bl true, .bl true, .bl false, .bl true, .str (Str.ofString "wait")]
theorem careful_good : firstBad (partsK carefulL) = none := by decide +kernel
def plainL : List D := [.str (Str.ofString "change enter clear commit"), .str (Str.ofString "look set"), .str (Str.ofString "hold mark entry page"), .str (Str.ofString "all"), .bl true, .bl true, .bl true, .bl true, .bl true, .bl false, .bl true, .str (Str.ofString "wait")]
theorem plain_good : firstBad (partsK plainL) = none := by decide +kernel
def quickL : List D := [.str (Str.ofString "clear change enter commit"), .str (Str.ofString "remove look set again"), .str (Str.ofString "take tell entry mark page"), .str (Str.ofString "none"), .bl false, .bl true, .bl true, .bl true, .bl true, .bl false, .bl true, .str (Str.ofString "trust")]
theorem quick_good : firstBad (partsK quickL) = none := by decide +kernel
theorem partsK_len' {vs : List D} (h : vs.length = 12) : (partsK vs).length = 12 := by
  have := congrArg List.length (partsK_keys h)
  rw [List.length_map] at this
  rw [this]; rfl

def S_Book_change (W : Wd P w K mg base) : DSp := fun ds μ Q E => match ds with
  | [.ob k, .fd kvs] => ∃ j vs, BookM W μ k j vs ∧ kvs.length ≤ 12 ∧ (∀ p ∈ kvs, ∃ z ∈ PL, p.1 = .inr z) ∧ (∀ p v, valD kvs (.inr p) = some v → ValW μ v) ∧ (∀ p, firstBad kvs = some p → E W.X_BadBook [("part", .str p)] μ) ∧ (firstBad kvs = none → Q .non (μ.set j (.dic (dmerge (partsK vs) kvs))))
  | _ => False

theorem okk_Book_change (W : Wd P w K mg base) {ks : List Str} (hks : (ks.all fun k => !(["self"] : List Str).contains k) = true) (hn : ks.Nodup) (hz : ks.length ≤ 1000) : FnC P w K mg base 7 W.f_Book_change ks (kwdS 1 ks (S_Book_change W)) := by
  refine okD W.t_Book_change.d sc_Book_change W.kf_Book_change hks hn hz _ (fun cdv A outer s H E' g hr => ⟨_, (b_cons (s_for (passes_of rfl) (i_keys (d_var 1)) (g_name 2 sc_Book_change.nd)
      (b_one (s_if (t_not (t_tru (d_call (ok_is_part W) W.t_is_part.a W.t_is_part.d.kp g (hr.mono (by decide)) (takes_of rfl rfl rfl rfl) (a_cons (d_var 2) a_nil)))) (b_one s_never) b_nil)))
      (b_cons (s_expr (d_call (ok_check_parts W) W.t_check_parts.a W.t_check_parts.d.kp g hr (takes_of rfl rfl rfl rfl) (a_cons (d_var 1) a_nil)))
      (b_one (s_expr (d_upd (d_fld W.c_Book.cl W.n_Book_parts (d_var 0)) (a_cons (d_var 1) a_nil))))))⟩) (fun ds μ Q E h => ?_)
  unfold S_Book_change at h
  split at h
  · rename_i k kvs
    obtain ⟨j, vs, hb, hl, hk, hv, qe, q⟩ := h
    rw [show startD ["self", "parts", "part"] [.ob k, .fd kvs] = [some (.ob k), some (.fd kvs), none] from rfl]
    refine seq_step fun nx hnx => ?_
    push_cast [uIKeys]
    refine for_map (fun n ρ μ1 => μ1 = μ ∧ ∃ o, ρ = [some (.ob k), some (.fd kvs), o]) ⟨rfl, none, rfl⟩ (fun _ _ _ _ => by first | exact True.intro | rfl) ?_ ?_
    rotate_left
    · rintro n d ρ μ1 go he ⟨rfl, o, rfl⟩ kk
      rw [List.getElem?_map] at he
      obtain ⟨⟨key, v⟩, he', rfl⟩ := Option.map_eq_some_iff.mp he
      clear he
      obtain ⟨z, hz, e⟩ := hk _ (List.mem_of_getElem? he')
      have e : key = .inr z := e
      subst e
      push_cast [keyD, S_is_part]
      refine ⟨⟨.str, rfl, fun _ z => nomatch z⟩, ?_⟩
      rw [show oneF (.str z) PL = true from (oneF_str z PL).trans (decide_eq_true hz)]
      push_cast
      exact kk _ _ ⟨rfl, _, rfl⟩
    rintro ρ μ1 ⟨rfl, o, rfl⟩
    refine hnx _ _ ?_
    clear hnx nx
    refine seq_step fun nx hnx => ?_
    push_cast [S_check_parts]
    refine ⟨kvs, rfl, hv, fun p hp => .inl (qe p hp), fun h0 => hnx _ _ ?_⟩
    clear hnx nx
    push_cast [uBMD, v_obI hb.2.1]
    have h12 : (partsK vs).length = 12 := partsK_len' hb.1
    exact ⟨⟨j, _, rfl, hb.2.2⟩, partsK vs, kvs, hb.2.2, rfl, (fun z => nomatch z), by omega, .inl (q h0)⟩
  · exact h.elim

end
end Toy
set_option Elab.async false
set_option linter.all false
set_option maxRecDepth 100000
set_option maxHeartbeats 4000000
namespace Toy
open PySem PySem.Spec PyProof.Rows L2 DX
section
variable {P : Program} {w : World} {K : PySem.W.Frag} {mg : Str → Option Value} {base : Heap}
def S_Book_getitem (W : Wd P w K mg base) : DSp := fun ds μ Q _ => match ds with
  | [x, .str p] => ∃ (vs : List D) (i : Nat) (d : D), BookV W μ x vs ∧ PL[i]? = some p ∧ vs[i]? = some d ∧ Q d μ
  | _ => False

theorem ok_Book_getitem (W : Wd P w K mg base) : FnD P w K mg base 4 W.f_Book_getitem (S_Book_getitem W) := by
  refine (okB W.t_Book_getitem.d sc_Book_getitem (by (intro ds μ Q E h; unfold S_Book_getitem at h; split at h <;> first | rfl | exact h.elim)) _ (fun cdv A outer s H E' g hr => ⟨_, (b_cons (s_if (t_not (t_tru (d_call (ok_is_part W) W.t_is_part.a W.t_is_part.d.kp g hr (takes_of rfl rfl rfl rfl) (a_cons (d_var 1) a_nil)))) (b_one s_never) b_nil)
      (b_one (s_ret (d_dget (hu_of hr) (d_fld W.c_Book.cl W.n_Book_parts (d_var 0)) (d_var 1)))))⟩) (fun ds μ Q E h => ?_)).fn0 W.t_Book_getitem.b
  unfold S_Book_getitem at h
  split at h
  · rename_i x p
    obtain ⟨vs, i, d, ⟨h12, e, hv, he⟩, hp, hd, q⟩ := h
    rw [show startD ["self", "part"] [x, .str p] = [some (x), some (.str p)] from rfl]
    refine seq_step fun nx hnx => ?_
    push_cast [S_is_part]
    refine ⟨⟨.str, rfl, fun _ z => nomatch z⟩, ?_⟩
    rw [show oneF (.str p) PL = true from (oneF_str p PL).trans (decide_eq_true (List.mem_of_getElem? hp))]
    push_cast
    refine hnx _ _ ?_
    clear hnx nx
    push_cast [hv]
    exact ⟨partsK vs, _, d, he, rfl, parts_val h12 hp hd, .inl q⟩
  · exact h.elim

theorem ty_view {μ : Mem} {x : D} {C : Addr} {fs : List (Str × D)} (h : view μ x = .ins C fs) : tyOf μ x = some (.own C) := by
  cases x with
  | ob k =>
    have h : (match μ[k]? with | some (DX.M.lst ds) => D.lst ds | some (.ins C fs) => .ins C fs | _ => .ob k) = .ins C fs := h
    show (match μ[k]? with | some (DX.M.lst _) => some Ty.lst | some (.ins C _) => some (.own C) | some (.dic _) => some .dic | none => none) = _
    split at h <;> first | (cases h; done) | (cases h; rename_i e; rw [e])
  | ins C' fs' => cases h; rfl
  | _ => cases h
theorem hit_all {ls : List (Key × D)} : ∀ (ps : List Str) (vs us : List D), vs.length = ps.length → us.length = ps.length → (∀ (i : Nat) p u, ps[i]? = some p → us[i]? = some u → valD ls (.inr p) = some u) →
    (List.zipWith (fun p v => ((.inr p : Key), v)) ps vs).all (hitD ls) = deqvL vs us
  | [], [], [], _, _, _ => rfl
  | p :: ps, v :: vs, u :: us, h1, h2, h => by
    rw [List.zipWith_cons_cons, List.all_cons, hit_all ps vs us (Nat.succ.inj h1) (Nat.succ.inj h2) fun i p u hp hu => h (i + 1) p u hp hu]
    have e : hitD ls (.inr p, v) = deqv v u := by
      show (match valD ls (.inr p) with | some u => deqv v u | none => false) = _
      rw [h 0 p u rfl rfl]
    rw [e]; rfl
  | [], _ :: _, _, h, _, _ => nomatch h
  | [], [], _ :: _, _, h, _ => nomatch h
  | _ :: _, [], _, h, _, _ => nomatch h
  | _ :: _, _ :: _, [], _, h, _ => nomatch h
theorem partsK_len {vs : List D} (h : vs.length = 12) : (partsK vs).length = 12 := by
  have := congrArg List.length (partsK_keys h)
  rw [List.length_map] at this
  rw [this]; rfl
theorem deq_parts {vs us : List D} (h1 : vs.length = 12) (h2 : us.length = 12) : deqK (partsK vs) (partsK us) = deqvL vs us := by
  unfold deqK
  rw [partsK_len h1, partsK_len h2]
  show (true && (partsK vs).all (hitD (partsK us))) = _
  rw [Bool.true_and]
  exact hit_all PL vs us h1 h2 fun i p u hp hu => parts_val h2 hp hu
theorem flat_parts {vs : List D} (h : vs.length = 12) (hf : vs.all dflat = true) : dflatK (partsK vs) = true := by
  match vs, h with
  | [_, _, _, _, _, _, _, _, _, _, _, _], _ => exact hf
def S_Book_eq (W : Wd P w K mg base) : DSp := fun ds μ Q _ => match ds with
  | [x, y] => ∃ vs, BookV W μ x vs ∧ vs.all dflat = true ∧ ((∃ us, BookV W μ y us ∧ us.all dflat = true ∧ Q (.bl (deqvL vs us)) μ) ∨ ((∃ t, tyOf μ y = some t ∧ ∀ C, t ≠ .own C) ∧ Q (.bl false) μ))
  | _ => False

theorem ok_Book_eq (W : Wd P w K mg base) : FnD P w K mg base 2 W.f_Book_eq (S_Book_eq W) := by
  refine (okB W.t_Book_eq.d sc_Book_eq (by (intro ds μ Q E h; unfold S_Book_eq at h; split at h <;> first | rfl | exact h.elim)) _ (fun cdv A outer s H E' g hr => ⟨_, (b_one (s_ret (d_and (d_isO W.c_Book.k W.z_isinstance W.c_Book.a (d_var 1)) (d_one (d_cmp (op_eqK hr.units) sim_eqK (d_fld W.c_Book.cl W.n_Book_parts (d_var 0)) (d_fld W.c_Book.cl W.n_Book_parts (d_var 1)) (nomark _))))))⟩) (fun ds μ Q E h => ?_)).fn0 W.t_Book_eq.b
  unfold S_Book_eq at h
  split at h
  · rename_i x y
    obtain ⟨vs, ⟨h12, e, hv, he⟩, hf, h⟩ := h
    rw [show startD ["self", "other"] [x, y] = [some (x), some (y)] from rfl]
    push_cast
    rcases h with ⟨us, ⟨g12, e2, hv2, he2⟩, hf2, q⟩ | ⟨⟨t, ht, ho⟩, q⟩
    · rw [ty_view hv2]
      refine ⟨W.c_Book.o, true, W.c_Book.s, ?_⟩
      push_cast [hv, hv2]
      refine ⟨_, _, he, he2, flat_parts h12 hf, flat_parts g12 hf2, .inl ?_⟩
      rw [deq_parts h12 g12]
      exact q
    · rw [ht]
      cases t <;> first | exact absurd rfl (ho _) | exact .inl q
  · exact h.elim

end
end Toy
set_option Elab.async false
set_option linter.all false
set_option maxRecDepth 100000
set_option maxHeartbeats 4000000
namespace Toy
open PySem PySem.Spec PyProof.Rows L2 DX
section
variable {P : Program} {w : World} {K : PySem.W.Frag} {mg : Str → Option Value} {base : Heap}
def ynS (b : Bool) : Str := if b = true then "yes" else "no"
def S_truth_word (W : Wd P w K mg base) : DSp := fun ds μ Q _ => match ds with
  | [.bl b] => Q (.str (ynS b)) μ
  | _ => False

theorem ok_truth_word (W : Wd P w K mg base) : FnD P w K mg base 2 W.f_truth_word (S_truth_word W) := by
  refine (okB W.t_truth_word.d sc_truth_word (by (intro ds μ Q E h; unfold S_truth_word at h; split at h <;> first | rfl | exact h.elim)) _ (fun cdv A outer s H E' g hr => ⟨_, (b_one (s_ret (d_ifExp (t_tru (d_var 0)) d_str d_str)))⟩) (fun ds μ Q E h => ?_)).fn0 W.t_truth_word.b
  unfold S_truth_word at h
  split at h
  · rename_i b
    rw [show startD ["value"] [.bl b] = [some (.bl b)] from rfl]
    push_cast
    cases b <;> exact .inl h
  · exact h.elim

def valF (z : Str) : D := (valD [((.inr "yes" : Key), .bl true), (.inr "no", .bl false)] (.inr z)).getD (.str z)
def S_value_of (W : Wd P w K mg base) : DSp := fun ds μ Q _ => match ds with
  | [.str z] => Q (valF z) μ
  | _ => False

theorem ok_value_of (W : Wd P w K mg base) : FnD P w K mg base 2 W.f_value_of (S_value_of W) := by
  refine (okB W.t_value_of.d sc_value_of (by (intro ds μ Q E h; unfold S_value_of at h; split at h <;> first | rfl | exact h.elim)) _ (fun cdv A outer s H E' g hr => ⟨_, (b_one (s_ret (d_kget2 (d_glob W.g_TRUTHS.m W.g_TRUTHS.r W.g_TRUTHS.p) (d_var 0) (d_var 0))))⟩) (fun ds μ Q E h => ?_)).fn0 W.t_value_of.b
  unfold S_value_of at h
  split at h
  · rename_i z
    rw [show startD ["word"] [.str z] = [some (.str z)] from rfl]
    push_cast [uKGet2]
    exact ⟨_, rfl, z, rfl, .inl h⟩
  · exact h.elim

/-- what is known of a good value -/
structure OkP (p : Str) (d : D) : Prop where
  a : allowB p d = true
  v : valWB d = true
  f : dflat d = true
  l : dlay d = true
theorem strOk_app {a b : Str} (ha : PyData.strOk a = true) (hb : PyData.strOk b = true) : PyData.strOk (a ++ b) = true := by
  show (a.cps ++ b.cps).all _ = true
  rw [Array.all_append]
  rw [show a.cps.all (· < 0x110000) = true from ha, show b.cps.all (· < 0x110000) = true from hb]; rfl
theorem strOk_join : ∀ {ws : List Str}, (∀ z ∈ ws, PyData.strOk z = true) → PyData.strOk (Str.join " " ws) = true
  | [], _ => by decide +kernel
  | [a], h => h a List.mem_cons_self
  | a :: b :: r, h => strOk_app (strOk_app (h a List.mem_cons_self) (by decide +kernel)) (strOk_join (ws := b :: r) fun z hz => h z (List.mem_cons_of_mem _ hz))
theorem okP_words {k : Nat} {ws : List Str} (g : Good k ws) (hs : ws.all PyData.strOk = true) {p : Str} (ha : allowB p (.str (Txt.join " " ws)) = true) : OkP p (.str (Txt.join " " ws)) := by
  refine ⟨ha, ?_, rfl, ?_⟩
  · have := g.len
    rw [← TL.join_eq] at this
    exact decide_eq_true (Nat.le_trans this (by decide))
  · show PyData.strOk (Txt.join " " ws) = true
    rw [TL.join_eq]
    exact strOk_join fun z hz => List.all_eq_true.mp hs z hz
theorem cut_good {k : Nat} {ws : List Str} (g : Good k ws) : wordsF (.str (Txt.join " " ws)) = ws := by
  show Txt.split (Txt.join " " ws) " " = ws
  rw [TL.join_eq]; exact g.cut
theorem okWL : ∀ ws ∈ WL, ws.all PyData.strOk = true := by decide +kernel
theorem okCL : ∀ ws ∈ CL, ws.all PyData.strOk = true := by decide +kernel
theorem okRL : ∀ ws ∈ RL, ws.all PyData.strOk = true := by decide +kernel
/-- the line of a part -/
def wordF (d : D) : Str := match d with
  | .bl b => ynS b
  | .str z => z
  | _ => ""
def lineF (p : Str) (d : D) : Str := p ++ " = " ++ wordF d
/-- a value that a text can hold -/
structure TxP (p : Str) (d : D) : Prop where
  ok : OkP p d
  k : (∃ b, d = .bl b) ∨ ∃ z, d = .str z
  v : valF (wordF d) = d
  n : (wordF d).length ≤ 100
  l : 10 ∉ TL.tl (wordF d)
theorem PL_len : ∀ p ∈ PL, p.length ≤ 9 := by decide +kernel
theorem yn_len (b : Bool) : (ynS b).length ≤ 3 := by cases b <;> decide +kernel
theorem line_len {p : Str} {d : D} (hp : p ∈ PL) (o : TxP p d) : (lineF p d).length ≤ 112 := by
  unfold lineF
  rw [app_len, app_len, show (" = " : Str).length = 3 from by decide +kernel]
  have := PL_len p hp
  have := o.n
  omega
theorem sum_le {n : Nat} : ∀ {ws : List Str}, (∀ z ∈ ws, z.length ≤ n) → (ws.map (·.length)).sum ≤ n * ws.length
  | [], _ => Nat.zero_le _
  | a :: r, h => by
    have h1 := sum_le (ws := r) fun z hz => h z (List.mem_cons_of_mem _ hz)
    have h2 := h a List.mem_cons_self
    rw [List.map_cons, List.sum_cons, List.length_cons, Nat.mul_add]; omega

def S_line (W : Wd P w K mg base) : DSp := fun ds μ Q _ => match ds with
  | [x, .str p] => ∃ (vs : List D) (i : Nat) (d : D), BookV W μ x vs ∧ PL[i]? = some p ∧ vs[i]? = some d ∧ TxP p d ∧ Q (.str (lineF p d)) μ
  | _ => False

theorem ok_line (W : Wd P w K mg base) : FnD P w K mg base 6 W.f_line (S_line W) := by
  refine (okB W.t_line.d sc_line (by (intro ds μ Q E h; unfold S_line at h; split at h <;> first | rfl | exact h.elim)) _ (fun cdv A outer s H E' g hr => ⟨_, (b_cons (s_set 2 sc_line.nd (d_getO W.gi_Book (ok_Book_getitem W) g hr (takes_of rfl rfl rfl rfl) (d_var 0) (d_var 1)))
      (b_one (s_ret (d_op (op_addA rfl) sim_add (d_op (op_addA rfl) sim_add (d_var 1) (d_glob W.g_SIGN.m W.g_SIGN.r W.g_SIGN.p)) (d_ifExp (t_tru (d_isB .bl (by intro _ z; cases z) rfl W.z_isinstance W.z_bool (d_var 2))) (d_call (ok_truth_word W) W.t_truth_word.a W.t_truth_word.d.kp g (hr.mono (by decide)) (takes_of rfl rfl rfl rfl) (a_cons (d_var 2) a_nil)) (d_var 2))))))⟩) (fun ds μ Q E h => ?_)).fn0 W.t_line.b
  unfold S_line at h
  split at h
  · rename_i x p
    obtain ⟨vs, i, d, hb, hp, hd, o, q⟩ := h
    rw [show startD ["book", "part", "value"] [x, .str p] = [some (x), some (.str p), none] from rfl]
    refine seq_step fun nx hnx => ?_
    obtain ⟨dv, hv0, he0⟩ := hb.2
    push_cast [S_Book_getitem, hv0]
    refine ⟨vs, i, d, ⟨hb.1, dv, hv0, he0⟩, hp, hd, hnx _ _ ?_⟩
    clear hnx nx
    have hl := PL_len p (List.mem_of_getElem? hp)
    have e3 : (Str.ofString " = ").length = 3 := by decide +kernel
    have hn := o.n
    rcases o.k with ⟨b, rfl⟩ | ⟨z, rfl⟩
    · push_cast [S_truth_word]
      have := yn_len b
      exact ⟨by rw [e3, sizeLine_eq]; omega, by rw [app_len, e3, sizeLine_eq]; omega, .inl q⟩
    · push_cast
      have hn : z.length ≤ 100 := hn
      exact ⟨by rw [e3, sizeLine_eq]; omega, by rw [app_len, e3, sizeLine_eq]; omega, .inl q⟩
  · exact h.elim

theorem fmI_same (f : Nat → Option D) : ∀ (n : Nat) (ds es : List D), ds.length = es.length → fmI (fun i _ => f i) n ds = fmI (fun i _ => f i) n es
  | _, [], [], _ => rfl
  | n, d :: ds, e :: es, h => by
    show (f n).toList ++ fmI _ (n + 1) ds = (f n).toList ++ fmI _ (n + 1) es
    rw [fmI_same f (n + 1) ds es (Nat.succ.inj h)]
  | _, [], _ :: _, h => nomatch h
  | _, _ :: _, [], h => nomatch h
def TxB (vs : List D) : Prop := ∀ (i : Nat) p d, PL[i]? = some p → vs[i]? = some d → TxP p d
def linesF (vs : List D) : List Str := List.zipWith lineF PL vs

def S_book_text (W : Wd P w K mg base) : DSp := fun ds μ Q _ => match ds with
  | [x] => ∃ vs : List D, BookV W μ x vs ∧ TxB vs ∧ Q (.str (Txt.join "\n" (linesF vs))) μ
  | _ => False

theorem ok_book_text (W : Wd P w K mg base) : FnD P w K mg base 7 W.f_book_text (S_book_text W) := by
  refine (okB W.t_book_text.d sc_book_text (by (intro ds μ Q E h; unfold S_book_text at h; split at h <;> first | rfl | exact h.elim)) _ (fun cdv A outer s H E' g hr => ⟨_, (b_one (s_ret (d_m1 F.slot_str_join F.type_str_join (mt_joinA rfl) sim_join d_str (d_lc false [("part", 1)] sc_book_text.nd (i_seq (d_glob W.g_PARTS.m W.g_PARTS.r W.g_PARTS.p)) (blkOk_by (own := [("part", 1)]) (N := ["book", "part"]) (sc := defScope s_book_text) (by decide +kernel)) (fun _ _ _ _ _ => (g_name 1 sc_book_text.nd)) (fun _ _ _ _ _ => ts_nil) (fun _ _ _ _ _ => (d_call (ok_line W) W.t_line.a W.t_line.d.kp g hr takes0 (a_cons (d_var 0) (a_cons (d_var 1) a_nil)))) (wip_name (by decide)) mono_name))))⟩) (fun ds μ Q E h => ?_)).fn0 W.t_book_text.b
  unfold S_book_text at h
  split at h
  · rename_i x
    obtain ⟨vs, hb, ht, q⟩ := h
    rw [show startD ["book", "part"] [x] = [some (x), none] from rfl]
    push_cast
    have hlen : (linesF vs).length = 12 := by
      unfold linesF
      rw [List.length_zipWith, hb.1]; rfl
    refine lc_pure (fun i _ => ((linesF vs).map D.str)[i]?) (by decide) (by first | trivial | rfl) ?_ ?_
    · intro k e acc go he hacc kk
      have he : (PL.map D.str)[k]? = some e := he
      rw [List.getElem?_map] at he
      obtain ⟨p, hp, rfl⟩ := Option.map_eq_some_iff.mp he
      obtain ⟨d, hd, _⟩ := parts_get hb.1 hp
      have el : (linesF vs)[k]? = some (lineF p d) := by unfold linesF; rw [List.getElem?_zipWith, hp, hd]
      rw [List.getElem?_map, el] at kk
      push_cast [S_line]
      exact ⟨vs, k, d, hb, hp, hd, ht k p d hp hd, hacc, kk⟩
    rw [show [D.str (Str.ofString "writer"), D.str (Str.ofString "cleaner"), D.str (Str.ofString "reader"),
      D.str (Str.ofString "horizon"), D.str (Str.ofString "pins"), D.str (Str.ofString "cleared"),
      D.str (Str.ofString "sets"), D.str (Str.ofString "force"), D.str (Str.ofString "ahead"),
      D.str (Str.ofString "first"), D.str (Str.ofString "waits"), D.str (Str.ofString "follower")] = PL.map D.str from rfl]
    rw [fmI_same (fun i => ((linesF vs).map D.str)[i]?) 0 (PL.map .str) (dints 0 ((linesF vs).map D.str).length) (by rw [dints_len, List.length_map, List.length_map, hlen]; rfl), fmI_get]
    refine ⟨linesF vs, .inl rfl, ?_, .inl q⟩
    have hs := sum_le (n := 112) (ws := linesF vs) fun z hz => by
      obtain ⟨i, hi⟩ := List.getElem?_of_mem hz
      unfold linesF at hi
      rw [List.getElem?_zipWith] at hi
      cases hp : PL[i]? with
      | none => rw [hp] at hi; cases hi
      | some p =>
        cases hd : vs[i]? with
        | none => rw [hp, hd] at hi; cases hi
        | some d =>
          rw [hp, hd] at hi
          cases hi
          exact line_len (List.mem_of_getElem? hp) (ht i p d hp hd)
    rw [hlen] at hs ⊢
    rw [show (Str.ofString "\n").length = 1 from by decide +kernel]
    omega
  · exact h.elim

end
end Toy
set_option Elab.async false
set_option linter.all false
set_option maxRecDepth 100000
set_option maxHeartbeats 4000000
namespace Toy
open PySem PySem.Spec PyProof.Rows L2 DX
section
variable {P : Program} {w : World} {K : PySem.W.Frag} {mg : Str → Option Value} {base : Heap}
theorem okp_Book_init (W : Wd P w K mg base) (ks : List Str) (h : kwOk ["self"] PL ks [] = true) : FnC P w K mg base 7 W.f_Book_init ks (kwS 1 ks.length [] (fun us ws mv => gsel (selOf PL ks) us ws mv) (S_Book_init W)) :=
  (okb_Book_init W).kwsel (mv := []) (mw := []) (md := []) (selOf PL ks) .nil (fun _ _ => .nil) (W.kp_Book_init ks h)
theorem splitN {ls : List Str} (hne : ls ≠ []) (hp : ∀ z ∈ ls, 10 ∉ TL.tl z) : Txt.split (Str.join "\n" ls) "\n" = ls := by
  rw [← TL.join_eq]
  exact TL.split_join (s := 10) (S := []) (by decide +kernel) (by decide +kernel) hne hp
theorem joinN_len {n : Nat} : ∀ {ws : List Str}, (∀ z ∈ ws, z.length ≤ n) → (Str.join "\n" ws).length ≤ (n + 1) * ws.length
  | [], _ => Nat.zero_le _
  | [a], h => by
    show a.length ≤ (n + 1) * 1
    have := h a List.mem_cons_self
    omega
  | a :: b :: r, h => by
    show (a ++ ("\n" : Str) ++ Str.join "\n" (b :: r)).length ≤ (n + 1) * ((b :: r).length + 1)
    have ih := joinN_len (n := n) (ws := b :: r) fun z hz => h z (List.mem_cons_of_mem _ hz)
    have ha := h a List.mem_cons_self
    rw [app_len, app_len, Nat.mul_add]
    have e : ("\n" : Str).length = 1 := by decide +kernel
    omega
theorem PL_word : ∀ p ∈ PL, 32 ∉ TL.tl p ∧ 10 ∉ TL.tl p := by decide +kernel
theorem line_cut {p : Str} {d : D} (hp : p ∈ PL) : Txt.partition (lineF p d) (Str.ofString " = ") = (p, Str.ofString " = ", wordF d) := TL.partition_app (y := Str.ofString " = ") (s := 32) (S := [61, 32]) (by decide +kernel) (PL_word p hp).1
theorem line_nl {p : Str} {d : D} (hp : p ∈ PL) (o : TxP p d) : 10 ∉ TL.tl (lineF p d) := by
  unfold lineF
  rw [TL.tl_append, TL.tl_append, List.mem_append, List.mem_append]
  rintro ((h | h) | h)
  · exact (PL_word p hp).2 h
  · exact absurd h (by decide +kernel)
  · exact o.l h
theorem idxOf_at {p : Str} : ∀ {l : List Str} {m : Nat}, l.Nodup → l[m]? = some p → l.idxOf p = m
  | [], _, _, h => nomatch h
  | a :: l, 0, _, h => by cases h; simp
  | a :: l, m + 1, hn, h => by
    rw [List.nodup_cons] at hn
    have h' : l[m]? = some p := h
    have ne : (a == p) = false := by simpa using fun e : a = p => hn.1 (by rw [e]; exact List.mem_of_getElem? h')
    rw [List.idxOf_cons, ne, idxOf_at hn.2 h']; rfl
def kvOf (vs : List D) (js : List Nat) : List (Key × D) := js.map fun j => ((.inr (PL.getD j "") : Key), vs.getD j .non)
theorem valD_none {k : Key} : ∀ {kvs : List (Key × D)}, (∀ x ∈ kvs, x.1 ≠ k) → valD kvs k = none
  | [], _ => rfl
  | (n, v) :: r, h => by
    rw [valD_cons, if_neg (h _ List.mem_cons_self)]
    exact valD_none fun x hx => h x (List.mem_cons_of_mem _ hx)
theorem dput_new {k : Key} {v : D} {kvs : List (Key × D)} (h : ∀ x ∈ kvs, x.1 ≠ k) : dputK kvs k v = kvs ++ [(k, v)] := by
  unfold dputK
  rw [if_neg]
  intro e
  obtain ⟨x, hx, hk⟩ := List.any_eq_true.mp e
  exact h x hx (of_decide_eq_true hk)
theorem PLD {j : Nat} {p : Str} (h : PL[j]? = some p) : PL.getD j "" = p := by rw [List.getD_eq_getElem?_getD, h]; rfl
theorem vsD {vs : List D} {j : Nat} {d : D} (h : vs[j]? = some d) : vs.getD j .non = d := by rw [List.getD_eq_getElem?_getD, h]; rfl
theorem kv_new {vs : List D} {js : List Nat} {j : Nat} {p : Str} (hj : ∀ i ∈ js, i < 12 ∧ i ≠ j) (hp : PL[j]? = some p) : ∀ x ∈ kvOf vs js, x.1 ≠ .inr p := fun x hx e => by
  obtain ⟨i, hi, rfl⟩ := List.mem_map.mp hx
  obtain ⟨h1, h2⟩ := hj i hi
  obtain ⟨z, hz⟩ : ∃ z, PL[i]? = some z := ⟨_, List.getElem?_eq_getElem (show i < PL.length from h1)⟩
  have e := Sum.inr.inj e
  rw [PLD hz] at e
  exact h2 (PL_at hz (by rw [e]; exact hp))
theorem sel_all {ks : List Str} {vals : List D} : ∀ {l : List Str} {us : List D}, l.length = us.length → (∀ (i : Nat) p u, l[i]? = some p → us[i]? = some u → vals[ks.idxOf p]? = some u) → (selOf l ks).flatMap (fun i => ((vals ++ [])[i]?).toList) = us
  | [], [], _, _ => rfl
  | p :: l, u :: us, h, hs => by
    have h0 := hs 0 p u rfl rfl
    have ih := sel_all (l := l) (us := us) (Nat.succ.inj h) fun i p u hp hu => hs (i + 1) p u hp hu
    show ((vals ++ [])[ks.idxOf p]?).toList ++ (selOf l ks).flatMap (fun i => ((vals ++ [])[i]?).toList) = _
    rw [ih, List.append_nil, h0]; rfl
  | [], _ :: _, h, _ => nomatch h
  | _ :: _, [], h, _ => nomatch h

def S_read_book (W : Wd P w K mg base) : DSp := fun ds μ Q _ => match ds with
  | [.str t] => ∃ (js : List Nat) (vs : List D) (ls : List Str), vs.length = 12 ∧ TxB vs ∧ js.length = 12 ∧ js.Nodup ∧ (∀ j ∈ js, j < 12) ∧ (∀ i, i < 12 → i ∈ js) ∧ ls.length = 12 ∧ (∀ (n j : Nat) p d, js[n]? = some j → PL[j]? = some p → vs[j]? = some d → ls[n]? = some (lineF p d)) ∧ t = Txt.join "\n" ls ∧
    ∀ kvs, Q (.ob (μ.length + 1)) (μ ++ [.dic kvs, .ins W.C_Book [("_parts", .ob (μ.length + 2))], .dic (partsK vs)])
  | _ => False

theorem ok_read_book (W : Wd P w K mg base) : FnD P w K mg base 9 W.f_read_book (S_read_book W) := by
  refine (okB W.t_read_book.d sc_read_book (by (intro ds μ Q E h; unfold S_read_book at h; split at h <;> first | rfl | exact h.elim)) _ (fun cdv A outer s H E' g hr => ⟨_, (b_cons (s_if (t_not (t_tru (d_isB .str (by intro _ z; cases z) rfl W.z_isinstance W.z_str (d_var 0)))) (b_one s_never) b_nil)
      (b_cons (s_set 1 sc_read_book.nd (d_m1 F.slot_str_split F.type_str_split mt_split sim_split (d_var 0) d_str))
      (b_cons (s_set 2 sc_read_book.nd d_dnew)
      (b_cons (s_for (passes_of rfl) (i_enum W.z_enumerate (a_cons (d_var 1) a_nil)) (g_un 2 (gs_cons (g_name 3 sc_read_book.nd) (gs_cons (g_name 4 sc_read_book.nd) gs_nil)))
      (b_cons (s_asg (d_m1 F.slot_str_partition F.type_str_partition mt_partition sim_partition (d_var 4) (d_glob W.g_SIGN.m W.g_SIGN.r W.g_SIGN.p)) (g_un 3 (gs_cons (g_name 5 sc_read_book.nd) (gs_cons (g_name 6 sc_read_book.nd) (gs_cons (g_name 7 sc_read_book.nd) gs_nil)))))
      (b_cons (s_if (WD.td (w_or (t_not (t_tru (d_call (ok_is_part W) W.t_is_part.a W.t_is_part.d.kp g (hr.mono (by decide)) (takes_of rfl rfl rfl rfl) (a_cons (d_var 5) a_nil)))) (w_or (t_cmp (op_inK (hu_of hr) rfl) sim_inK (d_var 5) (d_var 2) (by rfl)) (w_or1 (t_not (t_tru (d_call (ok_is_allowed W) W.t_is_allowed.a W.t_is_allowed.d.kp g (hr.mono (by decide)) (takes_of rfl rfl rfl rfl) (a_cons (d_var 5) (a_cons (d_call (ok_value_of W) W.t_value_of.a W.t_value_of.d.kp g (hr.mono (by decide)) (takes_of rfl rfl rfl rfl) (a_cons (d_var 7) a_nil)) a_nil))))))))) (b_one s_never) b_nil)
      (b_one (s_dput (hu_of hr) (d_var 2) (d_var 5) (d_call (ok_value_of W) W.t_value_of.a W.t_value_of.d.kp g (hr.mono (by decide)) (takes_of rfl rfl rfl rfl) (a_cons (d_var 7) a_nil)))))))
      (b_cons (s_for (passes_of rfl) (i_seq (d_glob W.g_PARTS.m W.g_PARTS.r W.g_PARTS.p)) (g_name 5 sc_read_book.nd)
      (b_one (s_if (t_cmp (op_notInK (hu_of hr)) sim_notInK (d_var 5) (d_var 2) (by rfl)) (b_one s_never) b_nil)))
      (b_one (s_ret (d_makeKP (P := fun ks => kwOk ["self"] ["writer", "cleaner", "reader", "horizon", "pins", "cleared", "sets", "force", "ahead", "first", "waits", "follower"] ks [] = true) (Sf := fun ks => kwS 1 ks.length [] (fun us ws mv => gsel (selOf ["writer", "cleaner", "reader", "horizon", "pins", "cleared", "sets", "force", "ahead", "first", "waits", "follower"] ks) us ws mv) (S_Book_init W)) true W.mk_Book (okp_Book_init W) W.c_Book.a g hr (takes_of rfl rfl rfl rfl) (d_var 2)))))))))⟩) (fun ds μ Q E h => ?_)).fn0 W.t_read_book.b
  unfold S_read_book at h
  split at h
  · rename_i t
    obtain ⟨js, vs, ls, hl, ht, hj, hnd, hlt, hall, hls, hline, rfl, q⟩ := h
    rw [show startD ["text", "lines", "parts", "at", "line", "part", "_", "word"] [.str (Txt.join "\n" ls)] = [some (.str (Txt.join "\n" ls)), none, none, none, none, none, none, none] from rfl]
    have at_ : ∀ (n : Nat), n < 12 → ∃ (j : Nat) (p : Str) (d : D), js[n]? = some j ∧ PL[j]? = some p ∧ vs[j]? = some d ∧ ls[n]? = some (lineF p d) ∧ TxP p d := fun n hn => by
      obtain ⟨j, hjn⟩ : ∃ j, js[n]? = some j := ⟨_, List.getElem?_eq_getElem (by omega)⟩
      have hj12 := hlt j (List.mem_of_getElem? hjn)
      obtain ⟨p, hp⟩ : ∃ p, PL[j]? = some p := ⟨_, List.getElem?_eq_getElem (show j < PL.length from hj12)⟩
      obtain ⟨d, hd⟩ : ∃ d, vs[j]? = some d := ⟨_, List.getElem?_eq_getElem (by omega)⟩
      exact ⟨j, p, d, hjn, hp, hd, hline n j p d hjn hp hd, ht j p d hp hd⟩
    refine seq_step fun nx hnx => ?_
    push_cast
    refine hnx _ _ ?_
    clear hnx nx
    refine seq_step fun nx hnx => ?_
    have mem_ : ∀ z ∈ ls, ∃ (p : Str) (d : D), z = lineF p d ∧ p ∈ PL ∧ TxP p d := fun z hz => by
      obtain ⟨n, hn⟩ := List.getElem?_of_mem hz
      obtain ⟨j, p, d, _, hp, _, hl2, o⟩ := at_ n (by rw [← hls]; exact lt_of_at hn)
      rw [hn] at hl2
      exact ⟨p, d, Option.some.inj hl2, List.mem_of_getElem? hp, o⟩
    have hlen := joinN_len (n := 112) (ws := ls) fun z hz => by
      obtain ⟨p, d, rfl, hp, o⟩ := mem_ z hz
      exact line_len hp o
    rw [hls] at hlen
    have hsp : Txt.split (Txt.join (Str.ofString "\n") ls) (Str.ofString "\n") = ls := by
      rw [TL.join_eq]
      exact splitN (fun e => by rw [e] at hls; cases hls) fun z hz => by
        obtain ⟨p, d, rfl, hp, o⟩ := mem_ z hz
        exact line_nl hp o
    push_cast
    refine ⟨by decide +kernel, by rw [TL.join_eq, sizeLine_eq]; exact Nat.le_trans (Nat.add_le_add_right hlen 2) (by decide), ?_⟩
    rw [hsp]
    refine hnx _ _ ?_
    clear hnx nx hsp hlen
    generalize Txt.join (Str.ofString "\n") ls = t
    refine seq_step fun nx hnx => ?_
    push_cast [uDNew]
    refine hnx _ _ ?_
    clear hnx nx
    refine seq_step fun nx hnx => ?_
    push_cast
    refine for_map (fun n ρ μ1 => ∃ o3 o4 o5 o6 o7 : Option D, μ1 = μ ++ [.dic (kvOf vs (js.take n))] ∧ ρ = [some (.str t), some (.lst (ls.map .str)), some (.ob μ.length), o3, o4, o5, o6, o7])
      ⟨none, none, none, none, none, rfl, rfl⟩ (fun _ _ _ _ => by first | exact True.intro | rfl) ?_ ?_
    rotate_left
    · rintro n e ρ μ1 go he ⟨o3, o4, o5, o6, o7, rfl, rfl⟩ kk
      have hn := lt_of_at he
      rw [denum_len, List.length_map, hls] at hn
      obtain ⟨j, p, d, hjn, hp, hd, hln, o⟩ := at_ n hn
      obtain ⟨x, hx, rfl⟩ := denum_get he
      rw [List.getElem?_map, hln] at hx
      cases hx
      have hpm := List.mem_of_getElem? hp
      have hln2 := line_len hpm o
      have nw : ∀ x ∈ kvOf vs (js.take n), x.1 ≠ .inr p := kv_new (j := j) (fun i hi => ⟨hlt i (List.mem_of_mem_take hi), fun e => by
        subst e
        obtain ⟨m, hm⟩ := List.getElem?_of_mem hi
        have hmn := lt_of_at hm
        rw [List.length_take] at hmn
        rw [List.getElem?_take_of_lt (by omega)] at hm
        have := (List.getElem?_inj (by omega) hnd).mp (hm.trans hjn.symm)
        omega⟩) hp
      push_cast [dPartition]
      refine ⟨by decide +kernel, by rw [sizeLine_eq]; exact Nat.le_trans hln2 (by decide), ?_⟩
      rw [line_cut hpm]
      push_cast [S_is_part]
      refine ⟨⟨.str, rfl, fun _ z => nomatch z⟩, ?_⟩
      rw [show oneF (.str p) PL = true from (oneF_str p PL).trans (decide_eq_true hpm)]
      push_cast
      refine ⟨kvOf vs (js.take n), .inr p, rfl, .inl ⟨dicAt_ob at_r0, ?_⟩⟩
      rw [valD_none nw]
      push_cast [S_value_of, S_is_allowed, Option.isSome_none]
      rw [o.v]
      refine ⟨valW_b o.ok.v, ?_⟩
      rw [o.ok.a]
      push_cast
      refine ⟨_, _, _, rfl, at_r0, rfl, Nat.lt_of_le_of_lt (show (kvOf vs (js.take n)).length ≤ 12 by unfold kvOf; rw [List.length_map, List.length_take]; omega) (by decide), ?_⟩
      rw [dput_new nw, set_r0, List.set_cons_zero]
      refine kk _ _ ⟨_, _, _, _, _, ?_, rfl⟩
      unfold kvOf
      rw [List.take_add_one, hjn, List.map_append]
      show _ = μ ++ [M.dic (List.map _ (js.take n) ++ [((.inr (PL.getD j "") : Key), vs.getD j .non)])]
      rw [PLD hp, vsD hd]
    rintro ρ μ1 ⟨o3, o4, o5, o6, o7, rfl, rfl⟩
    refine hnx _ _ ?_
    clear hnx nx
    rw [denum_len, List.length_map, hls, ← hj, List.take_length]
    refine seq_step fun nx hnx => ?_
    have kvnd : ((kvOf vs js).map (·.1)).Nodup := by
      unfold kvOf
      rw [List.map_map]
      refine List.pairwise_map.mpr (hnd.imp_of_mem fun {x y} hx hy ne e => ne ?_)
      obtain ⟨z, hz⟩ : ∃ z, PL[x]? = some z := ⟨_, List.getElem?_eq_getElem (show x < PL.length from hlt x hx)⟩
      obtain ⟨w, hw⟩ : ∃ z, PL[y]? = some z := ⟨_, List.getElem?_eq_getElem (show y < PL.length from hlt y hy)⟩
      have e : (Sum.inr (PL.getD x "") : Key) = .inr (PL.getD y "") := e
      have e := Sum.inr.inj e
      rw [PLD hz, PLD hw] at e
      exact PL_at hz (by rw [e]; exact hw)
    push_cast
    refine for_map (fun n ρ μ1 => ∃ o3 o4 o5 o6 o7 : Option D, μ1 = μ ++ [.dic (kvOf vs js)] ∧ ρ = [some (.str t), some (.lst (ls.map .str)), some (.ob μ.length), o3, o4, o5, o6, o7])
      ⟨o3, o4, o5, o6, o7, rfl, rfl⟩ (fun _ _ _ _ => by first | exact True.intro | rfl) ?_ ?_
    rotate_left
    · rintro n e ρ μ1 go he ⟨o3, o4, o5, o6, o7, rfl, rfl⟩ kk
      have he : (PL.map D.str)[n]? = some e := he
      rw [List.getElem?_map] at he
      obtain ⟨p, hp, rfl⟩ := Option.map_eq_some_iff.mp he
      have hn12 : n < 12 := lt_of_at hp
      push_cast
      obtain ⟨m, hm⟩ := List.getElem?_of_mem (hall n hn12)
      obtain ⟨d, hd⟩ : ∃ d, vs[n]? = some d := ⟨_, List.getElem?_eq_getElem (by omega)⟩
      have hv : valD (kvOf vs js) (.inr p) = some d := valD_at kvnd (i := m) (by unfold kvOf; rw [List.getElem?_map, hm, Option.map_some, PLD hp, vsD hd])
      refine ⟨kvOf vs js, .inr p, rfl, .inl ⟨dicAt_ob at_r0, ?_⟩⟩
      rw [hv]
      exact kk _ _ ⟨_, _, _, _, _, rfl, rfl⟩
    rintro ρ μ1 ⟨o3, o4, o5, o6, o7, rfl, rfl⟩
    refine hnx _ _ ?_
    clear hnx nx
    push_cast [uMakeKP]
    have ek : (kvOf vs js).map (·.1) = (js.map fun j => PL.getD j "").map Sum.inr := by
      unfold kvOf
      rw [List.map_map, List.map_map]; rfl
    have knd : (js.map fun j => PL.getD j "").Nodup := by
      rw [ek] at kvnd
      exact (List.pairwise_map.mp kvnd).imp fun h e => h (by rw [e])
    have kat : ∀ (i : Nat) p, PL[i]? = some p → ∃ m, js[m]? = some i ∧ (js.map fun j => PL.getD j "").idxOf p = m := fun i p hp => by
      obtain ⟨m, hm⟩ := List.getElem?_of_mem (hall i (lt_of_at hp))
      exact ⟨m, hm, idxOf_at knd (by rw [List.getElem?_map, hm, Option.map_some, PLD hp])⟩
    refine ⟨js.map fun j => PL.getD j "", ?_, kvOf vs js, dicAt_ob at_r0, ek, ?_⟩
    · show kwOk [Str.ofString "self"] PL _ [] = true
      have kin : ∀ k ∈ (js.map fun j => PL.getD j ""), k ∈ PL := fun k hk => by
        obtain ⟨j, hj', rfl⟩ := List.mem_map.mp hk
        obtain ⟨z, hz⟩ : ∃ z, PL[j]? = some z := ⟨_, List.getElem?_eq_getElem (show j < PL.length from hlt j hj')⟩
        rw [PLD hz]; exact List.mem_of_getElem? hz
      unfold kwOk
      simp only [Bool.and_eq_true, decide_eq_true_iff, List.all_eq_true]
      refine ⟨fun k hk => by simpa using kin k hk, ?_, by decide +kernel, ?_⟩
      · rw [List.singleton_append, List.nodup_cons]
        exact ⟨fun h => absurd (kin _ h) (by decide +kernel), knd⟩
      · refine List.filter_eq_nil_iff.mpr fun k hk => ?_
        obtain ⟨i, hi⟩ := List.getElem?_of_mem hk
        have : k ∈ (js.map fun j => PL.getD j "") := List.mem_map.mpr ⟨i, hall i (lt_of_at hi), PLD hi⟩
        simpa using this
    · have hkl : ((kvOf vs js).map (·.2)).length = (js.map fun j => PL.getD j "").length := by unfold kvOf; simp
      have ok_ : firstBad (partsK vs) = none := find_no_str fun i p hp => by
        obtain ⟨d, hd, e⟩ := parts_get hl hp
        unfold badP
        rw [e]
        show (!allowB p d) = false
        rw [(ht i p d hp hd).ok.a]; rfl
      refine make_book W (μ := μ ++ [M.dic (kvOf vs js)]) hkl hl (fun x => ?_) (fun v hv => ?_) (fun p hp => by rw [ok_] at hp; cases hp) fun _ => ?_
      · show [x] ++ (selOf PL _).flatMap (fun i => (((kvOf vs js).map (·.2) ++ [])[i]?).toList) = x :: vs
        refine congrArg (x :: ·) (sel_all (l := PL) (us := vs) (show PL.length = vs.length from hl.symm) fun i p u hp hu => ?_)
        obtain ⟨m, hm, e⟩ := kat i p hp
        rw [e]
        unfold kvOf
        rw [List.getElem?_map, List.getElem?_map, hm]
        show some (vs.getD i .non) = _
        rw [vsD hu]
      · obtain ⟨i, hi⟩ := List.getElem?_of_mem hv
        have hi12 : i < 12 := by rw [← hl]; exact lt_of_at hi
        exact valW_b (ht i _ v (List.getElem?_eq_getElem (show i < PL.length from hi12)) hi).ok.v
      · have q := q (kvOf vs js)
        rw [List.length_append, List.append_assoc]
        exact .inl q
  · exact h.elim

end
end Toy
set_option Elab.async false
set_option linter.all false
set_option maxRecDepth 100000
set_option maxHeartbeats 4000000
namespace Toy
open PySem PySem.Spec PyProof.Rows L2 DX
section
variable {P : Program} {w : World} {K : PySem.W.Frag} {mg : Str → Option Value} {base : Heap}
def pl (a b : Int) : DX.M := .lst [.int a, .int b]
def PoolOk (b : Int) : Prop := 0 ≤ b ∧ b < 2147483647
theorem dlay_ints : ∀ ns : List Int, dlayL (ns.map .int) = true
  | [] => rfl
  | n :: r => by
    show (dlay (.int n) && dlayL (r.map .int)) = true
    rw [dlay_ints r]; rfl
theorem ddep_ints : ∀ ns : List Int, ddepL (ns.map .int) ≤ 1
  | [] => by decide
  | n :: r => by
    have := ddep_ints r
    show max (ddep (.int n)) (ddepL (r.map .int)) ≤ 1
    have e : ddep (.int n) ≤ 1 := Nat.zero_le _
    exact Nat.max_le.mpr ⟨e, this⟩
theorem atI_in {xs : List D} {i : Int} (h0 : 0 ≤ i) (h1 : i < xs.length) : ∃ n : Nat, i = (n : Int) ∧ ∃ h : n < xs.length, atI xs i = some xs[n] := by
  obtain ⟨n, rfl⟩ := Int.eq_ofNat_of_zero_le h0
  exact ⟨n, rfl, by omega, by rw [DX.atI_nat]; exact List.getElem?_eq_getElem (by omega)⟩
theorem pool_ok {x : Int} : PoolOk (x % 2147483647) := ⟨Int.emod_nonneg _ (by decide), Int.emod_lt_of_pos _ (by decide)⟩

def S_law_pool (W : Wd P w K mg base) : DSp := fun ds μ Q E => match ds with
  | [sc, .int k] => ∃ ns : List Int, sc = .kl (ns.map .int) ∧ ns.length ≤ 63 ∧ 0 ≤ k ∧ k < 1000 ∧ ∀ a b, PoolOk b → Q (.ob μ.length) (μ ++ [pl a b])
  | _ => False

theorem ok_law_pool (W : Wd P w K mg base) : FnD P w K mg base 2 W.f_law_pool (S_law_pool W) := by
  refine (okB W.t_law_pool.d sc_law_pool (by (intro ds μ Q E h; unfold S_law_pool at h; split at h <;> first | rfl | exact h.elim)) _ (fun cdv A outer s H E' g hr => ⟨_, (b_cons (s_set 2 sc_law_pool.nd d_int)
      (b_cons (s_if (t_cmp (op_neA hr.units rfl) sim_ne (d_var 0) (d_lst a_nil) (nomark _)) (b_one (s_set 2 sc_law_pool.nd (d_ix (d_var 0) (d_op op_mod sim_mod (d_callTy call_int1 sim_int W.z_int (a_cons (d_var 1) a_nil)) (d_callB (call_lenA rfl) sim_len W.z_len (a_cons (d_var 0) a_nil)))))) b_nil)
      (b_cons (s_set 3 sc_law_pool.nd (d_op op_mod sim_mod (d_op op_mul sim_mul (d_callTy call_int1 sim_int W.z_int (a_cons (d_op (op_addA rfl) sim_add (d_op (op_addA rfl) sim_add (d_op op_mod sim_mod (d_callTy call_int1 sim_int W.z_int (a_cons (d_var 2) a_nil)) d_int) (d_op op_mul sim_mul d_int (d_var 1))) d_int) a_nil)) d_int) d_int))
      (b_one (s_ret (d_lstM (a_cons (d_op op_mul sim_mul (d_var 2) (d_callTy call_int1 sim_int W.z_int (a_cons (d_cmp op_ge sim_ge (d_var 2) (d_op op_pow sim_pow d_int d_int) (nomark _)) a_nil))) (a_cons (d_var 3) a_nil))))))))⟩) (fun ds μ Q E h => ?_)).fn0 W.t_law_pool.b
  unfold S_law_pool at h
  split at h
  · rename_i sc k
    obtain ⟨ns, rfl, hn, hk0, hk1, q⟩ := h
    rw [show startD ["script", "k", "cell", "seed"] [.kl (ns.map .int), .int k] = [some (.kl (ns.map .int)), some (.int k), none, none] from rfl]
    push_cast
    have e0 : dEqOk (.lst (ns.map .int)) (.lst []) = true := by
      unfold dEqOk dok
      have e1 : dlay (.lst (ns.map .int)) = true := dlay_ints ns
      have e2 : ddep (.lst (ns.map .int)) ≤ 60 := by
        have := ddep_ints ns
        show ddepL (ns.map .int) + 1 ≤ 60
        omega
      rw [e1, decide_eq_true e2]
      rfl
    have c1 : CPow 10 18 := ⟨by decide, by decide, by decide⟩
    have c2 : ∀ x : Int, CMul x 48271 := fun x => .inr ⟨by decide, by decide⟩
    have c3 : ∀ x : Int, CMul 104729 x := fun x => .inl ⟨by decide, by decide⟩
    have c4 : ∀ (x : Int) (b : Bool), CMul x (if b = true then 1 else 0) := fun x b => .inr (by cases b <;> decide)
    refine ⟨by decide, e0, ?_⟩
    cases ns with
    | nil =>
      exact ⟨by decide, c3 _, c2 _, by decide, c1, c4 _ _, by decide, .inl (q _ _ pool_ok)⟩
    | cons n r =>
      have hl : 0 < ((List.map D.int (n :: r)).length : Int) := by simp only [List.length_map, List.length_cons]; omega
      obtain ⟨j, hj, hj2, e⟩ := atI_in (xs := List.map D.int (n :: r)) (Int.emod_nonneg k (Int.ne_of_gt hl)) (Int.emod_lt_of_pos k hl)
      rw [List.getElem_map] at e
      generalize (n :: r)[j]'(by simpa using hj2) = x0 at e
      rw [List.map_cons, List.length_cons, List.length_map] at e
      have dn : deqv (.lst (List.map D.int (n :: r))) (.lst []) = false := rfl
      push_cast [dn, e]
      exact ⟨by omega, by decide, c3 _, c2 _, by decide, c1, c4 _ _, by decide, .inl (q _ _ pool_ok)⟩
  · exact h.elim

def S_law_take (W : Wd P w K mg base) : DSp := fun ds μ Q E => match ds with
  | [.ob p, .int m] => ∃ a b, μ[p]? = some (pl a b) ∧ PoolOk b ∧ 0 < m ∧ m < 1000000 ∧ ∀ d a' b', 0 ≤ d → d < m → PoolOk b' → Q (.int d) (μ.set p (pl a' b'))
  | _ => False

theorem ok_law_take (W : Wd P w K mg base) : FnD P w K mg base 2 W.f_law_take (S_law_take W) := by
  refine (okB W.t_law_take.d sc_law_take (by (intro ds μ Q E h; unfold S_law_take at h; split at h <;> first | rfl | exact h.elim)) _ (fun cdv A outer s H E' g hr => ⟨_, (b_cons (s_if (t_cmp op_gt sim_gt (d_ix (d_var 0) d_int) d_int (nomark _)) (b_cons (s_set 2 sc_law_take.nd (d_op op_mod sim_mod (d_callTy call_int1 sim_int W.z_int (a_cons (d_ix (d_var 0) d_int) a_nil)) (d_var 1)))
      (b_cons (s_asg (d_op op_fdivW sim_fdivW (d_ix (d_var 0) d_int) (d_var 1)) (g_set (d_var 0) d_int))
      (b_one (s_ret (d_var 2))))) b_nil)
      (b_cons (s_asg (d_op op_mod sim_mod (d_callTy call_int1 sim_int W.z_int (a_cons (d_op (op_addA rfl) sim_add (d_op op_mul sim_mul (d_ix (d_var 0) d_int) d_int) d_int) a_nil)) d_int) (g_set (d_var 0) d_int))
      (b_one (s_ret (d_op op_mod sim_mod (d_callTy call_int1 sim_int W.z_int (a_cons (d_op op_fdivW sim_fdivW (d_op op_mod sim_mod (d_callTy call_int1 sim_int W.z_int (a_cons (d_op op_mul sim_mul (d_ix (d_var 0) d_int) (d_ix (d_var 0) d_int)) a_nil)) d_int) d_int) a_nil)) (d_var 1))))))⟩) (fun ds μ Q E h => ?_)).fn0 W.t_law_take.b
  unfold S_law_take at h
  split at h
  · rename_i p m
    obtain ⟨a, b, hp, hb, hm0, hm1, q⟩ := h
    rw [show startD ["pool", "many", "digit"] [.ob p, .int m] = [some (.ob p), some (.int m), none] from rfl]
    unfold pl at hp
    have lt := lt_of_at hp
    have hs : ∀ x : DX.M, (μ.set p x)[p]? = some x := fun x => List.getElem?_set_self lt
    have hv : ∀ l : List D, view (μ.set p (.lst l)) (.ob p) = .lst l := fun l => v_obL (hs _)
    have i0 : ixN 2 0 = some 0 := rfl
    have i1 : ixN 2 1 = some 1 := rfl
    have lg : m.natAbs.log2 < 9000 := (Nat.log2_lt (by omega)).mpr (Nat.lt_of_lt_of_le (by omega : m.natAbs < 2 ^ 20) (Nat.pow_le_pow_right (by decide) (by decide)))
    have c1 : CDivW a m := ⟨hm0, lg⟩
    have c2 : ∀ x : Int, CMul x 48271 := fun x => .inr ⟨by decide, by decide⟩
    have c3 : ∀ x : Int, CDivW x 64 := fun x => ⟨by decide, by decide⟩
    have c4 : ∀ x : Int, CMul (x % 2147483647) (x % 2147483647) := fun x => .inl ⟨by have := Int.emod_nonneg x (by decide : (2147483647 : Int) ≠ 0); omega, by have := Int.emod_lt_of_pos x (by decide : (0 : Int) < 2147483647); omega⟩
    push_cast [v_obL hp, hp, i0, i1, hv, hs, c1, c2, c3, c4, hm0]
    exact ifb (fun _ => .inl (q _ _ _ (Int.emod_nonneg _ (by omega)) (Int.emod_lt_of_pos _ hm0) hb)) (fun _ => ⟨by decide, by decide, .inl (q _ _ _ (Int.emod_nonneg _ (by omega)) (Int.emod_lt_of_pos _ hm0) pool_ok)⟩)
  · exact h.elim

end
end Toy
set_option Elab.async false
set_option linter.all false
set_option maxRecDepth 100000
set_option maxHeartbeats 4000000
namespace Toy
open PySem PySem.Spec PyProof.Rows L2 DX
section
variable {P : Program} {w : World} {K : PySem.W.Frag} {mg : Str → Option Value} {base : Heap}
theorem cut_mid {xs : List D} {i j : Nat} (h : i ≤ j) : dcut xs (some (i : Int)) (some (j : Int)) = (xs.take j).drop i := by
  unfold dcut
  rw [HT.sIx_nat, HT.sIx_nat, List.drop_take]
  rcases Nat.le_total i xs.length with e | e
  · rw [Nat.min_eq_left e]
    refine List.take_eq_take_iff.mpr ?_
    rw [List.length_drop]
    omega
  · rw [Nat.min_eq_right e, List.drop_eq_nil_iff.mpr e, List.drop_eq_nil_iff.mpr (Nat.le_refl _)]; simp
theorem pl_set {μ : Mem} {p : Nat} {x y : DX.M} : (μ.set p x).set p y = μ.set p y := List.set_set ..
/-- 'lock' and 'unlock' put in -/
def lock2 (ws : List Str) : List (List Str) := ws :: (List.range (ws.length + 1)).flatMap fun i => (List.range (ws.length - i + 1)).map fun k => ws.take i ++ [Str.ofString "lock"] ++ (ws.take (i + k)).drop i ++ [Str.ofString "unlock"] ++ ws.drop (i + k)

def S_law_locked (W : Wd P w K mg base) : DSp := fun ds μ Q _ => match ds with
  | [.ob p, .lst ds] => ∃ (a b : Int) (ws : List Str), ds = ws.map .str ∧ ws.length ≤ 6 ∧ μ[p]? = some (pl a b) ∧ PoolOk b ∧ ∀ us a' b', us ∈ lock2 ws → PoolOk b' → Q (.lst (us.map .str)) (μ.set p (pl a' b'))
  | _ => False

theorem ok_law_locked (W : Wd P w K mg base) : FnD P w K mg base 3 W.f_law_locked (S_law_locked W) := by
  refine (okB W.t_law_locked.d sc_law_locked (by (intro ds μ Q E h; unfold S_law_locked at h; split at h <;> first | rfl | exact h.elim)) _ (fun cdv A outer s H E' g hr => ⟨_, (b_cons (s_if (t_cmp (op_eqA hr.units rfl) sim_eq (d_call (ok_law_take W) W.t_law_take.a W.t_law_take.d.kp g hr (takes_of rfl rfl rfl rfl) (a_cons (d_var 0) (a_cons d_int a_nil))) d_int (nomark _)) (b_one (s_ret (d_var 1))) b_nil)
      (b_cons (s_set 2 sc_law_locked.nd (d_call (ok_law_take W) W.t_law_take.a W.t_law_take.d.kp g hr (takes_of rfl rfl rfl rfl) (a_cons (d_var 0) (a_cons (d_op (op_addA rfl) sim_add (d_callB (call_lenA rfl) sim_len W.z_len (a_cons (d_var 1) a_nil)) d_int) a_nil))))
      (b_cons (s_set 3 sc_law_locked.nd (d_op (op_addA rfl) sim_add (d_var 2) (d_call (ok_law_take W) W.t_law_take.a W.t_law_take.d.kp g hr (takes_of rfl rfl rfl rfl) (a_cons (d_var 0) (a_cons (d_op (op_addA rfl) sim_add (d_op op_sub sim_sub (d_callB (call_lenA rfl) sim_len W.z_len (a_cons (d_var 1) a_nil)) (d_var 2)) d_int) a_nil)))))
      (b_one (s_ret (d_op (op_addA rfl) sim_add (d_op (op_addA rfl) sim_add (d_op (op_addA rfl) sim_add (d_op (op_addA rfl) sim_add (d_sl false (d_var 1) o_none (o_some (d_var 2))) (d_lst (a_cons d_str a_nil))) (d_sl false (d_var 1) (o_some (d_var 2)) (o_some (d_var 3)))) (d_lst (a_cons d_str a_nil))) (d_sl false (d_var 1) (o_some (d_var 3)) o_none)))))))⟩) (fun ds μ Q E h => ?_)).fn0 W.t_law_locked.b
  unfold S_law_locked at h
  split at h
  · rename_i p ds
    obtain ⟨a, b, ws, rfl, hl, hp, hb, q⟩ := h
    have lt := lt_of_at hp
    rw [show startD ["pool", "row", "at", "to"] [.ob p, .lst (ws.map .str)] = [some (.ob p), some (.lst (ws.map .str)), none, none] from rfl]
    refine seq_step fun nx hnx => ?_
    push_cast [S_law_take]
    refine ⟨a, b, hp, hb, by decide, by decide, fun d a b d0 d1 hb => ?_⟩
    refine ifb (fun h1 => .inl (q ws _ _ List.mem_cons_self hb)) (fun h1 => hnx _ _ ?_)
    clear hnx nx h1 d0 d1 d
    refine seq_step fun nx hnx => ?_
    push_cast [S_law_take]
    refine ⟨_, _, List.getElem?_set_self lt, hb, by omega, by omega, fun d a b d0 d1 hb => hnx _ _ ?_⟩
    clear hnx nx
    obtain ⟨i, rfl⟩ := Int.eq_ofNat_of_zero_le d0
    have hi : i < ws.length + 1 := by omega
    rw [pl_set]
    refine seq_step fun nx hnx => ?_
    push_cast [S_law_take]
    refine ⟨_, _, List.getElem?_set_self lt, hb, by omega, by omega, fun d a b d0 d1 hb => hnx _ _ ?_⟩
    clear hnx nx
    obtain ⟨k, rfl⟩ := Int.eq_ofNat_of_zero_le d0
    have hk : k < ws.length - i + 1 := by omega
    rw [pl_set]
    rw [show (i : Int) + (k : Int) = ((i + k : Nat) : Int) from (Int.natCast_add i k).symm]
    push_cast [cut_to, cut_from, cut_mid (xs := ws.map .str) (show i ≤ i + k by omega)]
    have l1 : (List.take i (ws.map D.str)).length ≤ 6 := by rw [List.length_take, List.length_map]; omega
    have l2 : (List.drop i (List.take (i + k) (ws.map D.str))).length ≤ 6 := by rw [List.length_drop, List.length_take, List.length_map]; omega
    have l3 : (List.drop (i + k) (ws.map D.str)).length ≤ 6 := by rw [List.length_drop, List.length_map]; omega
    refine ⟨by decide, le_line (by omega), le_line (by rw [List.length_append, List.length_singleton]; omega), by decide, le_line (by rw [List.length_append, List.length_append, List.length_singleton]; omega), le_line (by rw [List.length_append, List.length_append, List.length_append, List.length_singleton, List.length_singleton]; omega), ?_⟩
    have e : List.take i (ws.map D.str) ++ [D.str (Str.ofString "lock")] ++ List.drop i (List.take (i + k) (ws.map D.str)) ++ [D.str (Str.ofString "unlock")] ++ List.drop (i + k) (ws.map D.str) = (ws.take i ++ [Str.ofString "lock"] ++ (ws.take (i + k)).drop i ++ [Str.ofString "unlock"] ++ ws.drop (i + k)).map D.str := by
      simp only [List.map_append, List.map_take, List.map_drop, List.map_cons, List.map_nil]
    rw [e]
    exact .inl (q _ _ _ (List.mem_cons_of_mem _ (List.mem_flatMap.mpr ⟨i, List.mem_range.mpr hi, List.mem_map.mpr ⟨k, List.mem_range.mpr hk, rfl⟩⟩)) hb)
  · exact h.elim

end
end Toy
set_option Elab.async false
set_option linter.all false
set_option maxRecDepth 100000
set_option maxHeartbeats 4000000
namespace Toy
open PySem PySem.Spec PyProof.Rows L2 DX
section
variable {P : Program} {w : World} {K : PySem.W.Frag} {mg : Str → Option Value} {base : Heap}
def wRows : List (List Str) := (([["change", "enter", "commit"], ["change", "commit", "enter"]] : List (List Str)).flatMap fun r => r :: (List.range 4).map fun i => r.take i ++ [Str.ofString "clear"] ++ r.drop i).flatMap lock2
def wTexts : List Str := (["lock clear change unlock enter commit", "lock change clear unlock enter commit"] : List Str) ++ wRows.map (Txt.join " ")
def cRows : List (List Str) := ([["look", "set"], ["remove", "look", "set"], ["look", "set", "again"], ["remove", "look", "set", "again"]] : List (List Str)).flatMap lock2
def cTexts : List Str := "lock remove look set unlock" :: cRows.map (Txt.join " ")
def rRows : List Str := ["hold entry mark", "hold mark entry", "entry hold mark", "entry mark hold", "mark hold entry", "mark entry hold", "take tell entry mark", "take entry tell mark", "take entry mark tell", "take mark tell entry", "entry take tell mark", "mark take entry tell", "take tell mark entry", "take mark entry tell", "mark take tell entry", "entry take mark tell", "entry mark take tell", "mark entry take tell"]
def rTexts : List Str := rRows.map (· ++ Str.ofString " page")
theorem wRows_len : ∀ ws ∈ wRows, ws.length ≤ 6 ∧ ∀ z ∈ ws, z.length ≤ 6 := by decide +kernel
theorem cRows_len : ∀ ws ∈ cRows, ws.length ≤ 6 ∧ ∀ z ∈ ws, z.length ≤ 6 := by decide +kernel
theorem sum_few {ws : List Str} (h : ws.length ≤ 6 ∧ ∀ z ∈ ws, z.length ≤ 6) : (ws.map (·.length)).sum + ws.length * (Str.ofString " ").length ≤ 16777216 := by
  have h1 := sum_le h.2
  have e : (Str.ofString " ").length = 1 := by decide +kernel
  rw [e]
  have := h.1
  have : 6 * ws.length ≤ 36 := by omega
  omega

def S_law_writing (W : Wd P w K mg base) : DSp := fun ds μ Q _ => match ds with
  | [.ob p] => ∃ a b : Int, μ[p]? = some (pl a b) ∧ PoolOk b ∧ ∀ z a' b', z ∈ wTexts → PoolOk b' → Q (.str z) (μ.set p (pl a' b'))
  | _ => False

theorem ok_law_writing (W : Wd P w K mg base) : FnD P w K mg base 4 W.f_law_writing (S_law_writing W) := by
  refine (okB W.t_law_writing.d sc_law_writing (by (intro ds μ Q E h; unfold S_law_writing at h; split at h <;> first | rfl | exact h.elim)) _ (fun cdv A outer s H E' g hr => ⟨_, (b_cons (s_set 1 sc_law_writing.nd (d_call (ok_law_take W) W.t_law_take.a W.t_law_take.d.kp g (hr.mono (by decide)) (takes_of rfl rfl rfl rfl) (a_cons (d_var 0) (a_cons d_int a_nil))))
      (b_cons (s_if (t_cmp op_lt sim_lt (d_var 1) d_int (nomark _)) (b_one (s_ret (d_ix (d_lst (a_cons d_str (a_cons d_str a_nil))) (d_var 1)))) b_nil)
      (b_cons (s_set 2 sc_law_writing.nd (d_lst (a_cons d_str (a_cons d_str (a_cons d_str a_nil)))))
      (b_cons (s_if (t_cmp (op_eqA hr.units rfl) sim_eq (d_call (ok_law_take W) W.t_law_take.a W.t_law_take.d.kp g (hr.mono (by decide)) (takes_of rfl rfl rfl rfl) (a_cons (d_var 0) (a_cons d_int a_nil))) d_int (nomark _)) (b_one (s_set 2 sc_law_writing.nd (d_lst (a_cons d_str (a_cons d_str (a_cons d_str a_nil)))))) b_nil)
      (b_cons (s_if (t_cmp op_gt sim_gt (d_call (ok_law_take W) W.t_law_take.a W.t_law_take.d.kp g (hr.mono (by decide)) (takes_of rfl rfl rfl rfl) (a_cons (d_var 0) (a_cons d_int a_nil))) d_int (nomark _)) (b_cons (s_set 3 sc_law_writing.nd (d_call (ok_law_take W) W.t_law_take.a W.t_law_take.d.kp g (hr.mono (by decide)) (takes_of rfl rfl rfl rfl) (a_cons (d_var 0) (a_cons d_int a_nil))))
      (b_one (s_set 2 sc_law_writing.nd (d_op (op_addA rfl) sim_add (d_op (op_addA rfl) sim_add (d_sl false (d_var 2) o_none (o_some (d_var 3))) (d_lst (a_cons d_str a_nil))) (d_sl false (d_var 2) (o_some (d_var 3)) o_none))))) b_nil)
      (b_one (s_ret (d_m1 F.slot_str_join F.type_str_join (mt_joinA rfl) sim_join d_str (d_call (ok_law_locked W) W.t_law_locked.a W.t_law_locked.d.kp g hr (takes_of rfl rfl rfl rfl) (a_cons (d_var 0) (a_cons (d_var 2) a_nil)))))))))))⟩) (fun ds μ Q E h => ?_)).fn0 W.t_law_writing.b
  unfold S_law_writing at h
  split at h
  · rename_i p
    obtain ⟨a, b, hp, hb, q⟩ := h
    have lt := lt_of_at hp
    rw [show startD ["pool", "way", "row", "at"] [.ob p] = [some (.ob p), none, none, none] from rfl]
    refine seq_step fun nx hnx => ?_
    push_cast [S_law_take]
    refine ⟨a, b, hp, hb, by decide, by decide, fun d a b d0 d1 hb => hnx _ _ ?_⟩
    clear hnx nx
    obtain ⟨n, rfl⟩ := Int.eq_ofNat_of_zero_le d0
    refine seq_step fun nx hnx => ?_
    push_cast
    refine ifb (fun h1 => ?_) (fun _ => hnx _ _ ?_)
    · clear hnx nx
      have h1 := of_decide_eq_true h1
      match n, h1 with
      | 0, _ => exact ⟨by decide, .inl (q _ _ _ (List.mem_append_left _ (by decide)) hb)⟩
      | 1, _ => exact ⟨by decide, .inl (q _ _ _ (List.mem_append_left _ (by decide)) hb)⟩
    clear hnx nx d1 d0
    refine seq_step fun nx hnx => ?_
    push_cast
    refine ⟨by decide, hnx _ _ ?_⟩
    clear hnx nx
    refine seq_step fun nx hnx => ?_
    have rest : ∀ (r : List Str) (a b : Int), r ∈ ([["change", "enter", "commit"], ["change", "commit", "enter"]] : List (List Str)) → PoolOk b → nx [some (.ob p), some (.int (n : Int)), some (.lst (r.map .str)), none] (μ.set p (pl a b)) := by
      intro r a b hr hb
      refine hnx _ _ ?_
      clear hnx nx
      have hr3 : r.length = 3 := by
        have : ∀ r ∈ ([["change", "enter", "commit"], ["change", "commit", "enter"]] : List (List Str)), r.length = 3 := by decide
        exact this r hr
      refine seq_step fun nx hnx => ?_
      have rest2 : ∀ (r2 : List Str) (o : Option D) (a b : Int), r2.length ≤ 4 → (∀ us ∈ lock2 r2, us ∈ wRows) → PoolOk b → nx [some (.ob p), some (.int (n : Int)), some (.lst (r2.map .str)), o] (μ.set p (pl a b)) := by
        intro r2 o a b hl hw hb
        refine hnx _ _ ?_
        clear hnx nx
        push_cast [S_law_locked]
        refine ⟨a, b, r2, rfl, by omega, List.getElem?_set_self lt, hb, fun us a b hu hb => ?_⟩
        rw [pl_set]
        have hu := hw us hu
        exact ⟨us, .inl rfl, sum_few (wRows_len us hu), .inl (q _ _ _ (List.mem_append_right _ (List.mem_map_of_mem hu)) hb)⟩
      push_cast [S_law_take]
      refine ⟨_, _, List.getElem?_set_self lt, hb, by decide, by decide, fun d a b d0 d1 hb => ?_⟩
      rw [pl_set]
      refine ifb (fun _ => ?_) (fun _ => rest2 r _ a b (by omega) (fun us hu => List.mem_flatMap.mpr ⟨r, List.mem_flatMap.mpr ⟨r, hr, List.mem_cons_self⟩, hu⟩) hb)
      refine ⟨_, _, List.getElem?_set_self lt, hb, by decide, by decide, fun d a b d0 d1 hb => ?_⟩
      rw [pl_set]
      obtain ⟨i, rfl⟩ := Int.eq_ofNat_of_zero_le d0
      have hi : i < 4 := by omega
      push_cast [cut_to, cut_from]
      have e : List.take i (r.map D.str) ++ [D.str (Str.ofString "clear")] ++ List.drop i (r.map D.str) = (r.take i ++ [Str.ofString "clear"] ++ r.drop i).map D.str := by
        simp only [List.map_append, List.map_take, List.map_drop, List.map_cons, List.map_nil]
      rw [e]
      refine ⟨by decide, le_line (by rw [List.length_take, List.length_map]; omega), le_line (by rw [List.length_append, List.length_take, List.length_drop, List.length_map, List.length_singleton]; omega), rest2 _ _ a b ?_ (fun us hu => List.mem_flatMap.mpr ⟨_, List.mem_flatMap.mpr ⟨r, hr, List.mem_cons_of_mem _ (List.mem_map.mpr ⟨i, List.mem_range.mpr hi, rfl⟩)⟩, hu⟩) hb⟩
      rw [List.length_append, List.length_append, List.length_take, List.length_drop, List.length_singleton]; omega
    push_cast [S_law_take]
    refine ⟨_, _, List.getElem?_set_self lt, hb, by decide, by decide, fun d a b d0 d1 hb => ?_⟩
    rw [pl_set]
    exact ifb (fun _ => ⟨by decide, rest ["change", "commit", "enter"] a b (by decide) hb⟩) (fun _ => rest ["change", "enter", "commit"] a b (by decide) hb)
  · exact h.elim

def S_law_cleaning (W : Wd P w K mg base) : DSp := fun ds μ Q _ => match ds with
  | [.ob p] => ∃ a b : Int, μ[p]? = some (pl a b) ∧ PoolOk b ∧ ∀ z a' b', z ∈ cTexts → PoolOk b' → Q (.str z) (μ.set p (pl a' b'))
  | _ => False

theorem ok_law_cleaning (W : Wd P w K mg base) : FnD P w K mg base 4 W.f_law_cleaning (S_law_cleaning W) := by
  refine (okB W.t_law_cleaning.d sc_law_cleaning (by (intro ds μ Q E h; unfold S_law_cleaning at h; split at h <;> first | rfl | exact h.elim)) _ (fun cdv A outer s H E' g hr => ⟨_, (b_cons (s_if (t_cmp (op_eqA hr.units rfl) sim_eq (d_call (ok_law_take W) W.t_law_take.a W.t_law_take.d.kp g (hr.mono (by decide)) (takes_of rfl rfl rfl rfl) (a_cons (d_var 0) (a_cons d_int a_nil))) d_int (nomark _)) (b_one (s_ret d_str)) b_nil)
      (b_cons (s_set 1 sc_law_cleaning.nd (d_lst (a_cons d_str (a_cons d_str a_nil))))
      (b_cons (s_if (t_cmp (op_eqA hr.units rfl) sim_eq (d_call (ok_law_take W) W.t_law_take.a W.t_law_take.d.kp g (hr.mono (by decide)) (takes_of rfl rfl rfl rfl) (a_cons (d_var 0) (a_cons d_int a_nil))) d_int (nomark _)) (b_one (s_set 1 sc_law_cleaning.nd (d_op (op_addA rfl) sim_add (d_lst (a_cons d_str a_nil)) (d_var 1)))) b_nil)
      (b_cons (s_if (t_cmp (op_eqA hr.units rfl) sim_eq (d_call (ok_law_take W) W.t_law_take.a W.t_law_take.d.kp g (hr.mono (by decide)) (takes_of rfl rfl rfl rfl) (a_cons (d_var 0) (a_cons d_int a_nil))) d_int (nomark _)) (b_one (s_set 1 sc_law_cleaning.nd (d_op (op_addA rfl) sim_add (d_var 1) (d_lst (a_cons d_str a_nil))))) b_nil)
      (b_one (s_ret (d_m1 F.slot_str_join F.type_str_join (mt_joinA rfl) sim_join d_str (d_call (ok_law_locked W) W.t_law_locked.a W.t_law_locked.d.kp g hr (takes_of rfl rfl rfl rfl) (a_cons (d_var 0) (a_cons (d_var 1) a_nil))))))))))⟩) (fun ds μ Q E h => ?_)).fn0 W.t_law_cleaning.b
  unfold S_law_cleaning at h
  split at h
  · rename_i p
    obtain ⟨a, b, hp, hb, q⟩ := h
    have lt := lt_of_at hp
    rw [show startD ["pool", "row"] [.ob p] = [some (.ob p), none] from rfl]
    refine seq_step fun nx hnx => ?_
    push_cast [S_law_take]
    refine ⟨a, b, hp, hb, by decide, by decide, fun d a b d0 d1 hb => ?_⟩
    refine ifb (fun _ => .inl (q _ _ _ List.mem_cons_self hb)) (fun _ => hnx _ _ ?_)
    clear hnx nx
    refine seq_step fun nx hnx => ?_
    push_cast
    refine ⟨by decide, hnx _ _ ?_⟩
    clear hnx nx
    refine seq_step fun nx hnx => ?_
    have fin : ∀ (r : List Str) (a b : Int), r ∈ ([["look", "set"], ["remove", "look", "set"], ["look", "set", "again"], ["remove", "look", "set", "again"]] : List (List Str)) → PoolOk b →
        uRet (uM1 dJoin (uC (D.str (Str.ofString " "))) (uCall (S_law_locked W) (uCons (uVar 0) (uCons (uVar 1) uNil)))) { nx := fun x μ' => FZ μ Q D.non μ', rt := FZ μ Q } (FZE μ E) [some (.ob p), some (.lst (r.map .str))] (μ.set p (pl a b)) := by
      intro r a b hr hb
      have hr4 : r.length ≤ 4 := by
        have : ∀ r ∈ ([["look", "set"], ["remove", "look", "set"], ["look", "set", "again"], ["remove", "look", "set", "again"]] : List (List Str)), r.length ≤ 4 := by decide
        exact this r hr
      push_cast [S_law_locked]
      refine ⟨a, b, r, rfl, by omega, List.getElem?_set_self lt, hb, fun us a b hu hb => ?_⟩
      rw [pl_set]
      have hu : us ∈ cRows := List.mem_flatMap.mpr ⟨r, hr, hu⟩
      exact ⟨us, .inl rfl, sum_few (cRows_len us hu), .inl (q _ _ _ (List.mem_cons_of_mem _ (List.mem_map_of_mem hu)) hb)⟩
    have rest : ∀ (r : List Str) (a b : Int), r ∈ ([["look", "set"], ["remove", "look", "set"]] : List (List Str)) → PoolOk b → nx [some (.ob p), some (.lst (r.map .str))] (μ.set p (pl a b)) := by
      intro r a b hr hb
      refine hnx _ _ ?_
      clear hnx nx
      refine seq_step fun nx hnx => ?_
      push_cast [S_law_take]
      refine ⟨_, _, List.getElem?_set_self lt, hb, by decide, by decide, fun d a b d0 d1 hb => ?_⟩
      rw [pl_set]
      refine ifb (fun _ => ?_) (fun _ => hnx _ _ (fin r a b ?_ hb))
      · refine ⟨by decide, le_line ?_, hnx _ _ ?_⟩
        · have : ∀ r ∈ ([["look", "set"], ["remove", "look", "set"]] : List (List Str)), r.length ≤ 4 := by decide
          have := this r hr
          omega
        · rw [show List.map D.str r ++ [D.str (Str.ofString "again")] = (r ++ [Str.ofString "again"]).map D.str by rw [List.map_append]; rfl]
          refine fin _ a b ?_ hb
          have : ∀ r ∈ ([["look", "set"], ["remove", "look", "set"]] : List (List Str)), r ++ [Str.ofString "again"] ∈ ([["look", "set"], ["remove", "look", "set"], ["look", "set", "again"], ["remove", "look", "set", "again"]] : List (List Str)) := by decide
          exact this r hr
      · have : ∀ r ∈ ([["look", "set"], ["remove", "look", "set"]] : List (List Str)), r ∈ ([["look", "set"], ["remove", "look", "set"], ["look", "set", "again"], ["remove", "look", "set", "again"]] : List (List Str)) := by decide
        exact this r hr
    push_cast [S_law_take]
    refine ⟨_, _, List.getElem?_set_self lt, hb, by decide, by decide, fun d a b d0 d1 hb => ?_⟩
    rw [pl_set]
    exact ifb (fun _ => ⟨by decide, le_line (by decide), rest ["remove", "look", "set"] a b (by decide) hb⟩) (fun _ => rest ["look", "set"] a b (by decide) hb)
  · exact h.elim

/-- what is known of a drawn value -/
def okV (p : Str) (d : D) : Bool := allowB p d && (valWB d && (dflat d && dlay d))
def txB (d : D) : Bool := match d with
  | .bl _ => true
  | .str z => decide (z ≠ "yes") && (decide (z ≠ "no") && (decide (z.length ≤ 100) && !(TL.tl z).contains 10))
  | _ => false
theorem valF_yes : valF "yes" = .bl true := by kernel_rfl
theorem valF_no : valF "no" = .bl false := by kernel_rfl
theorem valF_other {z : Str} (h1 : z ≠ "yes") (h2 : z ≠ "no") : valF z = .str z := by
  unfold valF
  rw [valD_cons, if_neg (fun e => h1 (Sum.inr.inj e).symm), valD_cons, if_neg (fun e => h2 (Sum.inr.inj e).symm)]
  rfl
theorem txP_of {p : Str} {d : D} (h : (okV p d && txB d) = true) : TxP p d := by
  unfold okV at h
  simp only [Bool.and_eq_true] at h
  obtain ⟨⟨h1, h2, h3, h4⟩, h5⟩ := h
  refine ⟨⟨h1, h2, h3, h4⟩, ?_, ?_, ?_, ?_⟩
  all_goals cases d <;> first | (cases h5; done) | skip
  · exact .inl ⟨_, rfl⟩
  · exact .inr ⟨_, rfl⟩
  · rename_i b; cases b; exact valF_no; exact valF_yes
  · rename_i z
    unfold txB at h5
    simp only [Bool.and_eq_true, decide_eq_true_iff] at h5
    exact valF_other h5.1 h5.2.1
  · rename_i b; exact Nat.le_trans (yn_len b) (by decide)
  · unfold txB at h5
    simp only [Bool.and_eq_true, decide_eq_true_iff] at h5
    exact h5.2.2.1
  · rename_i b; cases b <;> decide +kernel
  · unfold txB at h5
    simp only [Bool.and_eq_true, decide_eq_true_iff] at h5
    rename_i z
    show 10 ∉ TL.tl z
    simpa using h5.2.2.2
/-- words that a text can hold -/
def okJ (k : Nat) (ws : List Str) : Bool := cheap k ws && (decide (2 ≤ ws.length) && ws.all fun z => PyData.strOk z && !(TL.tl z).contains 10)
theorem join_nl : ∀ {ws : List Str}, (∀ z ∈ ws, 10 ∉ TL.tl z) → 10 ∉ TL.tl (Str.join " " ws)
  | [], _ => by decide +kernel
  | [a], h => h a List.mem_cons_self
  | a :: b :: r, h => by
    show 10 ∉ TL.tl (a ++ (" " : Str) ++ Str.join " " (b :: r))
    rw [TL.tl_append, TL.tl_append, List.mem_append, List.mem_append]
    rintro ((e | e) | e)
    · exact h a List.mem_cons_self e
    · exact absurd e (by decide +kernel)
    · exact join_nl (ws := b :: r) (fun z hz => h z (List.mem_cons_of_mem _ hz)) e
theorem tx_words {k : Nat} {p : Str} {ws : List Str} (h : okJ k ws = true) (ha : Good k ws → allowB p (.str (Txt.join " " ws)) = true) : (okV p (.str (Txt.join " " ws)) && txB (.str (Txt.join " " ws))) = true := by
  unfold okJ at h
  rw [Bool.and_eq_true, Bool.and_eq_true] at h
  obtain ⟨h1, h2, h3⟩ := h
  have g := good_of h1
  have hw : ∀ z ∈ ws, PyData.strOk z = true ∧ 10 ∉ TL.tl z := fun z hz => by
    have := List.all_eq_true.mp h3 z hz
    rw [Bool.and_eq_true] at this
    exact ⟨this.1, by simpa using this.2⟩
  have o := okP_words g (List.all_eq_true.mpr fun z hz => (hw z hz).1) (ha g)
  have two := of_decide_eq_true h2
  have gc : Txt.split (Txt.join " " ws) " " = ws := by rw [TL.join_eq]; exact g.cut
  have ny : ∀ y : Str, (Txt.split y " ").length = 1 → Txt.join " " ws ≠ y := fun y hy e => by
    rw [e] at gc
    rw [gc] at hy
    omega
  have nn : (!(TL.tl (Txt.join " " ws)).contains 10) = true := by
    have := join_nl fun z hz => (hw z hz).2
    rw [← TL.join_eq] at this
    simpa using this
  have ln : (Txt.join " " ws).length ≤ 100 := by
    have := g.len
    rw [← TL.join_eq] at this
    omega
  show (allowB p _ && (valWB _ && (dflat _ && dlay _)) && (decide (_ ≠ _) && (decide (_ ≠ _) && (decide _ && _)))) = true
  rw [o.a, o.v, o.f, o.l, decide_eq_true (ny "yes" (by decide +kernel)), decide_eq_true (ny "no" (by decide +kernel)), decide_eq_true ln, nn]
  rfl
theorem allow_w {ws : List Str} (g : Good 0 ws) : allowB "writer" (.str (Txt.join " " ws)) = true := by
  show isW (wordsF _) = true
  rw [cut_good g]; exact g.w
theorem allow_c {ws : List Str} (g : Good 1 ws) : allowB "cleaner" (.str (Txt.join " " ws)) = true := by
  show isC (wordsF _) = true
  rw [cut_good g]; exact g.c
theorem allow_r {ws : List Str} (g : Good 2 ws) : allowB "reader" (.str (Txt.join " " ws)) = true := by
  show isR (wordsF _) = true
  rw [cut_good g]; exact g.r
def wTwo : List (List Str) := [["lock", "clear", "change", "unlock", "enter", "commit"], ["lock", "change", "clear", "unlock", "enter", "commit"]]
def cOne : List (List Str) := [["lock", "remove", "look", "set", "unlock"]]
def rWords : List (List Str) := [["hold", "entry", "mark", "page"], ["hold", "mark", "entry", "page"], ["entry", "hold", "mark", "page"], ["entry", "mark", "hold", "page"], ["mark", "hold", "entry", "page"], ["mark", "entry", "hold", "page"], ["take", "tell", "entry", "mark", "page"], ["take", "entry", "tell", "mark", "page"], ["take", "entry", "mark", "tell", "page"], ["take", "mark", "tell", "entry", "page"], ["entry", "take", "tell", "mark", "page"], ["mark", "take", "entry", "tell", "page"], ["take", "tell", "mark", "entry", "page"], ["take", "mark", "entry", "tell", "page"], ["mark", "take", "tell", "entry", "page"], ["entry", "take", "mark", "tell", "page"], ["entry", "mark", "take", "tell", "page"], ["mark", "entry", "take", "tell", "page"]]
theorem wTwo_is : (["lock clear change unlock enter commit", "lock change clear unlock enter commit"] : List Str) = wTwo.map (Txt.join " ") := by decide +kernel
theorem cOne_is : (["lock remove look set unlock"] : List Str) = cOne.map (Txt.join " ") := by decide +kernel
theorem rWords_is : rTexts = rWords.map (Txt.join " ") := by decide +kernel
theorem wTwo_ok : (wTwo.all (okJ 0)) = true := by decide +kernel
theorem wRows_ok : (wRows.all (okJ 0)) = true := by decide +kernel
theorem cOne_ok : (cOne.all (okJ 1)) = true := by decide +kernel
theorem cRows_ok : (cRows.all (okJ 1)) = true := by decide +kernel
theorem rWords_ok : (rWords.all (okJ 2)) = true := by decide +kernel
theorem wTexts_ok : ∀ z ∈ wTexts, (okV "writer" (.str z) && txB (.str z)) = true := fun z hz => by
  unfold wTexts at hz
  rw [wTwo_is] at hz
  rcases List.mem_append.mp hz with h | h
  · obtain ⟨us, hu, rfl⟩ := List.mem_map.mp h
    exact tx_words (List.all_eq_true.mp wTwo_ok us hu) allow_w
  · obtain ⟨us, hu, rfl⟩ := List.mem_map.mp h
    exact tx_words (List.all_eq_true.mp wRows_ok us hu) allow_w
theorem cTexts_ok : ∀ z ∈ cTexts, (okV "cleaner" (.str z) && txB (.str z)) = true := fun z hz => by
  have hz : z ∈ (["lock remove look set unlock"] : List Str) ++ cRows.map (Txt.join " ") := hz
  rw [cOne_is] at hz
  rcases List.mem_append.mp hz with h | h
  · obtain ⟨us, hu, rfl⟩ := List.mem_map.mp h
    exact tx_words (List.all_eq_true.mp cOne_ok us hu) allow_c
  · obtain ⟨us, hu, rfl⟩ := List.mem_map.mp h
    exact tx_words (List.all_eq_true.mp cRows_ok us hu) allow_c
theorem rTexts_ok : ∀ z ∈ rTexts, (okV "reader" (.str z) && txB (.str z)) = true := fun z hz => by
  rw [rWords_is] at hz
  obtain ⟨us, hu, rfl⟩ := List.mem_map.mp hz
  exact tx_words (List.all_eq_true.mp rWords_ok us hu) allow_r
theorem flag_ok : ∀ p ∈ (["pins", "cleared", "sets", "force", "ahead", "first", "waits"] : List Str), ∀ b, (okV p (.bl b) && txB (.bl b)) = true := by decide +kernel
theorem parts_tx {zw zc zr : Str} {h x : D} {fs : List D} (hw : zw ∈ wTexts) (hc : zc ∈ cTexts) (hr : zr ∈ rTexts) (hh : h = .str "all" ∨ h = .str "none") (h7 : fs.length = 7) (hf : ∀ f ∈ fs, ∃ b, f = .bl b) (hx : x = .str "trust" ∨ x = .str "wait" ∨ x = .str "look") :
    TxB ([.str zw, .str zc, .str zr, h] ++ fs ++ [x]) := by
  match fs, h7, hf with
  | [f4, f5, f6, f7, f8, f9, f10], _, hf =>
    intro i p d hp hd
    have fl : ∀ f ∈ [f4, f5, f6, f7, f8, f9, f10], p ∈ (["pins", "cleared", "sets", "force", "ahead", "first", "waits"] : List Str) → TxP p f := fun f hf' hp' => by
      obtain ⟨b, rfl⟩ := hf f hf'
      exact txP_of (flag_ok p hp' b)
    match i, hp, hd with
    | 0, hp, hd => cases hp; cases hd; exact txP_of (wTexts_ok zw hw)
    | 1, hp, hd => cases hp; cases hd; exact txP_of (cTexts_ok zc hc)
    | 2, hp, hd => cases hp; cases hd; exact txP_of (rTexts_ok zr hr)
    | 3, hp, hd => cases hp; cases hd; rcases hh with rfl | rfl <;> exact txP_of (by decide +kernel)
    | 4, hp, hd => cases hp; cases hd; exact fl _ (by simp) (by decide)
    | 5, hp, hd => cases hp; cases hd; exact fl _ (by simp) (by decide)
    | 6, hp, hd => cases hp; cases hd; exact fl _ (by simp) (by decide)
    | 7, hp, hd => cases hp; cases hd; exact fl _ (by simp) (by decide)
    | 8, hp, hd => cases hp; cases hd; exact fl _ (by simp) (by decide)
    | 9, hp, hd => cases hp; cases hd; exact fl _ (by simp) (by decide)
    | 10, hp, hd => cases hp; cases hd; exact fl _ (by simp) (by decide)
    | 11, hp, hd => cases hp; cases hd; rcases hx with rfl | rfl | rfl <;> exact txP_of (by decide +kernel)
    | n + 12, hp, hd => cases hp

def S_law_reading (W : Wd P w K mg base) : DSp := fun ds μ Q _ => match ds with
  | [.ob p] => ∃ a b : Int, μ[p]? = some (pl a b) ∧ PoolOk b ∧ ∀ z a' b', z ∈ rTexts → PoolOk b' → Q (.str z) (μ.set p (pl a' b'))
  | _ => False

theorem ok_law_reading (W : Wd P w K mg base) : FnD P w K mg base 3 W.f_law_reading (S_law_reading W) := by
  refine (okB W.t_law_reading.d sc_law_reading (by (intro ds μ Q E h; unfold S_law_reading at h; split at h <;> first | rfl | exact h.elim)) _ (fun cdv A outer s H E' g hr => ⟨_, (b_cons (s_set 1 sc_law_reading.nd (d_lst (a_cons d_str (a_cons d_str (a_cons d_str (a_cons d_str (a_cons d_str a_nil)))))))
      (b_cons (s_set 1 sc_law_reading.nd (d_op (op_addA rfl) sim_add (d_var 1) (d_lst (a_cons d_str (a_cons d_str (a_cons d_str (a_cons d_str a_nil)))))))
      (b_cons (s_set 1 sc_law_reading.nd (d_op (op_addA rfl) sim_add (d_var 1) (d_lst (a_cons d_str (a_cons d_str (a_cons d_str (a_cons d_str a_nil)))))))
      (b_cons (s_set 1 sc_law_reading.nd (d_op (op_addA rfl) sim_add (d_var 1) (d_lst (a_cons d_str (a_cons d_str (a_cons d_str a_nil))))))
      (b_cons (s_set 1 sc_law_reading.nd (d_op (op_addA rfl) sim_add (d_var 1) (d_lst (a_cons d_str (a_cons d_str a_nil)))))
      (b_one (s_ret (d_op (op_addA rfl) sim_add (d_ix (d_var 1) (d_op op_mul sim_mul (d_call (ok_law_take W) W.t_law_take.a W.t_law_take.d.kp g hr (takes_of rfl rfl rfl rfl) (a_cons (d_var 0) (a_cons d_int a_nil))) (d_callTy call_int1 sim_int W.z_int (a_cons (d_cmp (op_eqA hr.units rfl) sim_eq (d_call (ok_law_take W) W.t_law_take.a W.t_law_take.d.kp g hr (takes_of rfl rfl rfl rfl) (a_cons (d_var 0) (a_cons d_int a_nil))) d_int (nomark _)) a_nil)))) d_str))))))))⟩) (fun ds μ Q E h => ?_)).fn0 W.t_law_reading.b
  unfold S_law_reading at h
  split at h
  · rename_i p
    obtain ⟨a, b, hp, hb, q⟩ := h
    have lt := lt_of_at hp
    rw [show startD ["pool", "rows"] [.ob p] = [some (.ob p), none] from rfl]
    refine seq_step fun nx hnx => ?_
    push_cast
    refine ⟨by decide, hnx _ _ ?_⟩
    clear hnx nx
    refine seq_step fun nx hnx => ?_
    push_cast
    refine ⟨by decide, by decide, hnx _ _ ?_⟩
    clear hnx nx
    refine seq_step fun nx hnx => ?_
    push_cast
    refine ⟨by decide, by decide, hnx _ _ ?_⟩
    clear hnx nx
    refine seq_step fun nx hnx => ?_
    push_cast
    refine ⟨by decide, by decide, hnx _ _ ?_⟩
    clear hnx nx
    refine seq_step fun nx hnx => ?_
    push_cast
    refine ⟨by decide, by decide, hnx _ _ ?_⟩
    clear hnx nx
    push_cast [S_law_take]
    refine ⟨a, b, hp, hb, by decide, by decide, fun d a b d0 d1 hb => ?_⟩
    refine ⟨_, _, List.getElem?_set_self lt, hb, by decide, by decide, fun d2 a b d20 d21 hb => ?_⟩
    rw [pl_set]
    have hi : ∀ b : Bool, ∃ m : Nat, (d * if b = true then 1 else 0) = (m : Int) ∧ m < 18 := fun b => by
      obtain ⟨n, rfl⟩ := Int.eq_ofNat_of_zero_le d0
      cases b with
      | true => exact ⟨n, by simp, by omega⟩
      | false => exact ⟨0, by simp, by decide⟩
    have c4 : ∀ (x : Int) (b : Bool), CMul x (if b = true then 1 else 0) := fun x b => .inr (by cases b <;> decide)
    refine ⟨c4 _ _, ?_⟩
    obtain ⟨m, em, hm⟩ := hi (d2 == 0)
    show (match atI (rRows.map D.str) (d * if (d2 == 0) = true then 1 else 0) with | some d => _ | none => False)
    rw [em]
    obtain ⟨z, hz⟩ : ∃ z, rRows[m]? = some z := ⟨_, List.getElem?_eq_getElem (show m < rRows.length from hm)⟩
    rw [DX.atI_nat, List.getElem?_map, hz]
    have hzm := List.mem_of_getElem? hz
    have hzl : ∀ z ∈ rRows, z.length ≤ 20 := by decide +kernel
    have := hzl z hzm
    exact ⟨le_line (by rw [show (Str.ofString " page").length = 5 from by decide +kernel]; omega), .inl (q _ _ _ (List.mem_map_of_mem hzm) hb)⟩
  · exact h.elim

end
end Toy
set_option Elab.async false
set_option linter.all false
set_option maxRecDepth 100000
set_option maxHeartbeats 4000000
namespace Toy
open PySem PySem.Spec PyProof.Rows L2 DX
section
variable {P : Program} {w : World} {K : PySem.W.Frag} {mg : Str → Option Value} {base : Heap}
/-- the pool at p, what was made since behind it -/
def pm (μ : Mem) (p : Nat) (a b : Int) (l : Mem) : Mem := μ.set p (pl a b) ++ l
theorem pm_0 {μ : Mem} {p : Nat} {a b : Int} (h : μ[p]? = some (pl a b)) : μ = pm μ p a b [] := by
  unfold pm
  rw [List.append_nil]
  refine List.ext_getElem? fun i => ?_
  by_cases e : p = i
  · subst e; rw [List.getElem?_set_self (lt_of_at h), h]
  · rw [List.getElem?_set_ne e]
theorem pm_len {μ : Mem} {p : Nat} {a b : Int} {l : Mem} : (pm μ p a b l).length = μ.length + l.length := by unfold pm; simp
theorem pm_p {μ : Mem} {p : Nat} {a b : Int} {l : Mem} (h : p < μ.length) : (pm μ p a b l)[p]? = some (pl a b) := by
  unfold pm; rw [at_l (by rw [List.length_set]; exact h), List.getElem?_set_self h]
theorem pm_sp {μ : Mem} {p : Nat} {a b a' b' : Int} {l : Mem} (h : p < μ.length) : (pm μ p a b l).set p (pl a' b') = pm μ p a' b' l := by
  unfold pm; rw [set_l (by rw [List.length_set]; exact h), List.set_set]
theorem pm_n {μ : Mem} {p : Nat} {a b : Int} {l : Mem} (i : Nat) : (pm μ p a b l)[μ.length + i]? = l[i]? := at_rn (by rw [List.length_set]) i
theorem pm_n0 {μ : Mem} {p : Nat} {a b : Int} {l : Mem} : (pm μ p a b l)[μ.length]? = l[0]? := pm_n 0
theorem pm_sn {μ : Mem} {p : Nat} {a b : Int} {l : Mem} (i : Nat) {x : DX.M} : (pm μ p a b l).set (μ.length + i) x = pm μ p a b (l.set i x) := set_rn (by rw [List.length_set]) i
theorem pm_sn0 {μ : Mem} {p : Nat} {a b : Int} {l : Mem} {x : DX.M} : (pm μ p a b l).set μ.length x = pm μ p a b (l.set 0 x) := pm_sn 0
theorem pm_app {μ : Mem} {p : Nat} {a b : Int} {l m : Mem} : pm μ p a b l ++ m = pm μ p a b (l ++ m) := List.append_assoc _ _ _
theorem pm_stays {μ : Mem} {p : Nat} {a b : Int} {l : Mem} : stays μ.length μ (pm μ p a b l) := by
  refine ⟨by rw [pm_len]; omega, fun k m hk hm => ?_⟩
  unfold pm at hm
  rw [at_l (by rw [List.length_set]; exact hk)] at hm
  by_cases e : p = k
  · subst e
    rw [List.getElem?_set_self hk] at hm
    cases hm
    exact .inr rfl
  · rw [List.getElem?_set_ne e] at hm
    exact .inl hm
/-- a draw -/
theorem take_ok (W : Wd P w K mg base) {μ : Mem} {p : Nat} {a b m : Int} {l : Mem} {Q : D → Mem → Prop} {E : Addr → List (Str × D) → Mem → Prop} (h : p < μ.length) (hb : PoolOk b) (h0 : 0 < m) (h1 : m < 1000000)
    (q : ∀ (d : Nat) a' b', (d : Int) < m → PoolOk b' → Q (.int d) (pm μ p a' b' l)) : S_law_take W [.ob p, .int m] (pm μ p a b l) Q E :=
  ⟨a, b, pm_p h, hb, h0, h1, fun d a' b' d0 d1 hb' => by
    rw [pm_sp h]
    obtain ⟨n, rfl⟩ := Int.eq_ofNat_of_zero_le d0
    exact q n a' b' d1 hb'⟩

def S_law_parts (W : Wd P w K mg base) : DSp := fun ds μ Q _ => match ds with
  | [.ob p] => ∃ a b : Int, μ[p]? = some (pl a b) ∧ PoolOk b ∧ ∀ vs a' b' l, vs.length = 12 → TxB vs → PoolOk b' → Q (.lst vs) (μ.set p (pl a' b') ++ l)
  | _ => False

theorem ok_law_parts (W : Wd P w K mg base) : FnD P w K mg base 5 W.f_law_parts (S_law_parts W) := by
  refine (okB W.t_law_parts.d sc_law_parts (by (intro ds μ Q E h; unfold S_law_parts at h; split at h <;> first | rfl | exact h.elim)) _ (fun cdv A outer s H E' g hr => ⟨_, (b_cons (s_set 1 sc_law_parts.nd (d_lstM (a_cons (d_call (ok_law_writing W) W.t_law_writing.a W.t_law_writing.d.kp g hr (takes_of rfl rfl rfl rfl) (a_cons (d_var 0) a_nil)) (a_cons (d_call (ok_law_cleaning W) W.t_law_cleaning.a W.t_law_cleaning.d.kp g hr (takes_of rfl rfl rfl rfl) (a_cons (d_var 0) a_nil)) (a_cons (d_call (ok_law_reading W) W.t_law_reading.a W.t_law_reading.d.kp g (hr.mono (by decide)) (takes_of rfl rfl rfl rfl) (a_cons (d_var 0) a_nil)) a_nil)))))
      (b_cons (s_expr (d_bm PySem.F.slot_list_append PySem.F.type_list_append mt_append sim_append (d_var 1) (a_cons (d_ix (d_lst (a_cons d_str (a_cons d_str (a_cons d_str a_nil)))) (d_call (ok_law_take W) W.t_law_take.a W.t_law_take.d.kp g (hr.mono (by decide)) (takes_of rfl rfl rfl rfl) (a_cons (d_var 0) (a_cons d_int a_nil)))) a_nil)))
      (b_cons (s_for (passes_of rfl) (i_rng1 W.z_range (a_cons d_int a_nil)) (g_name 2 sc_law_parts.nd)
      (b_one (s_expr (d_bm PySem.F.slot_list_append PySem.F.type_list_append mt_append sim_append (d_var 1) (a_cons (d_cmp op_gt sim_gt (d_call (ok_law_take W) W.t_law_take.a W.t_law_take.d.kp g (hr.mono (by decide)) (takes_of rfl rfl rfl rfl) (a_cons (d_var 0) (a_cons d_int a_nil))) d_int (nomark _)) a_nil)))))
      (b_one (s_ret (d_op (op_addA rfl) sim_add (d_var 1) (d_lst (a_cons (d_ix (d_lst (a_cons d_str (a_cons d_str (a_cons d_str (a_cons d_str a_nil))))) (d_call (ok_law_take W) W.t_law_take.a W.t_law_take.d.kp g (hr.mono (by decide)) (takes_of rfl rfl rfl rfl) (a_cons (d_var 0) (a_cons d_int a_nil)))) a_nil))))))))⟩) (fun ds μ Q E h => ?_)).fn0 W.t_law_parts.b
  unfold S_law_parts at h
  split at h
  · rename_i p
    obtain ⟨a, b, hp, hb, q⟩ := h
    have lt := lt_of_at hp
    rw [show startD ["pool", "p", "k"] [.ob p] = [some (.ob p), none, none] from rfl]
    refine seq_step fun nx hnx => ?_
    push_cast [S_law_writing, S_law_cleaning, S_law_reading]
    refine ⟨a, b, hp, hb, fun zw a b hw hb => ⟨_, _, List.getElem?_set_self lt, hb, fun zc a b hc hb => ?_⟩⟩
    rw [pl_set]
    refine ⟨_, _, List.getElem?_set_self lt, hb, fun zr a b hr hb => ?_⟩
    rw [pl_set]
    refine ⟨by decide, hnx _ _ ?_⟩
    clear hnx nx
    refine seq_step fun nx hnx => ?_
    push_cast [S_law_take]
    simp only [List.length_set]
    refine ⟨isLst_at (pm_n0 (a := a) (b := b) (l := [.lst [.str zw, .str zc, .str zr]])), by decide, a, b, pm_p (l := [.lst [.str zw, .str zc, .str zr]]) lt, hb, by decide, by decide, fun d a' b' d0 d1 hb => ?_⟩
    rw [show (List.set μ p (pl a b) ++ [M.lst [D.str zw, D.str zc, D.str zr]]).set p (pl a' b') = pm μ p a' b' [.lst [.str zw, .str zc, .str zr]] from pm_sp lt]
    obtain ⟨h, ha, hh⟩ : ∃ h, atI [D.str (Str.ofString "all"), D.str (Str.ofString "all"), D.str (Str.ofString "none")] d = some h ∧ (h = .str "all" ∨ h = .str "none") := by
      obtain ⟨n, rfl⟩ := Int.eq_ofNat_of_zero_le d0
      match n, d1 with
      | 0, _ => exact ⟨_, rfl, .inl rfl⟩
      | 1, _ => exact ⟨_, rfl, .inl rfl⟩
      | 2, _ => exact ⟨_, rfl, .inr rfl⟩
      | n + 3, h => omega
    rw [ha]
    show (match (pm μ p a' b' [.lst [.str zw, .str zc, .str zr]])[μ.length]? with | some (M.lst xs) => _ | _ => False)
    rw [pm_n0]
    show _ < sizeLine ∧ nx _ ((pm μ p a' b' [.lst [.str zw, .str zc, .str zr]]).set μ.length (.lst [.str zw, .str zc, .str zr, h]))
    rw [pm_sn0]
    refine ⟨le_line (by simp), hnx _ _ ?_⟩
    clear hnx nx
    refine seq_step fun nx hnx => ?_
    push_cast
    refine ⟨by decide, for_map (fun n ρ μ1 => ∃ (a b : Int) (fs : List D) (o2 : Option D), PoolOk b ∧ fs.length = n ∧ (∀ f ∈ fs, ∃ b, f = .bl b) ∧ μ1 = pm μ p a b [.lst ([.str zw, .str zc, .str zr, h] ++ fs)] ∧ ρ = [some (.ob p), some (.ob μ.length), o2])
      ⟨a', b', [], none, hb, rfl, (fun f hf => nomatch hf), rfl, rfl⟩ (fun _ _ _ _ => by first | exact True.intro | rfl) ?_ ?_⟩
    rotate_left
    · rintro n e ρ μ1 go he ⟨a, b, fs, o2, hb, hl, hf, rfl, rfl⟩ kk
      have hn : n < 7 := lt_of_at he
      simp only [uGName, List.set_cons_zero, List.set_cons_succ]
      push_cast [S_law_take]
      refine ⟨isLst_at pm_n0, a, b, pm_p lt, hb, by decide, by decide, fun d a' b' d0 d1 hb => ?_⟩
      rw [pm_sp lt, pm_n0]
      show _ < sizeLine ∧ go _ ((pm μ p a' b' [.lst ([.str zw, .str zc, .str zr, h] ++ fs)]).set μ.length (.lst ([.str zw, .str zc, .str zr, h] ++ fs ++ [.bl (decide (0 < d))])))
      rw [pm_sn0]
      exact ⟨le_line (by simp; omega), kk _ _ ⟨a', b', fs ++ [.bl (decide (0 < d))], _, hb, by rw [List.length_append, hl]; rfl, fun f hf' => by
        rcases List.mem_append.mp hf' with h | h
        · exact hf f h
        · exact ⟨_, List.mem_singleton.mp h⟩, by rw [List.append_assoc]; rfl, rfl⟩⟩
    rintro ρ μ1 ⟨a, b, fs, o2, hb, hl, hf, rfl, rfl⟩
    have hl : fs.length = 7 := hl
    refine hnx _ _ ?_
    clear hnx nx
    push_cast [S_law_take]
    refine ⟨by decide, a, b, pm_p lt, hb, by decide, by decide, fun d a' b' d0 d1 hb => ?_⟩
    rw [pm_sp lt]
    obtain ⟨x, hx, hxx⟩ : ∃ x, atI [D.str (Str.ofString "trust"), D.str (Str.ofString "wait"), D.str (Str.ofString "wait"), D.str (Str.ofString "look")] d = some x ∧ (x = .str "trust" ∨ x = .str "wait" ∨ x = .str "look") := by
      obtain ⟨n, rfl⟩ := Int.eq_ofNat_of_zero_le d0
      match n, d1 with
      | 0, _ => exact ⟨_, rfl, .inl rfl⟩
      | 1, _ => exact ⟨_, rfl, .inr (.inl rfl)⟩
      | 2, _ => exact ⟨_, rfl, .inr (.inl rfl)⟩
      | 3, _ => exact ⟨_, rfl, .inr (.inr rfl)⟩
      | n + 4, h => omega
    rw [hx]
    have vp : viewT (pm μ p a' b' [.lst (D.str zw :: D.str zc :: D.str zr :: h :: fs)]) (.ob μ.length) = .lst (D.str zw :: D.str zc :: D.str zr :: h :: fs) := vT_obL pm_n0
    show 1 ≤ 1000 ∧ (match viewT (pm μ p a' b' [.lst (D.str zw :: D.str zc :: D.str zr :: h :: fs)]) (.ob μ.length), D.lst [x] with | D.int i, D.int j => _ | D.str i, D.str j => _ | D.lst xs, D.lst ys => _ | D.tup xs, D.tup ys => _ | _, _ => False)
    rw [vp]
    exact ⟨by decide, le_line (by simp; omega), .inl (q _ a' b' [.lst (D.str zw :: D.str zc :: D.str zr :: h :: fs)] (by simp; omega) (parts_tx hw hc hr hh hl hf hxx) hb)⟩
  · exact h.elim

end
end Toy
set_option Elab.async false
set_option linter.all false
set_option maxRecDepth 100000
set_option maxHeartbeats 4000000
namespace Toy
open PySem PySem.Spec PyProof.Rows L2 DX
section
variable {P : Program} {w : World} {K : PySem.W.Frag} {mg : Str → Option Value} {base : Heap}
def BL1 (v0 v1 v2 v3 v4 : D) : List D := [v0, v1, v2, v3, v4, .bl true, .bl true, .bl true, .bl true, .bl false, .bl true, .str "wait"]
def BL2 (v0 v1 v2 v3 v4 v5 v6 v7 v8 : D) : List D := [v0, v1, v2, v3, v4, v5, v6, v7, v8, .bl false, .bl true, .str "wait"]
theorem bk_put1 (v0 v1 v2 v3 v4 v5 v6 v7 v8 : D) : dmerge (partsK (BL1 v0 v1 v2 v3 v4)) [((.inr "cleared" : Key), v5), ((.inr "sets" : Key), v6), ((.inr "force" : Key), v7), ((.inr "ahead" : Key), v8)] = partsK (BL2 v0 v1 v2 v3 v4 v5 v6 v7 v8) := by kernel_rfl
theorem bk_put2 (v0 v1 v2 v3 v4 v5 v6 v7 v8 v9 v10 v11 : D) : dmerge (partsK (BL2 v0 v1 v2 v3 v4 v5 v6 v7 v8)) [((.inr "first" : Key), v9), ((.inr "waits" : Key), v10), ((.inr "follower" : Key), v11)] = partsK [v0, v1, v2, v3, v4, v5, v6, v7, v8, v9, v10, v11] := by kernel_rfl
theorem fb_none {L : List D} (hl : L.length = 12) (h : ∀ (i : Nat) p d, PL[i]? = some p → L[i]? = some d → allowB p d = true) : firstBad (partsK L) = none := find_no_str fun i p hp => by
  obtain ⟨d, hd, e⟩ := parts_get hl hp
  unfold badP
  rw [e]
  show (!allowB p d) = false
  rw [h i p d hp hd]; rfl
theorem fk_none {kvs : List (Key × D)} (h : ∀ p v, ((.inr p : Key), v) ∈ kvs → allowB p v = true) : firstBad kvs = none := find_no_str fun i p hp => by
  unfold badP
  cases e : valD kvs (.inr p) with
  | none => rfl
  | some v =>
    show (!allowB p v) = false
    rw [h p v (valD_mem e)]; rfl
theorem bookOf {W : Wd P w K mg base} {μ : Mem} {k j : Nat} {vs : List D} (h : BookM W μ k j vs) : DX.insAt W.C_Book "change" μ (.ob k) := by
  unfold DX.insAt
  rw [v_obI h.2.1]
  exact ⟨rfl, rfl⟩
theorem TxB.val {L : List D} (hl : L.length = 12) (t : TxB L) {μ : Mem} : ∀ v ∈ L, ValW μ v := fun v hv => by
  obtain ⟨i, hi⟩ := List.getElem?_of_mem hv
  have hi12 : i < 12 := by rw [← hl]; exact lt_of_at hi
  exact valW_b (t i _ v (List.getElem?_eq_getElem (show i < PL.length from hi12)) hi).ok.v
theorem BL1_tx {v0 v1 v2 v3 v4 v5 v6 v7 v8 v9 v10 v11 : D} (t : TxB [v0, v1, v2, v3, v4, v5, v6, v7, v8, v9, v10, v11]) : TxB (BL1 v0 v1 v2 v3 v4) := fun i p d hp hd => by
  match i, hp, hd with
  | 0, hp, hd => exact t 0 p d hp hd
  | 1, hp, hd => exact t 1 p d hp hd
  | 2, hp, hd => exact t 2 p d hp hd
  | 3, hp, hd => exact t 3 p d hp hd
  | 4, hp, hd => exact t 4 p d hp hd
  | 5, hp, hd => cases hp; cases hd; exact txP_of (by decide +kernel)
  | 6, hp, hd => cases hp; cases hd; exact txP_of (by decide +kernel)
  | 7, hp, hd => cases hp; cases hd; exact txP_of (by decide +kernel)
  | 8, hp, hd => cases hp; cases hd; exact txP_of (by decide +kernel)
  | 9, hp, hd => cases hp; cases hd; exact txP_of (by decide +kernel)
  | 10, hp, hd => cases hp; cases hd; exact txP_of (by decide +kernel)
  | 11, hp, hd => cases hp; cases hd; exact txP_of (by decide +kernel)
  | n + 12, hp, hd => cases hp

def S_law_book (W : Wd P w K mg base) : DSp := fun ds μ Q _ => match ds with
  | [.lst vs] => vs.length = 12 ∧ TxB vs ∧ Q (.ob μ.length) (μ ++ [.ins W.C_Book [("_parts", .ob (μ.length + 1))], .dic (partsK vs)])
  | _ => False

theorem ok_law_book (W : Wd P w K mg base) : FnD P w K mg base 9 W.f_law_book (S_law_book W) := by
  refine (okB W.t_law_book.d sc_law_book (by (intro ds μ Q E h; unfold S_law_book at h; split at h <;> first | rfl | exact h.elim)) _ (fun cdv A outer s H E' g hr => ⟨_, (b_cons (s_set 1 sc_law_book.nd (d_makeCM0 W.mk_Book (ok_Book_init_writer_cleaner_reader_horizon_pins W) W.c_Book.a g hr (takes_of rfl rfl rfl rfl) (k_cons (d_ix (d_var 0) d_int) (k_cons (d_ix (d_var 0) d_int) (k_cons (d_ix (d_var 0) d_int) (k_cons (d_ix (d_var 0) d_int) (k_cons (d_ix (d_var 0) d_int) k_nil)))))))
      (b_cons (s_expr (d_methK W.c_Book.cl W.t_Book_change.m (okk_Book_change W (ks := ["cleared", "sets", "force", "ahead"]) (by decide) (by decide) (by decide)) g (hr.mono (by decide)) (takes_of rfl rfl rfl rfl) (d_var 1) (k_cons (d_ix (d_var 0) d_int) (k_cons (d_ix (d_var 0) d_int) (k_cons (d_ix (d_var 0) d_int) (k_cons (d_ix (d_var 0) d_int) k_nil))))))
      (b_cons (s_expr (d_methK W.c_Book.cl W.t_Book_change.m (okk_Book_change W (ks := ["first", "waits", "follower"]) (by decide) (by decide) (by decide)) g (hr.mono (by decide)) (takes_of rfl rfl rfl rfl) (d_var 1) (k_cons (d_ix (d_var 0) d_int) (k_cons (d_ix (d_var 0) d_int) (k_cons (d_ix (d_var 0) d_int) k_nil)))))
      (b_one (s_ret (d_var 1))))))⟩) (fun ds μ Q E h => ?_)).fn0 W.t_law_book.b
  unfold S_law_book at h
  split at h
  · rename_i vs
    obtain ⟨hl, ht, q⟩ := h
    rw [show startD ["p", "book"] [.lst vs] = [some (.lst vs), none] from rfl]
    match vs, hl with
    | [v0, v1, v2, v3, v4, v5, v6, v7, v8, v9, v10, v11], hl =>
      refine seq_step fun nx hnx => ?_
      push_cast
      show dMakeM W.C_Book (kwS 1 5 [D.bl true, D.bl true, D.bl true, D.bl true, D.bl false, D.bl true, D.str (Str.ofString "wait")] (fun us ws mv => gsel [0, 1, 2, 3, 4, 5, 6, 7, 8, 9, 10, 11] us ws mv) (S_Book_init W)) [v0, v1, v2, v3, v4] μ _ _
      have t1 := BL1_tx ht
      have o1 : firstBad (partsK (BL1 v0 v1 v2 v3 v4)) = none := fb_none rfl fun i p d hp hd => (t1 i p d hp hd).ok.a
      refine make_book W (vs := BL1 v0 v1 v2 v3 v4) rfl rfl (fun x => rfl) (TxB.val rfl t1) (fun p hp => by rw [o1] at hp; cases hp) (fun _ => hnx _ _ ?_)
      clear hnx nx
      have B1 : BookM W (μ ++ [.ins W.C_Book [("_parts", .ob (μ.length + 1))], .dic (partsK (BL1 v0 v1 v2 v3 v4))]) μ.length (μ.length + 1) (BL1 v0 v1 v2 v3 v4) := BookM.new (l := []) rfl
      refine seq_step fun nx hnx => ?_
      push_cast [uMethK]
      refine ⟨bookOf B1, [.ob μ.length], [v5, v6, v7, v8], rfl, rfl, rfl, ?_⟩
      refine ⟨μ.length + 1, _, B1, (show (4 : Nat) ≤ 12 by decide), fun x hx => ?_, fun p u hu => ?_, fun p hp => ?_, fun _ => ?_⟩
      · have hx : x ∈ [((.inr "cleared" : Key), v5), ((.inr "sets" : Key), v6), ((.inr "force" : Key), v7), ((.inr "ahead" : Key), v8)] := hx
        simp only [List.mem_cons, List.not_mem_nil, or_false] at hx
        rcases hx with rfl | rfl | rfl | rfl <;> exact ⟨_, by decide +kernel, rfl⟩
      · have hu := valD_mem hu
        have hu : ((.inr p : Key), u) ∈ [((.inr "cleared" : Key), v5), ((.inr "sets" : Key), v6), ((.inr "force" : Key), v7), ((.inr "ahead" : Key), v8)] := hu
        simp only [List.mem_cons, List.not_mem_nil, or_false, Prod.mk.injEq] at hu
        refine TxB.val hl ht u ?_
        rcases hu with ⟨_, rfl⟩ | ⟨_, rfl⟩ | ⟨_, rfl⟩ | ⟨_, rfl⟩ <;> simp
      · have e : firstBad [((.inr "cleared" : Key), v5), ((.inr "sets" : Key), v6), ((.inr "force" : Key), v7), ((.inr "ahead" : Key), v8)] = none := fk_none fun p u hu => by
          simp only [List.mem_cons, List.not_mem_nil, or_false, Prod.mk.injEq, Sum.inr.injEq] at hu
          rcases hu with ⟨rfl, rfl⟩ | ⟨rfl, rfl⟩ | ⟨rfl, rfl⟩ | ⟨rfl, rfl⟩
          · exact (ht 5 _ _ rfl rfl).ok.a
          · exact (ht 6 _ _ rfl rfl).ok.a
          · exact (ht 7 _ _ rfl rfl).ok.a
          · exact (ht 8 _ _ rfl rfl).ok.a
        have hp : firstBad [((.inr "cleared" : Key), v5), ((.inr "sets" : Key), v6), ((.inr "force" : Key), v7), ((.inr "ahead" : Key), v8)] = some p := hp
        rw [e] at hp; cases hp
      refine hnx _ _ ?_
      clear hnx nx
      show uSeq _ _ _ _ _ ((μ ++ [M.ins W.C_Book [(Str.ofString "_parts", D.ob (List.length μ + 1))], M.dic (partsK (BL1 v0 v1 v2 v3 v4))]).set (μ.length + 1) (.dic (dmerge (partsK (BL1 v0 v1 v2 v3 v4)) [((.inr "cleared" : Key), v5), (.inr "sets", v6), (.inr "force", v7), (.inr "ahead", v8)])))
      rw [set_rn rfl 1, bk_put1]
      have B2 : BookM W (μ ++ [.ins W.C_Book [("_parts", .ob (μ.length + 1))], .dic (partsK (BL2 v0 v1 v2 v3 v4 v5 v6 v7 v8))]) μ.length (μ.length + 1) (BL2 v0 v1 v2 v3 v4 v5 v6 v7 v8) := BookM.new (l := []) rfl
      refine seq_step fun nx hnx => ?_
      push_cast [uMethK]
      refine ⟨bookOf B2, [.ob μ.length], [v9, v10, v11], rfl, rfl, rfl, ?_⟩
      refine ⟨μ.length + 1, _, B2, (show (3 : Nat) ≤ 12 by decide), fun x hx => ?_, fun p u hu => ?_, fun p hp => ?_, fun _ => ?_⟩
      · have hx : x ∈ [((.inr "first" : Key), v9), ((.inr "waits" : Key), v10), ((.inr "follower" : Key), v11)] := hx
        simp only [List.mem_cons, List.not_mem_nil, or_false] at hx
        rcases hx with rfl | rfl | rfl <;> exact ⟨_, by decide +kernel, rfl⟩
      · have hu := valD_mem hu
        have hu : ((.inr p : Key), u) ∈ [((.inr "first" : Key), v9), ((.inr "waits" : Key), v10), ((.inr "follower" : Key), v11)] := hu
        simp only [List.mem_cons, List.not_mem_nil, or_false, Prod.mk.injEq] at hu
        refine TxB.val hl ht u ?_
        rcases hu with ⟨_, rfl⟩ | ⟨_, rfl⟩ | ⟨_, rfl⟩ <;> simp
      · have e : firstBad [((.inr "first" : Key), v9), ((.inr "waits" : Key), v10), ((.inr "follower" : Key), v11)] = none := fk_none fun p u hu => by
          simp only [List.mem_cons, List.not_mem_nil, or_false, Prod.mk.injEq, Sum.inr.injEq] at hu
          rcases hu with ⟨rfl, rfl⟩ | ⟨rfl, rfl⟩ | ⟨rfl, rfl⟩
          · exact (ht 9 _ _ rfl rfl).ok.a
          · exact (ht 10 _ _ rfl rfl).ok.a
          · exact (ht 11 _ _ rfl rfl).ok.a
        have hp : firstBad [((.inr "first" : Key), v9), ((.inr "waits" : Key), v10), ((.inr "follower" : Key), v11)] = some p := hp
        rw [e] at hp; cases hp
      refine hnx _ _ ?_
      clear hnx nx
      push_cast
      show FZ μ Q (.ob μ.length) ((μ ++ [M.ins W.C_Book [(Str.ofString "_parts", D.ob (List.length μ + 1))], M.dic (partsK (BL2 v0 v1 v2 v3 v4 v5 v6 v7 v8))]).set (μ.length + 1) (.dic (dmerge (partsK (BL2 v0 v1 v2 v3 v4 v5 v6 v7 v8)) [((.inr "first" : Key), v9), (.inr "waits", v10), (.inr "follower", v11)])))
      rw [set_rn rfl 1, bk_put2]
      exact .inl q
  · exact h.elim

end
end Toy
set_option Elab.async false
set_option linter.all false
set_option maxRecDepth 100000
set_option maxHeartbeats 4000000
namespace Toy
open PySem PySem.Spec PyProof.Rows L2 DX
section
variable {P : Program} {w : World} {K : PySem.W.Frag} {mg : Str → Option Value} {base : Heap}
def S_law_names (W : Wd P w K mg base) : DSp := fun ds μ Q _ => match ds with
  | [] => Q (.lst (PL.map .str)) μ
  | _ => False

theorem ok_law_names (W : Wd P w K mg base) : FnD P w K mg base 2 W.f_law_names (S_law_names W) := by
  refine (okB W.t_law_names.d sc_law_names (by (intro ds μ Q E h; unfold S_law_names at h; split at h <;> first | rfl | exact h.elim)) _ (fun cdv A outer s H E' g hr => ⟨_, (b_cons (s_set 0 sc_law_names.nd (d_lst (a_cons d_str (a_cons d_str (a_cons d_str (a_cons d_str (a_cons d_str (a_cons d_str (a_cons d_str (a_cons d_str a_nil))))))))))
      (b_one (s_ret (d_op (op_addA rfl) sim_add (d_var 0) (d_lst (a_cons d_str (a_cons d_str (a_cons d_str (a_cons d_str a_nil)))))))))⟩) (fun ds μ Q E h => ?_)).fn0 W.t_law_names.b
  unfold S_law_names at h
  split at h
  · refine seq_step fun nx hnx => ?_
    push_cast
    refine ⟨by decide, hnx _ _ ?_⟩
    push_cast
    exact ⟨by decide, by decide, .inl h⟩
  · exact h.elim

def S_law_lines (W : Wd P w K mg base) : DSp := fun ds μ Q _ => match ds with
  | [.lst vs] => vs.length = 12 ∧ TxB vs ∧ Q (.ob μ.length) (μ ++ [.lst ((linesF vs).map .str)])
  | _ => False

theorem ok_law_lines (W : Wd P w K mg base) : FnD P w K mg base 3 W.f_law_lines (S_law_lines W) := by
  refine (okB W.t_law_lines.d sc_law_lines (by (intro ds μ Q E h; unfold S_law_lines at h; split at h <;> first | rfl | exact h.elim)) _ (fun cdv A outer s H E' g hr => ⟨_, (b_cons (s_set 1 sc_law_lines.nd (d_lstM a_nil))
      (b_cons (s_for (passes_of rfl) (i_rng1 W.z_range (a_cons d_int a_nil)) (g_name 2 sc_law_lines.nd)
      (b_cons (s_set 3 sc_law_lines.nd (d_ix (d_var 0) (d_var 2)))
      (b_cons (s_if (t_tru (d_isB .bl (by intro _ z; cases z) rfl W.z_isinstance W.z_bool (d_var 3))) (b_one (s_set 3 sc_law_lines.nd (d_ix (d_lst (a_cons d_str (a_cons d_str a_nil))) (d_callTy call_int1 sim_int W.z_int (a_cons (d_var 3) a_nil))))) b_nil)
      (b_one (s_expr (d_bm PySem.F.slot_list_append PySem.F.type_list_append mt_append sim_append (d_var 1) (a_cons (d_op (op_addA rfl) sim_add (d_op (op_addA rfl) sim_add (d_ix (d_call0 (ok_law_names W) W.t_law_names.a W.t_law_names.d.kp g hr (takes_of rfl rfl rfl rfl)) (d_var 2)) d_str) (d_var 3)) a_nil)))))))
      (b_one (s_ret (d_var 1)))))⟩) (fun ds μ Q E h => ?_)).fn0 W.t_law_lines.b
  unfold S_law_lines at h
  split at h
  · rename_i vs
    obtain ⟨hl, ht, q⟩ := h
    rw [show startD ["p", "rows", "at", "worth"] [.lst vs] = [some (.lst vs), none, none, none] from rfl]
    have hll : (linesF vs).length = 12 := by unfold linesF; rw [List.length_zipWith, hl]; rfl
    refine seq_step fun nx hnx => ?_
    push_cast
    refine ⟨by decide, hnx _ _ ?_⟩
    clear hnx nx
    refine seq_step fun nx hnx => ?_
    push_cast
    refine ⟨by decide, for_map (fun n ρ μ1 => ∃ o2 o3 : Option D, μ1 = μ ++ [.lst (((linesF vs).take n).map .str)] ∧ ρ = [some (.lst vs), some (.ob μ.length), o2, o3]) ⟨none, none, rfl, rfl⟩ (fun _ _ _ _ => by first | exact True.intro | rfl) ?_ ?_⟩
    · rintro ρ μ1 ⟨o2, o3, rfl, rfl⟩
      refine hnx _ _ ?_
      rw [show (dints 0 (Int.toNat 12)).length = (linesF vs).length from hll.symm ▸ rfl, List.take_length]
      push_cast
      exact .inl q
    rintro n e ρ μ1 go he ⟨o2, o3, rfl, rfl⟩ kk
    have hn : n < 12 := lt_of_at he
    have he : (dints 0 12)[n]? = some e := he
    rw [dints_get _ _ _ hn, Int.zero_add] at he
    cases he
    obtain ⟨p, hp⟩ : ∃ p, PL[n]? = some p := ⟨_, List.getElem?_eq_getElem (show n < PL.length from hn)⟩
    obtain ⟨d, hd, _⟩ := parts_get hl hp
    have o := ht n p d hp hd
    simp only [uGName, List.set_cons_zero, List.set_cons_succ]
    refine seq_step fun nx2 hnx2 => ?_
    push_cast [hd]
    refine hnx2 _ _ ?_
    clear hnx2 nx2
    refine seq_step fun nx2 hnx2 => ?_
    have el : (linesF vs)[n]? = some (lineF p d) := by unfold linesF; rw [List.getElem?_zipWith, hp, hd]
    have rest : nx2 [some (.lst vs), some (.ob μ.length), some (.int (n : Int)), some (.str (wordF d))] (μ ++ [.lst (((linesF vs).take n).map .str)]) := by
      refine hnx2 _ _ ?_
      clear hnx2 nx2
      push_cast [S_law_names, List.getElem?_map, hp, Option.map_some]
      have h1 := PL_len p (List.mem_of_getElem? hp)
      have h2 := o.n
      have e3 : (Str.ofString " = ").length = 3 := by decide +kernel
      refine ⟨isLst_at at_r0, le_line (by rw [e3]; omega), le_line (by rw [app_len, e3]; omega), Nat.lt_of_le_of_lt (show _ ≤ 12 by rw [List.length_take]; omega) (by decide), kk _ _ ⟨_, _, ?_, rfl⟩⟩
      rw [List.take_add_one, el, List.map_append]; rfl
    rcases o.k with ⟨b, rfl⟩ | ⟨z, rfl⟩
    · push_cast
      refine ⟨by decide, ?_⟩
      cases b <;> exact rest
    · push_cast
      exact rest
  · exact h.elim

end
end Toy
set_option Elab.async false
set_option linter.all false
set_option maxRecDepth 100000
set_option maxHeartbeats 4000000
namespace Toy
open PySem PySem.Spec PyProof.Rows L2 DX
section
variable {P : Program} {w : World} {K : PySem.W.Frag} {mg : Str → Option Value} {base : Heap}
theorem map_erase {α β : Type} (f : α → β) : ∀ (l : List α) (n : Nat), (l.map f).eraseIdx n = (l.eraseIdx n).map f
  | [], _ => rfl
  | a :: l, 0 => rfl
  | a :: l, n + 1 => congrArg (f a :: ·) (map_erase f l n)
theorem erase_perm {α : Type} {x : α} : ∀ {l : List α} {n : Nat}, l[n]? = some x → (x :: l.eraseIdx n).Perm l
  | [], _, h => nomatch h
  | a :: l, 0, h => by cases h; exact List.Perm.refl _
  | a :: l, n + 1, h => by
    have h' : l[n]? = some x := h
    exact (List.Perm.swap a x _).trans ((erase_perm h').cons a)
theorem popAt_ok {μ : Mem} {k n : Nat} {xs : List D} {y : D} {Q : D → Mem → Prop} (h : μ[k]? = some (.lst xs)) (hy : xs[n]? = some y) (hz : xs.length < 1000) (q : Q y (μ.set k (.lst (xs.eraseIdx n)))) : dPopAt (.ob k) [.int (n : Int)] μ Q := by
  have hn := lt_of_at hy
  show (match μ[k]? with | some (M.lst xs) => _ | _ => False)
  rw [h]
  refine ⟨n, y, by omega, by omega, ?_, hy, q⟩
  unfold seqIndex?
  have h1 : ¬ ((n : Int) < 0) := by omega
  simp only [h1, if_false]
  simp
  omega

def S_law_turned (W : Wd P w K mg base) : DSp := fun ds μ Q _ => match ds with
  | [.ob p, v] => ∃ (a b : Int) (ls : List Str), μ[p]? = some (pl a b) ∧ PoolOk b ∧ view μ v = .lst (ls.map .str) ∧ ls.length = 12 ∧ (∀ z ∈ ls, PyData.strOk z = true) ∧
    ∀ (js : List Nat) a' b' l, js.Perm (List.range 12) → PoolOk b' → Q (.ob (μ.length + 1)) (μ.set p (pl a' b') ++ [l, .lst ((js.map fun j => ls.getD j "").map .str)])
  | _ => False

theorem ok_law_turned (W : Wd P w K mg base) : FnD P w K mg base 3 W.f_law_turned (S_law_turned W) := by
  refine (okB W.t_law_turned.d sc_law_turned (by (intro ds μ Q E h; unfold S_law_turned at h; split at h <;> first | rfl | exact h.elim)) _ (fun cdv A outer s H E' g hr => ⟨_, (b_cons (s_set 2 sc_law_turned.nd (d_callTy (call_listA rfl) (sim_list true) W.z_list (a_cons (d_var 1) a_nil)))
      (b_cons (s_set 3 sc_law_turned.nd (d_lstM a_nil))
      (b_cons (s_while (passes_of rfl) (t_cmp (op_neA hr.units rfl) sim_ne (d_var 2) (d_lst a_nil) (nomark _))
      (b_one (s_expr (d_bm PySem.F.slot_list_append PySem.F.type_list_append mt_append sim_append (d_var 3) (a_cons (d_bm PySem.F.slot_list_pop PySem.F.type_list_pop mt_popAt sim_popAt (d_var 2) (a_cons (d_call (ok_law_take W) W.t_law_take.a W.t_law_take.d.kp g hr (takes_of rfl rfl rfl rfl) (a_cons (d_var 0) (a_cons (d_callB (call_lenA rfl) sim_len W.z_len (a_cons (d_var 2) a_nil)) a_nil))) a_nil)) a_nil)))))
      (b_one (s_ret (d_var 3))))))⟩) (fun ds μ Q E h => ?_)).fn0 W.t_law_turned.b
  unfold S_law_turned at h
  split at h
  · rename_i p v
    obtain ⟨a, b, ls, hp, hb, hv, hl, hso, q⟩ := h
    have lt := lt_of_at hp
    rw [show startD ["pool", "rows", "rest", "found"] [.ob p, v] = [some (.ob p), some (v), none, none] from rfl]
    refine seq_step fun nx hnx => ?_
    push_cast [hv]
    refine hnx _ _ ?_
    clear hnx nx
    refine seq_step fun nx hnx => ?_
    push_cast
    refine ⟨by decide, hnx _ _ ?_⟩
    clear hnx nx
    refine seq_step fun nx hnx => ?_
    simp only [List.length_append, List.append_assoc, List.singleton_append, List.length_singleton]
    have loop : ∀ (k : Nat) (rs js : List Nat) (a b : Int), rs.length = k → k ≤ 12 → (∀ r ∈ rs, r < 12) → (js ++ rs).Perm (List.range 12) → PoolOk b → uWhN (uTest (uOp dNe (uVar 2) (uLst uNil)))
        (uDrop (uBM dAppend (uVar 3) (uCons (uBM dPopAt (uVar 2) (uCons (uCall (S_law_take W) (uCons (uVar 0) (uCons (uCB dLen (uCons (uVar 2) uNil)) uNil))) uNil)) uNil)))
        { nx := nx, rt := FZ μ Q } (FZE μ E) (k + 1) [some (D.ob p), some v, some (D.ob (List.length μ)), some (D.ob (List.length μ + 1))]
        (pm μ p a b [.lst ((rs.map fun j => ls.getD j "").map .str), .lst ((js.map fun j => ls.getD j "").map .str)]) := by
      intro k
      induction k with
      | zero =>
        intro rs js a b hk _ _ hperm hb
        obtain rfl : rs = [] := List.eq_nil_of_length_eq_zero hk
        rw [List.append_nil] at hperm
        unfold uWhN
        have v2 : view (pm μ p a b [.lst [], .lst ((js.map fun j => ls.getD j "").map .str)]) (.ob μ.length) = .lst [] := v_obL pm_n0
        push_cast [v2]
        refine ⟨by decide, rfl, ?_⟩
        rw [deqv_lst, show deqvL [] [] = true from rfl]
        refine hnx _ _ ?_
        push_cast
        exact .inl (q js a b _ hperm hb)
      | succ k ih =>
        intro rs js a b hk hk12 hrs hperm hb
        unfold uWhN
        have v2 : view (pm μ p a b [.lst ((rs.map fun j => ls.getD j "").map .str), .lst ((js.map fun j => ls.getD j "").map .str)]) (.ob μ.length) = .lst ((rs.map fun j => ls.getD j "").map .str) := v_obL pm_n0
        push_cast [v2, S_law_take]
        have gl : ∀ j ∈ rs, PyData.strOk (ls.getD j "") = true := fun j hj => by
          obtain ⟨z, hz⟩ : ∃ z, ls[j]? = some z := ⟨_, List.getElem?_eq_getElem (by rw [hl]; exact hrs j hj)⟩
          rw [List.getD_eq_getElem?_getD, hz]
          exact hso z (List.mem_of_getElem? hz)
        have lr : Lay 60 (.lst ((rs.map fun j => ls.getD j "").map D.str)) := lay_lst (k := 59) fun d hd => by
          obtain ⟨z, hz, rfl⟩ := List.mem_map.mp hd
          obtain ⟨j, hj, rfl⟩ := List.mem_map.mp hz
          exact ⟨gl j hj, Nat.zero_le _⟩
        refine ⟨by decide, eqok lr ⟨rfl, by decide⟩, ?_⟩
        obtain ⟨r0, rr, rfl⟩ : ∃ r0 rr, rs = r0 :: rr := by
          cases rs with
          | nil => cases hk
          | cons r0 rr => exact ⟨r0, rr, rfl⟩
        rw [deqv_lst, show deqvL (((r0 :: rr).map fun j => ls.getD j "").map D.str) [] = false from rfl]
        refine ⟨isLst_at (pm_n 1), isLst_at pm_n0, a, b, pm_p lt, hb, by omega, by omega, fun d a' b' d0 d1 hb => ?_⟩
        rw [pm_sp lt]
        obtain ⟨n, rfl⟩ := Int.eq_ofNat_of_zero_le d0
        have hn : n < (r0 :: rr).length := by omega
        generalize hrs' : r0 :: rr = rs at *
        obtain ⟨x, hx⟩ : ∃ x, rs[n]? = some x := ⟨_, List.getElem?_eq_getElem hn⟩
        refine popAt_ok (y := .str (ls.getD x "")) pm_n0 (by rw [List.getElem?_map, List.getElem?_map, hx]; rfl) (by rw [List.length_map, List.length_map]; omega) ?_
        rw [pm_sn0]
        show (match (pm μ p a' b' [_, M.lst ((js.map fun j => ls.getD j "").map D.str)])[μ.length + 1]? with | some (M.lst xs) => _ | _ => False)
        rw [pm_n 1]
        have hjl : js.length ≤ 12 := by
          have := hperm.length_eq
          rw [List.length_append, List.length_range] at this
          omega
        show _ < sizeLine ∧ uWhN _ _ _ _ _ _ ((pm μ p a' b' [_, M.lst ((js.map fun j => ls.getD j "").map D.str)]).set (μ.length + 1) (M.lst ((js.map fun j => ls.getD j "").map D.str ++ [.str (ls.getD x "")])))
        rw [pm_sn 1]
        refine ⟨Nat.lt_of_le_of_lt (show _ ≤ 12 by rw [List.length_map, List.length_map]; exact hjl) (by decide), ?_⟩
        have := ih (rs.eraseIdx n) (js ++ [x]) a' b' (by rw [List.length_eraseIdx_of_lt hn]; omega) (by omega) (fun r hr => hrs r (List.mem_of_mem_eraseIdx hr)) ?_ hb
        · rw [List.map_append, List.map_append] at this
          rw [← map_erase, ← map_erase] at this
          exact this
        · rw [List.append_assoc]
          exact (List.Perm.append_left js (erase_perm hx)).trans hperm
    refine ⟨13, ?_⟩
    have e0 : ls = (List.range 12).map fun j => ls.getD j "" := by
      match ls, hl with
      | [_, _, _, _, _, _, _, _, _, _, _, _], _ => rfl
    have := loop 12 (List.range 12) [] a b (by decide) (by decide) (fun r hr => List.mem_range.mp hr) (List.Perm.refl _) hb
    rw [← e0] at this
    have e1 : pm μ p a b [.lst (ls.map .str), .lst []] = μ ++ [.lst (ls.map .str), .lst []] := by
      have := pm_0 hp
      unfold pm at this ⊢
      rw [List.append_nil] at this
      rw [← this]
    rw [← e1]
    exact this
  · exact h.elim

end
end Toy
set_option Elab.async false
set_option linter.all false
set_option maxRecDepth 100000
set_option maxHeartbeats 4000000
namespace Toy
open PySem PySem.Spec PyProof.Rows L2 DX
section
variable {P : Program} {w : World} {K : PySem.W.Frag} {mg : Str → Option Value} {base : Heap}
theorem line_str {p : Str} {d : D} (hp : p ∈ PL) (o : TxP p d) : PyData.strOk (lineF p d) = true := by
  unfold lineF
  refine strOk_app (strOk_app ?_ (by decide +kernel)) ?_
  · have : ∀ p ∈ PL, PyData.strOk p = true := by decide +kernel
    exact this p hp
  · rcases o.k with ⟨b, rfl⟩ | ⟨z, rfl⟩
    · cases b <;> decide +kernel
    · exact o.ok.l

theorem ok_law (W : Wd P w K mg base) : FnD P w K mg base 10 W.f_law (SLaw0) := by
  refine (okB W.t_law.d sc_law (by (intro ds μ Q E h; obtain ⟨_, ns, hx, _⟩ := h; subst hx; rfl)) _ (fun cdv A outer s H E' g hr => ⟨_, (b_cons (s_for (passes_of rfl) (i_rng1 W.z_range (a_cons (d_callB (call_max2 rfl) sim_two W.z_max (a_cons d_int (a_cons (d_callB (call_min2 rfl) sim_two W.z_min (a_cons d_int (a_cons (d_callB (call_lenA rfl) sim_len W.z_len (a_cons (d_var 0) a_nil)) a_nil))) a_nil))) a_nil)) (g_name 1 sc_law.nd)
      (b_cons (s_set 2 sc_law.nd (d_call (ok_law_pool W) W.t_law_pool.a W.t_law_pool.d.kp g (hr.mono (by decide)) (takes_of rfl rfl rfl rfl) (a_cons (d_var 0) (a_cons (d_var 1) a_nil))))
      (b_cons (s_set 3 sc_law.nd (d_call (ok_law_parts W) W.t_law_parts.a W.t_law_parts.d.kp g (hr.mono (by decide)) (takes_of rfl rfl rfl rfl) (a_cons (d_var 2) a_nil)))
      (b_cons (s_set 4 sc_law.nd (d_m1 F.slot_str_join F.type_str_join (mt_joinA rfl) sim_join d_str (d_call (ok_law_lines W) W.t_law_lines.a W.t_law_lines.d.kp g (hr.mono (by decide)) (takes_of rfl rfl rfl rfl) (a_cons (d_var 3) a_nil))))
      (b_cons (s_if (t_cmp (op_neA hr.units rfl) sim_ne (d_call (ok_book_text W) W.t_book_text.a W.t_book_text.d.kp g (hr.mono (by decide)) (takes_of rfl rfl rfl rfl) (a_cons (d_call (ok_law_book W) W.t_law_book.a W.t_law_book.d.kp g hr (takes_of rfl rfl rfl rfl) (a_cons (d_var 3) a_nil)) a_nil)) (d_var 4) (nomark _)) (b_one (s_ret d_bl)) b_nil)
      (b_one (s_for (passes_of rfl) (i_seq (d_lst (a_cons (d_call (ok_read_book W) W.t_read_book.a W.t_read_book.d.kp g hr (takes_of rfl rfl rfl rfl) (a_cons (d_var 4) a_nil)) (a_cons (d_call (ok_read_book W) W.t_read_book.a W.t_read_book.d.kp g hr (takes_of rfl rfl rfl rfl) (a_cons (d_m1 F.slot_str_join F.type_str_join (mt_joinA rfl) sim_join d_str (d_call (ok_law_turned W) W.t_law_turned.a W.t_law_turned.d.kp g (hr.mono (by decide)) (takes_of rfl rfl rfl rfl) (a_cons (d_var 2) (a_cons (d_call (ok_law_lines W) W.t_law_lines.a W.t_law_lines.d.kp g (hr.mono (by decide)) (takes_of rfl rfl rfl rfl) (a_cons (d_var 3) a_nil)) a_nil)))) a_nil)) a_nil)))) (g_name 5 sc_law.nd)
      (b_one (s_if (WD.td (w_or (t_cmp (op_neO W.ne_Book (ok_Book_eq W) g (hr.mono (by decide)) rfl) sim_neO (d_var 5) (d_call (ok_law_book W) W.t_law_book.a W.t_law_book.d.kp g hr (takes_of rfl rfl rfl rfl) (a_cons (d_var 3) a_nil)) (nomark _)) (w_or1 (t_cmp (op_neA hr.units rfl) sim_ne (d_call (ok_book_text W) W.t_book_text.a W.t_book_text.d.kp g (hr.mono (by decide)) (takes_of rfl rfl rfl rfl) (a_cons (d_var 5) a_nil)) (d_var 4) (nomark _))))) (b_one (s_ret d_bl)) b_nil)))))))))
      (b_one (s_ret d_bl)))⟩) (fun ds μ Q E h => ?_)).fn0 W.t_law.b
  unfold SLaw0 at h
  obtain ⟨rfl, ns, rfl, hn, q⟩ := h
  rw [show startD ["script", "k", "pool", "p", "text", "told"] [.kl (ns.map .int)] = [some (.kl (ns.map .int)), none, none, none, none, none] from rfl]
  have done : ∀ (b : Bool) (μ : Mem), b = true → FZ [] Q (.bl b) μ := fun b μ e => .inl (by rw [e]; exact q _)
  refine seq_step fun nx hnx => ?_
  push_cast
  generalize hK : (if (if (ns.length : Int) < 8 then (ns.length : Int) else 8) > 1 then if (ns.length : Int) < 8 then (ns.length : Int) else 8 else 1) = kk0
  have hk8 : kk0 ≤ 8 ∧ 1 ≤ kk0 := by
    rw [← hK]
    split <;> split <;> omega
  clear hK
  refine ⟨⟨by omega, by omega⟩, ?_⟩
  refine for_map (fun n ρ μ1 => ∃ o1 o2 o3 o4 o5 : Option D, ρ = [some (.kl (ns.map .int)), o1, o2, o3, o4, o5]) ⟨none, none, none, none, none, rfl⟩ (fun _ _ _ _ => by first | exact True.intro | rfl) ?_ ?_
  · rintro ρ μ ⟨o1, o2, o3, o4, o5, rfl⟩
    refine hnx _ _ ?_
    push_cast
    exact done _ _ rfl
  clear hnx
  rintro n e ρ μ go he ⟨o1, o2, o3, o4, o5, rfl⟩ kk
  have hn8 := lt_of_at he
  rw [dints_len] at hn8
  rw [dints_get _ _ _ hn8, Int.zero_add] at he
  cases he
  simp only [uGName, List.set_cons_zero, List.set_cons_succ]
  refine seq_step fun nx2 hnx2 => ?_
  push_cast [S_law_pool]
  refine ⟨ns, rfl, hn, by omega, by omega, fun a b hb => hnx2 _ _ ?_⟩
  clear hnx2 nx2
  refine seq_step fun nx2 hnx2 => ?_
  push_cast [S_law_parts]
  refine ⟨a, b, rfl, hb, fun vs a' b' l hl ht hb' => hnx2 _ _ ?_⟩
  clear hnx2 nx2
  have hP : (μ ++ [pl a' b'] ++ l)[μ.length]? = some (pl a' b') := by rw [List.append_assoc]; exact at_r0
  generalize hp0 : μ.length = p0 at hP
  generalize μ ++ [pl a' b'] ++ l = M0 at hP
  refine seq_step fun nx2 hnx2 => ?_
  push_cast [S_law_lines]
  have mem_ : ∀ z ∈ linesF vs, ∃ (p : Str) (d : D), z = lineF p d ∧ p ∈ PL ∧ TxP p d := fun z hz => by
    obtain ⟨i, hi⟩ := List.getElem?_of_mem hz
    unfold linesF at hi
    rw [List.getElem?_zipWith] at hi
    cases hp : PL[i]? with
    | none => rw [hp] at hi; cases hi
    | some p =>
      cases hd : vs[i]? with
      | none => rw [hp, hd] at hi; cases hi
      | some d =>
        rw [hp, hd] at hi
        cases hi
        exact ⟨p, d, rfl, List.mem_of_getElem? hp, ht i p d hp hd⟩
  have hll : (linesF vs).length = 12 := by unfold linesF; rw [List.length_zipWith, hl]; rfl
  have room : ∀ ls : List Str, ls.length = 12 → (∀ z ∈ ls, z ∈ linesF vs) → (ls.map (·.length)).sum + ls.length * (Str.ofString "\n").length ≤ 16777216 := fun ls h12 hs => by
    have hs := sum_le (n := 112) (ws := ls) fun z hz => by
      obtain ⟨p, d, rfl, hp, o⟩ := mem_ z (hs z hz)
      exact line_len hp o
    rw [h12] at hs ⊢
    rw [show (Str.ofString "\n").length = 1 from by decide +kernel]
    omega
  have at_l12 : ∀ (j : Nat) p d, PL[j]? = some p → vs[j]? = some d → (linesF vs)[j]? = some (lineF p d) := fun j p d hp hd => by unfold linesF; rw [List.getElem?_zipWith, hp, hd]
  refine ⟨hl, ht, linesF vs, .inl (v_obL at_r0), room _ hll (fun z hz => hz), hnx2 _ _ ?_⟩
  clear hnx2 nx2
  have hP : (M0 ++ [M.lst ((linesF vs).map D.str)])[p0]? = some (pl a' b') := by rw [at_l (lt_of_at hP)]; exact hP
  generalize M0 ++ [M.lst ((linesF vs).map D.str)] = M1 at hP
  refine seq_step fun nx2 hnx2 => ?_
  have hB : BookM W (M1 ++ [.ins W.C_Book [("_parts", .ob (M1.length + 1))], .dic (partsK vs)]) M1.length (M1.length + 1) vs := BookM.new (l := []) hl
  push_cast [S_law_book, S_book_text]
  refine ⟨hl, ht, vs, hB.v, ht, ?_⟩
  rw [show (Txt.join (Str.ofString "\n") (linesF vs) == Txt.join (Str.ofString "\n") (linesF vs)) = true from BEq.rfl]
  refine hnx2 _ _ ?_
  clear hnx2 nx2 hB
  have hP : (M1 ++ [.ins W.C_Book [("_parts", .ob (M1.length + 1))], .dic (partsK vs)])[p0]? = some (pl a' b') := by rw [at_l (lt_of_at hP)]; exact hP
  generalize M1 ++ [.ins W.C_Book [("_parts", .ob (M1.length + 1))], .dic (partsK vs)] = M2 at hP
  push_cast [S_read_book]
  refine ⟨List.range 12, vs, linesF vs, hl, ht, rfl, by decide, fun j hj => List.mem_range.mp hj, fun i hi => List.mem_range.mpr hi, hll, fun n j p d hj hp hd => ?_, rfl, fun kvs => ?_⟩
  · have hjn : n < 12 := lt_of_at hj
    rw [List.getElem?_range hjn] at hj
    cases hj
    exact at_l12 n p d hp hd
  have B1 : BookM W (M2 ++ [M.dic kvs, M.ins W.C_Book [(Str.ofString "_parts", D.ob (List.length M2 + 2))], M.dic (partsK vs)]) (M2.length + 1) (M2.length + 2) vs := ⟨hl, at_r 1, at_r 2⟩
  have hP : (M2 ++ [M.dic kvs, M.ins W.C_Book [(Str.ofString "_parts", D.ob (List.length M2 + 2))], M.dic (partsK vs)])[p0]? = some (pl a' b') := by rw [at_l (lt_of_at hP)]; exact hP
  generalize M2 ++ [M.dic kvs, M.ins W.C_Book [(Str.ofString "_parts", D.ob (List.length M2 + 2))], M.dic (partsK vs)] = M3 at B1 hP
  generalize M2.length + 1 = t1 at B1
  generalize M2.length + 2 = j1 at B1
  refine ⟨hl, ht, ?_⟩
  have B1 : BookM W (M3 ++ [M.lst ((linesF vs).map D.str)]) t1 j1 vs := B1.app
  have hP : (M3 ++ [M.lst ((linesF vs).map D.str)])[p0]? = some (pl a' b') := by rw [at_l (lt_of_at hP)]; exact hP
  have hv3 : view (M3 ++ [M.lst ((linesF vs).map D.str)]) (.ob M3.length) = .lst ((linesF vs).map .str) := v_obL at_r0
  generalize M3 ++ [M.lst ((linesF vs).map D.str)] = M4 at B1 hP hv3
  refine ⟨a', b', linesF vs, hP, hb', hv3, hll, fun z hz => ?_, fun js a b l hperm hb => ?_⟩
  · obtain ⟨p, d, rfl, hp, o⟩ := mem_ z hz
    exact line_str hp o
  have n1 : p0 ≠ t1 := fun e => by
    have := B1.2.1
    rw [← e, hP] at this
    cases this
  have n2 : p0 ≠ j1 := fun e => by
    have := B1.2.2
    rw [← e, hP] at this
    cases this
  have hj12 : ∀ j ∈ js, j < 12 := fun j hj => List.mem_range.mp (hperm.mem_iff.mp hj)
  have hjl : js.length = 12 := by rw [hperm.length_eq]; rfl
  have fat : ∀ (n j : Nat), js[n]? = some j → (js.map fun j => (linesF vs).getD j "")[n]? = (linesF vs)[j]? := fun n j hj => by
    rw [List.getElem?_map, hj]
    obtain ⟨z, hz⟩ : ∃ z, (linesF vs)[j]? = some z := ⟨_, List.getElem?_eq_getElem (by rw [hll]; exact hj12 j (List.mem_of_getElem? hj))⟩
    show some ((linesF vs).getD j "") = _
    rw [List.getD_eq_getElem?_getD, hz]; rfl
  have fmem : ∀ z ∈ (js.map fun j => (linesF vs).getD j ""), z ∈ linesF vs := fun z hz => by
    obtain ⟨n, hn⟩ := List.getElem?_of_mem hz
    have hlt := lt_of_at hn
    rw [List.length_map] at hlt
    rw [fat n _ (List.getElem?_eq_getElem hlt)] at hn
    exact List.mem_of_getElem? hn
  refine ⟨js.map fun j => (linesF vs).getD j "", .inl (v_obL (at_rn (by rw [List.length_set]) 1)), room _ (by rw [List.length_map, hjl]) fmem, ?_⟩
  have B1 : BookM W (M4.set p0 (pl a b) ++ [l, M.lst ((js.map fun j => (linesF vs).getD j "").map D.str)]) t1 j1 vs := (B1.set n1 n2).app
  generalize M4.set p0 (pl a b) ++ [l, M.lst ((js.map fun j => (linesF vs).getD j "").map D.str)] = M5 at B1
  refine ⟨js, vs, js.map fun j => (linesF vs).getD j "", hl, ht, hjl, hperm.nodup_iff.mpr (by decide), hj12, fun i hi => hperm.mem_iff.mpr (List.mem_range.mpr hi), by rw [List.length_map, hjl], fun n j p d hj hp hd => by rw [fat n j hj]; exact at_l12 j p d hp hd, rfl, fun kvs2 => ⟨by decide, ?_⟩⟩
  have B2 : BookM W (M5 ++ [M.dic kvs2, M.ins W.C_Book [(Str.ofString "_parts", D.ob (List.length M5 + 2))], M.dic (partsK vs)]) (M5.length + 1) (M5.length + 2) vs := ⟨hl, at_r 1, at_r 2⟩
  have B1 : BookM W (M5 ++ [M.dic kvs2, M.ins W.C_Book [(Str.ofString "_parts", D.ob (List.length M5 + 2))], M.dic (partsK vs)]) t1 j1 vs := B1.app
  generalize M5 ++ [M.dic kvs2, M.ins W.C_Book [(Str.ofString "_parts", D.ob (List.length M5 + 2))], M.dic (partsK vs)] = M6 at B1 B2
  generalize M5.length + 1 = t2 at B2
  generalize M5.length + 2 = j2 at B2
  refine for_map (fun m ρ μ1 => ∃ o5 : Option D, BookM W μ1 t1 j1 vs ∧ BookM W μ1 t2 j2 vs ∧ ρ = [some (.kl (ns.map .int)), some (.int (n : Int)), some (.ob p0), some (.lst vs), some (.str (Txt.join (Str.ofString "\n") (linesF vs))), o5]) ⟨o5, B1, B2, rfl⟩ (fun _ _ _ _ => by first | exact True.intro | rfl) ?_ ?_
  · rintro ρ μ1 ⟨o5, _, _, rfl⟩
    exact kk _ _ ⟨_, _, _, _, _, rfl⟩
  clear B1 B2 M6
  rintro m e ρ M6 go2 he ⟨o5, B1, B2, rfl⟩ kk2
  obtain ⟨t, j, rfl, B⟩ : ∃ t j, e = .ob t ∧ BookM W M6 t j vs := by
    match m, he with
    | 0, he => cases he; exact ⟨_, _, rfl, B1⟩
    | 1, he => cases he; exact ⟨_, _, rfl, B2⟩
    | m + 2, he => cases he
  simp only [uGName, List.set_cons_zero, List.set_cons_succ]
  have hB : BookM W (M6 ++ [.ins W.C_Book [("_parts", .ob (M6.length + 1))], .dic (partsK vs)]) M6.length (M6.length + 1) vs := BookM.new (l := []) hl
  have B : BookM W (M6 ++ [.ins W.C_Book [("_parts", .ob (M6.length + 1))], .dic (partsK vs)]) t j vs := B.app
  have B1 : BookM W (M6 ++ [.ins W.C_Book [("_parts", .ob (M6.length + 1))], .dic (partsK vs)]) t1 j1 vs := B1.app
  have B2 : BookM W (M6 ++ [.ins W.C_Book [("_parts", .ob (M6.length + 1))], .dic (partsK vs)]) t2 j2 vs := B2.app
  push_cast [S_law_book, S_Book_eq, S_book_text]
  refine ⟨hl, ht, ?_⟩
  have each : ∀ d ∈ vs, ∃ p, TxP p d := fun d hd => by
    obtain ⟨i, hi⟩ := List.getElem?_of_mem hd
    have hi12 : i < 12 := by rw [← hl]; exact lt_of_at hi
    exact ⟨_, ht i _ d (List.getElem?_eq_getElem (show i < PL.length from hi12)) hi⟩
  have fl : vs.all dflat = true := List.all_eq_true.mpr fun d hd => by
    obtain ⟨p, o⟩ := each d hd
    exact o.ok.f
  have dr_ : deqvL vs vs = true := (deqv_lst vs vs).symm.trans (deqv_refl (d := .lst vs) (dlayL_all fun d hd => by
    obtain ⟨p, o⟩ := each d hd
    exact o.ok.l))
  refine ⟨by rw [v_obI B.2.1], ⟨.own W.C_Book, ty_view (v_obI hB.2.1), W.c_Book.o, W.nfB⟩, vs, B.v, fl, .inl ⟨vs, hB.v, fl, true, by rw [dr_], ?_⟩⟩
  refine ⟨vs, B.v, ht, ?_⟩
  rw [show (Txt.join (Str.ofString "\n") (linesF vs) == Txt.join (Str.ofString "\n") (linesF vs)) = true from BEq.rfl]
  exact kk2 _ _ ⟨_, B1, B2, rfl⟩

end
end Toy
set_option Elab.async false
set_option linter.all false
set_option maxRecDepth 100000
set_option maxHeartbeats 4000000
namespace Toy
open PySem PySem.Spec PyProof.Rows L2 DX
section
variable {P : Program} {w : World} {K : PySem.W.Frag} {mg : Str → Option Value} {base : Heap}
theorem ok_BadBook_init {f D : Addr} {mc : Value} {fd : FuncData} (F : Fun K "__init__" "BadBook.__init__" s_BadBook_init f fd) (gD : mg "PagesError" = some (.ref D)) (U : Vx.UpC K D mc) : FnOk P w K mg base CX0 1 f fd ["self", "part"] (DX.spErr K "part") := by
  refine F.ok sc_BadBook_init (fun vs H Q E h => ?_) (fun cdv A outer s H vs Q E hr h => ?_)
  · obtain ⟨a, C, v, rfl, _⟩ := h
    rfl
  · obtain ⟨a, C, v, rfl, T, no, ha, q⟩ := h
    refine ⟨_, pss_cons (ps_expr (Vx.pe_up (pe_glob (v := .ref D) (by rfl) gD rfl) U (pa_cons (pv 0) (pa_cons pe_str pa_nil)))) (pss_one (ps_ost (pv 0) (pv 1))), ?_⟩
    exact ⟨rfl, _, rfl, a, C, _, rfl, (by decide), T, ha, _, rfl, _, rfl, a, C, rfl, T, no, .inl ⟨ha, fun d nd ne => q d nd ne⟩⟩
end
end Toy
set_option Elab.async false
set_option linter.all false
set_option maxRecDepth 100000
set_option maxHeartbeats 4000000
namespace Toy
open PySem PySem.Spec PyProof.Rows L2
theorem all_mk {l : PySem.W.OpenLaw} {w : World} {K : PySem.W.Frag} {h : Heap} {mg : Str → Option Value} {fa f_is_one_of f_split f_ahead f_locks f_is_writer f_is_cleaner f_is_reader f_is_part f_is_allowed f_check_parts f_truth_word f_value_of f_line f_book_text f_read_book f_law_pool f_law_take f_law_locked f_law_writing f_law_cleaning f_law_reading f_law_parts f_law_book f_law_names f_law_lines f_law_turned f_law C_Book f_Book_init KD_Book_init f_Book_change f_Book_getitem f_Book_eq d_CHOICES t_CHOICES_horizon t_CHOICES_follower t_CLEANER_WORDS t_PARTS t_READER_WORDS d_TRUTHS t_WRITER_WORDS D_PagesError X_BadBook f_iX_BadBook : Addr}  (X : K.In h) (G : h.Ns mainGlobals mg) (hfa : mg "law" = some (.ref fa))
    {od_is_one_of an_is_one_of : Option Addr} {sl_is_one_of : Array (Option Value)} {oc_is_one_of kV_is_one_of dc_is_one_of pm_is_one_of cd_is_one_of ct_is_one_of : Value} {od_split an_split : Option Addr} {sl_split : Array (Option Value)} {oc_split kV_split dc_split pm_split cd_split ct_split : Value} {od_ahead an_ahead : Option Addr} {sl_ahead : Array (Option Value)} {oc_ahead kV_ahead dc_ahead pm_ahead cd_ahead ct_ahead : Value} {od_locks an_locks : Option Addr} {sl_locks : Array (Option Value)} {oc_locks kV_locks dc_locks pm_locks cd_locks ct_locks : Value} {od_is_writer an_is_writer : Option Addr} {sl_is_writer : Array (Option Value)} {oc_is_writer kV_is_writer dc_is_writer pm_is_writer cd_is_writer ct_is_writer : Value} {od_is_cleaner an_is_cleaner : Option Addr} {sl_is_cleaner : Array (Option Value)} {oc_is_cleaner kV_is_cleaner dc_is_cleaner pm_is_cleaner cd_is_cleaner ct_is_cleaner : Value} {od_is_reader an_is_reader : Option Addr} {sl_is_reader : Array (Option Value)} {oc_is_reader kV_is_reader dc_is_reader pm_is_reader cd_is_reader ct_is_reader : Value} {od_is_part an_is_part : Option Addr} {sl_is_part : Array (Option Value)} {oc_is_part kV_is_part dc_is_part pm_is_part cd_is_part ct_is_part : Value} {od_is_allowed an_is_allowed : Option Addr} {sl_is_allowed : Array (Option Value)} {oc_is_allowed kV_is_allowed dc_is_allowed pm_is_allowed cd_is_allowed ct_is_allowed : Value} {od_check_parts an_check_parts : Option Addr} {sl_check_parts : Array (Option Value)} {oc_check_parts kV_check_parts dc_check_parts pm_check_parts cd_check_parts ct_check_parts : Value} {od_truth_word an_truth_word : Option Addr} {sl_truth_word : Array (Option Value)} {oc_truth_word kV_truth_word dc_truth_word pm_truth_word cd_truth_word ct_truth_word : Value} {od_value_of an_value_of : Option Addr} {sl_value_of : Array (Option Value)} {oc_value_of kV_value_of dc_value_of pm_value_of cd_value_of ct_value_of : Value} {od_line an_line : Option Addr} {sl_line : Array (Option Value)} {oc_line kV_line dc_line pm_line cd_line ct_line : Value} {od_book_text an_book_text : Option Addr} {sl_book_text : Array (Option Value)} {oc_book_text kV_book_text dc_book_text pm_book_text cd_book_text ct_book_text : Value} {od_read_book an_read_book : Option Addr} {sl_read_book : Array (Option Value)} {oc_read_book kV_read_book dc_read_book pm_read_book cd_read_book ct_read_book : Value} {od_law_pool an_law_pool : Option Addr} {sl_law_pool : Array (Option Value)} {oc_law_pool kV_law_pool dc_law_pool pm_law_pool cd_law_pool ct_law_pool : Value} {od_law_take an_law_take : Option Addr} {sl_law_take : Array (Option Value)} {oc_law_take kV_law_take dc_law_take pm_law_take cd_law_take ct_law_take : Value} {od_law_locked an_law_locked : Option Addr} {sl_law_locked : Array (Option Value)} {oc_law_locked kV_law_locked dc_law_locked pm_law_locked cd_law_locked ct_law_locked : Value} {od_law_writing an_law_writing : Option Addr} {sl_law_writing : Array (Option Value)} {oc_law_writing kV_law_writing dc_law_writing pm_law_writing cd_law_writing ct_law_writing : Value} {od_law_cleaning an_law_cleaning : Option Addr} {sl_law_cleaning : Array (Option Value)} {oc_law_cleaning kV_law_cleaning dc_law_cleaning pm_law_cleaning cd_law_cleaning ct_law_cleaning : Value} {od_law_reading an_law_reading : Option Addr} {sl_law_reading : Array (Option Value)} {oc_law_reading kV_law_reading dc_law_reading pm_law_reading cd_law_reading ct_law_reading : Value} {od_law_parts an_law_parts : Option Addr} {sl_law_parts : Array (Option Value)} {oc_law_parts kV_law_parts dc_law_parts pm_law_parts cd_law_parts ct_law_parts : Value} {od_law_book an_law_book : Option Addr} {sl_law_book : Array (Option Value)} {oc_law_book kV_law_book dc_law_book pm_law_book cd_law_book ct_law_book : Value} {od_law_names an_law_names : Option Addr} {sl_law_names : Array (Option Value)} {oc_law_names kV_law_names dc_law_names pm_law_names cd_law_names ct_law_names : Value} {od_law_lines an_law_lines : Option Addr} {sl_law_lines : Array (Option Value)} {oc_law_lines kV_law_lines dc_law_lines pm_law_lines cd_law_lines ct_law_lines : Value} {od_law_turned an_law_turned : Option Addr} {sl_law_turned : Array (Option Value)} {oc_law_turned kV_law_turned dc_law_turned pm_law_turned cd_law_turned ct_law_turned : Value} {od_law an_law : Option Addr} {sl_law : Array (Option Value)} {oc_law kV_law dc_law pm_law cd_law ct_law : Value} {od_Book_init an_Book_init : Option Addr} {sl_Book_init : Array (Option Value)} {oc_Book_init kV_Book_init dc_Book_init pm_Book_init cd_Book_init ct_Book_init : Value} {td_Book_init_horizon : Tok} {td_Book_init_follower : Tok} {od_Book_change an_Book_change : Option Addr} {sl_Book_change : Array (Option Value)} {oc_Book_change kV_Book_change dc_Book_change pm_Book_change cd_Book_change ct_Book_change : Value} {od_Book_getitem an_Book_getitem : Option Addr} {sl_Book_getitem : Array (Option Value)} {oc_Book_getitem kV_Book_getitem dc_Book_getitem pm_Book_getitem cd_Book_getitem ct_Book_getitem : Value} {od_Book_eq an_Book_eq : Option Addr} {sl_Book_eq : Array (Option Value)} {oc_Book_eq kV_Book_eq dc_Book_eq pm_Book_eq cd_Book_eq ct_Book_eq : Value} {dc_CHOICES : Value} {do_CHOICES : Option Addr} {de_CHOICES : Array DictEntry} {dn_CHOICES : Nat} {ds_CHOICES : Array (Option Value)} {tc_CHOICES_horizon : Value} {to_CHOICES_horizon : Option Addr} {ti_CHOICES_horizon : Array Value} {tn_CHOICES_horizon : Nat} {ts_CHOICES_horizon : Array (Option Value)} {tc_CHOICES_follower : Value} {to_CHOICES_follower : Option Addr} {ti_CHOICES_follower : Array Value} {tn_CHOICES_follower : Nat} {ts_CHOICES_follower : Array (Option Value)} {tc_CLEANER_WORDS : Value} {to_CLEANER_WORDS : Option Addr} {ti_CLEANER_WORDS : Array Value} {tn_CLEANER_WORDS : Nat} {ts_CLEANER_WORDS : Array (Option Value)} {tc_PARTS : Value} {to_PARTS : Option Addr} {ti_PARTS : Array Value} {tn_PARTS : Nat} {ts_PARTS : Array (Option Value)} {tc_READER_WORDS : Value} {to_READER_WORDS : Option Addr} {ti_READER_WORDS : Array Value} {tn_READER_WORDS : Nat} {ts_READER_WORDS : Array (Option Value)} {tk_SIGN : Tok} {dc_TRUTHS : Value} {do_TRUTHS : Option Addr} {de_TRUTHS : Array DictEntry} {dn_TRUTHS : Nat} {ds_TRUTHS : Array (Option Value)} {tc_WRITER_WORDS : Value} {to_WRITER_WORDS : Option Addr} {ti_WRITER_WORDS : Array Value} {tn_WRITER_WORDS : Nat} {ts_WRITER_WORDS : Array (Option Value)} {nm_X_BadBook qn_X_BadBook : Str} {ns_X_BadBook : Addr} {bs_X_BadBook bm_X_BadBook : List Value} {sn_X_BadBook : List Str} {sb_X_BadBook : List Value} {ab_X_BadBook : Bool} {co_X_BadBook : Option Bool} {dd_X_BadBook : Option Addr} {m0_X_BadBook m1_X_BadBook m2_X_BadBook m3_X_BadBook m5_X_BadBook : Option Value} {od_iX_BadBook an_iX_BadBook : Option Addr} {sl_iX_BadBook : Array (Option Value)} {oc_iX_BadBook kV_iX_BadBook dc_iX_BadBook pm_iX_BadBook cd_iX_BadBook ct_iX_BadBook : Value}
    (a_is_one_of : PySem.W.nsIn K mainGlobals "is_one_of" = some (some (.ref f_is_one_of)))
    (l_is_one_of : K.lookup f_is_one_of = some ⟨oc_is_one_of, od_is_one_of, .func (PySem.W.fnOf "is_one_of" "is_one_of" (defArgs s_is_one_of) (defBody s_is_one_of) (defScope s_is_one_of) .none kV_is_one_of dc_is_one_of pm_is_one_of an_is_one_of cd_is_one_of ct_is_one_of), sl_is_one_of⟩)
    (c_is_one_of : PySem.W.codeIn K cd_is_one_of "is_one_of" = true)
    (k_is_one_of : PySem.W.keepIn K (.ref f_is_one_of) = true)
    (a_split : PySem.W.nsIn K mainGlobals "_split" = some (some (.ref f_split)))
    (l_split : K.lookup f_split = some ⟨oc_split, od_split, .func (PySem.W.fnOf "_split" "_split" (defArgs s_split) (defBody s_split) (defScope s_split) .none kV_split dc_split pm_split an_split cd_split ct_split), sl_split⟩)
    (c_split : PySem.W.codeIn K cd_split "_split" = true)
    (k_split : PySem.W.keepIn K (.ref f_split) = true)
    (a_ahead : PySem.W.nsIn K mainGlobals "_ahead" = some (some (.ref f_ahead)))
    (l_ahead : K.lookup f_ahead = some ⟨oc_ahead, od_ahead, .func (PySem.W.fnOf "_ahead" "_ahead" (defArgs s_ahead) (defBody s_ahead) (defScope s_ahead) .none kV_ahead dc_ahead pm_ahead an_ahead cd_ahead ct_ahead), sl_ahead⟩)
    (c_ahead : PySem.W.codeIn K cd_ahead "_ahead" = true)
    (k_ahead : PySem.W.keepIn K (.ref f_ahead) = true)
    (a_locks : PySem.W.nsIn K mainGlobals "_locks" = some (some (.ref f_locks)))
    (l_locks : K.lookup f_locks = some ⟨oc_locks, od_locks, .func (PySem.W.fnOf "_locks" "_locks" (defArgs s_locks) (defBody s_locks) (defScope s_locks) .none kV_locks dc_locks pm_locks an_locks cd_locks ct_locks), sl_locks⟩)
    (c_locks : PySem.W.codeIn K cd_locks "_locks" = true)
    (k_locks : PySem.W.keepIn K (.ref f_locks) = true)
    (a_is_writer : PySem.W.nsIn K mainGlobals "is_writer" = some (some (.ref f_is_writer)))
    (l_is_writer : K.lookup f_is_writer = some ⟨oc_is_writer, od_is_writer, .func (PySem.W.fnOf "is_writer" "is_writer" (defArgs s_is_writer) (defBody s_is_writer) (defScope s_is_writer) .none kV_is_writer dc_is_writer pm_is_writer an_is_writer cd_is_writer ct_is_writer), sl_is_writer⟩)
    (c_is_writer : PySem.W.codeIn K cd_is_writer "is_writer" = true)
    (k_is_writer : PySem.W.keepIn K (.ref f_is_writer) = true)
    (a_is_cleaner : PySem.W.nsIn K mainGlobals "is_cleaner" = some (some (.ref f_is_cleaner)))
    (l_is_cleaner : K.lookup f_is_cleaner = some ⟨oc_is_cleaner, od_is_cleaner, .func (PySem.W.fnOf "is_cleaner" "is_cleaner" (defArgs s_is_cleaner) (defBody s_is_cleaner) (defScope s_is_cleaner) .none kV_is_cleaner dc_is_cleaner pm_is_cleaner an_is_cleaner cd_is_cleaner ct_is_cleaner), sl_is_cleaner⟩)
    (c_is_cleaner : PySem.W.codeIn K cd_is_cleaner "is_cleaner" = true)
    (k_is_cleaner : PySem.W.keepIn K (.ref f_is_cleaner) = true)
    (a_is_reader : PySem.W.nsIn K mainGlobals "is_reader" = some (some (.ref f_is_reader)))
    (l_is_reader : K.lookup f_is_reader = some ⟨oc_is_reader, od_is_reader, .func (PySem.W.fnOf "is_reader" "is_reader" (defArgs s_is_reader) (defBody s_is_reader) (defScope s_is_reader) .none kV_is_reader dc_is_reader pm_is_reader an_is_reader cd_is_reader ct_is_reader), sl_is_reader⟩)
    (c_is_reader : PySem.W.codeIn K cd_is_reader "is_reader" = true)
    (k_is_reader : PySem.W.keepIn K (.ref f_is_reader) = true)
    (a_is_part : PySem.W.nsIn K mainGlobals "is_part" = some (some (.ref f_is_part)))
    (l_is_part : K.lookup f_is_part = some ⟨oc_is_part, od_is_part, .func (PySem.W.fnOf "is_part" "is_part" (defArgs s_is_part) (defBody s_is_part) (defScope s_is_part) .none kV_is_part dc_is_part pm_is_part an_is_part cd_is_part ct_is_part), sl_is_part⟩)
    (c_is_part : PySem.W.codeIn K cd_is_part "is_part" = true)
    (k_is_part : PySem.W.keepIn K (.ref f_is_part) = true)
    (a_is_allowed : PySem.W.nsIn K mainGlobals "is_allowed" = some (some (.ref f_is_allowed)))
    (l_is_allowed : K.lookup f_is_allowed = some ⟨oc_is_allowed, od_is_allowed, .func (PySem.W.fnOf "is_allowed" "is_allowed" (defArgs s_is_allowed) (defBody s_is_allowed) (defScope s_is_allowed) .none kV_is_allowed dc_is_allowed pm_is_allowed an_is_allowed cd_is_allowed ct_is_allowed), sl_is_allowed⟩)
    (c_is_allowed : PySem.W.codeIn K cd_is_allowed "is_allowed" = true)
    (k_is_allowed : PySem.W.keepIn K (.ref f_is_allowed) = true)
    (a_check_parts : PySem.W.nsIn K mainGlobals "_check_parts" = some (some (.ref f_check_parts)))
    (l_check_parts : K.lookup f_check_parts = some ⟨oc_check_parts, od_check_parts, .func (PySem.W.fnOf "_check_parts" "_check_parts" (defArgs s_check_parts) (defBody s_check_parts) (defScope s_check_parts) .none kV_check_parts dc_check_parts pm_check_parts an_check_parts cd_check_parts ct_check_parts), sl_check_parts⟩)
    (c_check_parts : PySem.W.codeIn K cd_check_parts "_check_parts" = true)
    (k_check_parts : PySem.W.keepIn K (.ref f_check_parts) = true)
    (a_truth_word : PySem.W.nsIn K mainGlobals "truth_word" = some (some (.ref f_truth_word)))
    (l_truth_word : K.lookup f_truth_word = some ⟨oc_truth_word, od_truth_word, .func (PySem.W.fnOf "truth_word" "truth_word" (defArgs s_truth_word) (defBody s_truth_word) (defScope s_truth_word) .none kV_truth_word dc_truth_word pm_truth_word an_truth_word cd_truth_word ct_truth_word), sl_truth_word⟩)
    (c_truth_word : PySem.W.codeIn K cd_truth_word "truth_word" = true)
    (k_truth_word : PySem.W.keepIn K (.ref f_truth_word) = true)
    (a_value_of : PySem.W.nsIn K mainGlobals "value_of" = some (some (.ref f_value_of)))
    (l_value_of : K.lookup f_value_of = some ⟨oc_value_of, od_value_of, .func (PySem.W.fnOf "value_of" "value_of" (defArgs s_value_of) (defBody s_value_of) (defScope s_value_of) .none kV_value_of dc_value_of pm_value_of an_value_of cd_value_of ct_value_of), sl_value_of⟩)
    (c_value_of : PySem.W.codeIn K cd_value_of "value_of" = true)
    (k_value_of : PySem.W.keepIn K (.ref f_value_of) = true)
    (a_line : PySem.W.nsIn K mainGlobals "_line" = some (some (.ref f_line)))
    (l_line : K.lookup f_line = some ⟨oc_line, od_line, .func (PySem.W.fnOf "_line" "_line" (defArgs s_line) (defBody s_line) (defScope s_line) .none kV_line dc_line pm_line an_line cd_line ct_line), sl_line⟩)
    (c_line : PySem.W.codeIn K cd_line "_line" = true)
    (k_line : PySem.W.keepIn K (.ref f_line) = true)
    (a_book_text : PySem.W.nsIn K mainGlobals "book_text" = some (some (.ref f_book_text)))
    (l_book_text : K.lookup f_book_text = some ⟨oc_book_text, od_book_text, .func (PySem.W.fnOf "book_text" "book_text" (defArgs s_book_text) (defBody s_book_text) (defScope s_book_text) .none kV_book_text dc_book_text pm_book_text an_book_text cd_book_text ct_book_text), sl_book_text⟩)
    (c_book_text : PySem.W.codeIn K cd_book_text "book_text" = true)
    (k_book_text : PySem.W.keepIn K (.ref f_book_text) = true)
    (a_read_book : PySem.W.nsIn K mainGlobals "read_book" = some (some (.ref f_read_book)))
    (l_read_book : K.lookup f_read_book = some ⟨oc_read_book, od_read_book, .func (PySem.W.fnOf "read_book" "read_book" (defArgs s_read_book) (defBody s_read_book) (defScope s_read_book) .none kV_read_book dc_read_book pm_read_book an_read_book cd_read_book ct_read_book), sl_read_book⟩)
    (c_read_book : PySem.W.codeIn K cd_read_book "read_book" = true)
    (k_read_book : PySem.W.keepIn K (.ref f_read_book) = true)
    (a_law_pool : PySem.W.nsIn K mainGlobals "_law_pool" = some (some (.ref f_law_pool)))
    (l_law_pool : K.lookup f_law_pool = some ⟨oc_law_pool, od_law_pool, .func (PySem.W.fnOf "_law_pool" "_law_pool" (defArgs s_law_pool) (defBody s_law_pool) (defScope s_law_pool) .none kV_law_pool dc_law_pool pm_law_pool an_law_pool cd_law_pool ct_law_pool), sl_law_pool⟩)
    (c_law_pool : PySem.W.codeIn K cd_law_pool "_law_pool" = true)
    (k_law_pool : PySem.W.keepIn K (.ref f_law_pool) = true)
    (a_law_take : PySem.W.nsIn K mainGlobals "_law_take" = some (some (.ref f_law_take)))
    (l_law_take : K.lookup f_law_take = some ⟨oc_law_take, od_law_take, .func (PySem.W.fnOf "_law_take" "_law_take" (defArgs s_law_take) (defBody s_law_take) (defScope s_law_take) .none kV_law_take dc_law_take pm_law_take an_law_take cd_law_take ct_law_take), sl_law_take⟩)
    (c_law_take : PySem.W.codeIn K cd_law_take "_law_take" = true)
    (k_law_take : PySem.W.keepIn K (.ref f_law_take) = true)
    (a_law_locked : PySem.W.nsIn K mainGlobals "_law_locked" = some (some (.ref f_law_locked)))
    (l_law_locked : K.lookup f_law_locked = some ⟨oc_law_locked, od_law_locked, .func (PySem.W.fnOf "_law_locked" "_law_locked" (defArgs s_law_locked) (defBody s_law_locked) (defScope s_law_locked) .none kV_law_locked dc_law_locked pm_law_locked an_law_locked cd_law_locked ct_law_locked), sl_law_locked⟩)
    (c_law_locked : PySem.W.codeIn K cd_law_locked "_law_locked" = true)
    (k_law_locked : PySem.W.keepIn K (.ref f_law_locked) = true)
    (a_law_writing : PySem.W.nsIn K mainGlobals "_law_writing" = some (some (.ref f_law_writing)))
    (l_law_writing : K.lookup f_law_writing = some ⟨oc_law_writing, od_law_writing, .func (PySem.W.fnOf "_law_writing" "_law_writing" (defArgs s_law_writing) (defBody s_law_writing) (defScope s_law_writing) .none kV_law_writing dc_law_writing pm_law_writing an_law_writing cd_law_writing ct_law_writing), sl_law_writing⟩)
    (c_law_writing : PySem.W.codeIn K cd_law_writing "_law_writing" = true)
    (k_law_writing : PySem.W.keepIn K (.ref f_law_writing) = true)
    (a_law_cleaning : PySem.W.nsIn K mainGlobals "_law_cleaning" = some (some (.ref f_law_cleaning)))
    (l_law_cleaning : K.lookup f_law_cleaning = some ⟨oc_law_cleaning, od_law_cleaning, .func (PySem.W.fnOf "_law_cleaning" "_law_cleaning" (defArgs s_law_cleaning) (defBody s_law_cleaning) (defScope s_law_cleaning) .none kV_law_cleaning dc_law_cleaning pm_law_cleaning an_law_cleaning cd_law_cleaning ct_law_cleaning), sl_law_cleaning⟩)
    (c_law_cleaning : PySem.W.codeIn K cd_law_cleaning "_law_cleaning" = true)
    (k_law_cleaning : PySem.W.keepIn K (.ref f_law_cleaning) = true)
    (a_law_reading : PySem.W.nsIn K mainGlobals "_law_reading" = some (some (.ref f_law_reading)))
    (l_law_reading : K.lookup f_law_reading = some ⟨oc_law_reading, od_law_reading, .func (PySem.W.fnOf "_law_reading" "_law_reading" (defArgs s_law_reading) (defBody s_law_reading) (defScope s_law_reading) .none kV_law_reading dc_law_reading pm_law_reading an_law_reading cd_law_reading ct_law_reading), sl_law_reading⟩)
    (c_law_reading : PySem.W.codeIn K cd_law_reading "_law_reading" = true)
    (k_law_reading : PySem.W.keepIn K (.ref f_law_reading) = true)
    (a_law_parts : PySem.W.nsIn K mainGlobals "_law_parts" = some (some (.ref f_law_parts)))
    (l_law_parts : K.lookup f_law_parts = some ⟨oc_law_parts, od_law_parts, .func (PySem.W.fnOf "_law_parts" "_law_parts" (defArgs s_law_parts) (defBody s_law_parts) (defScope s_law_parts) .none kV_law_parts dc_law_parts pm_law_parts an_law_parts cd_law_parts ct_law_parts), sl_law_parts⟩)
    (c_law_parts : PySem.W.codeIn K cd_law_parts "_law_parts" = true)
    (k_law_parts : PySem.W.keepIn K (.ref f_law_parts) = true)
    (a_law_book : PySem.W.nsIn K mainGlobals "_law_book" = some (some (.ref f_law_book)))
    (l_law_book : K.lookup f_law_book = some ⟨oc_law_book, od_law_book, .func (PySem.W.fnOf "_law_book" "_law_book" (defArgs s_law_book) (defBody s_law_book) (defScope s_law_book) .none kV_law_book dc_law_book pm_law_book an_law_book cd_law_book ct_law_book), sl_law_book⟩)
    (c_law_book : PySem.W.codeIn K cd_law_book "_law_book" = true)
    (k_law_book : PySem.W.keepIn K (.ref f_law_book) = true)
    (a_law_names : PySem.W.nsIn K mainGlobals "_law_names" = some (some (.ref f_law_names)))
    (l_law_names : K.lookup f_law_names = some ⟨oc_law_names, od_law_names, .func (PySem.W.fnOf "_law_names" "_law_names" (defArgs s_law_names) (defBody s_law_names) (defScope s_law_names) .none kV_law_names dc_law_names pm_law_names an_law_names cd_law_names ct_law_names), sl_law_names⟩)
    (c_law_names : PySem.W.codeIn K cd_law_names "_law_names" = true)
    (k_law_names : PySem.W.keepIn K (.ref f_law_names) = true)
    (a_law_lines : PySem.W.nsIn K mainGlobals "_law_lines" = some (some (.ref f_law_lines)))
    (l_law_lines : K.lookup f_law_lines = some ⟨oc_law_lines, od_law_lines, .func (PySem.W.fnOf "_law_lines" "_law_lines" (defArgs s_law_lines) (defBody s_law_lines) (defScope s_law_lines) .none kV_law_lines dc_law_lines pm_law_lines an_law_lines cd_law_lines ct_law_lines), sl_law_lines⟩)
    (c_law_lines : PySem.W.codeIn K cd_law_lines "_law_lines" = true)
    (k_law_lines : PySem.W.keepIn K (.ref f_law_lines) = true)
    (a_law_turned : PySem.W.nsIn K mainGlobals "_law_turned" = some (some (.ref f_law_turned)))
    (l_law_turned : K.lookup f_law_turned = some ⟨oc_law_turned, od_law_turned, .func (PySem.W.fnOf "_law_turned" "_law_turned" (defArgs s_law_turned) (defBody s_law_turned) (defScope s_law_turned) .none kV_law_turned dc_law_turned pm_law_turned an_law_turned cd_law_turned ct_law_turned), sl_law_turned⟩)
    (c_law_turned : PySem.W.codeIn K cd_law_turned "_law_turned" = true)
    (k_law_turned : PySem.W.keepIn K (.ref f_law_turned) = true)
    (a_law : PySem.W.nsIn K mainGlobals "law" = some (some (.ref f_law)))
    (l_law : K.lookup f_law = some ⟨oc_law, od_law, .func (PySem.W.fnOf "law" "law" (defArgs s_law) (defBody s_law) (defScope s_law) .none kV_law dc_law pm_law an_law cd_law ct_law), sl_law⟩)
    (c_law : PySem.W.codeIn K cd_law "law" = true)
    (k_law : PySem.W.keepIn K (.ref f_law) = true)
    (cG : PySem.W.specialIn K (.builtin "object.__class__") "__get__" = some (some (.builtin "getset_descriptor.__get__")))
    (cT : PySem.W.takesIn K (.builtin "object.__class__") = some true)
    (a_C_Book : PySem.W.nsIn K mainGlobals "Book" = some (some (.ref C_Book)))
    (pg_C_Book : PySem.W.plainGet K C_Book Str.empty = true)
    (hd_C_Book : PySem.W.hasDictIn K C_Book = true)
    (po_C_Book : PySem.W.plainOver K C_Book = true)
    (sa_C_Book : PySem.W.findIn K (.ref C_Book) "__setattr__" = some (some (.builtin "object.__setattr__")))
    (mk_C_Book : PySem.W.makesIn K C_Book = true)
    (kc_C_Book : PySem.W.keepIn K (.ref C_Book) = true)
    (cC_C_Book : PySem.W.findIn K (.ref C_Book) "__class__" = some (some (.builtin "object.__class__")))
    (cM_C_Book : PySem.W.mroIn K C_Book (.type "object") = some true)
    (kk_C_Book : PySem.W.kitOne K (.ref C_Book) (.ref C_Book) = some true)
    (n_Book_parts : PySem.W.findIn K (.ref C_Book) "_parts" = some none)
    (kt_Book_NoneType : PySem.W.kitOne K (.type "NoneType") (.ref C_Book) = some false)
    (kt_Book_bool : PySem.W.kitOne K (.type "bool") (.ref C_Book) = some false)
    (kt_Book_int : PySem.W.kitOne K (.type "int") (.ref C_Book) = some false)
    (kt_Book_str : PySem.W.kitOne K (.type "str") (.ref C_Book) = some false)
    (kt_Book_bytes : PySem.W.kitOne K (.type "bytes") (.ref C_Book) = some false)
    (kt_Book_list : PySem.W.kitOne K (.type "list") (.ref C_Book) = some false)
    (kt_Book_tuple : PySem.W.kitOne K (.type "tuple") (.ref C_Book) = some false)
    (kt_Book_dict : PySem.W.kitOne K (.type "dict") (.ref C_Book) = some false)
    (a_Book_init : PySem.W.findIn K (.ref C_Book) "__init__" = some (some (.ref f_Book_init)))
    (i_Book_init : PySem.W.isFn K (.ref f_Book_init) = true)
    (l_Book_init : K.lookup f_Book_init = some ⟨oc_Book_init, od_Book_init, .func (PySem.W.fnOf "__init__" "Book.__init__" (defArgs s_Book_init) (defBody s_Book_init) (defScope s_Book_init) .none kV_Book_init dc_Book_init pm_Book_init an_Book_init cd_Book_init ct_Book_init), sl_Book_init⟩)
    (c_Book_init : PySem.W.codeIn K cd_Book_init "Book.__init__" = true)
    (k_Book_init : PySem.W.keepIn K (.ref f_Book_init) = true)
    (kv_Book_init : kV_Book_init = .ref KD_Book_init)
    (kd_Book_init_horizon : PySem.W.nsIn K KD_Book_init "horizon" = some (some (.str (Str.ofString "all") td_Book_init_horizon)))
    (kd_Book_init_pins : PySem.W.nsIn K KD_Book_init "pins" = some (some (.bool true)))
    (kd_Book_init_cleared : PySem.W.nsIn K KD_Book_init "cleared" = some (some (.bool true)))
    (kd_Book_init_sets : PySem.W.nsIn K KD_Book_init "sets" = some (some (.bool true)))
    (kd_Book_init_force : PySem.W.nsIn K KD_Book_init "force" = some (some (.bool true)))
    (kd_Book_init_ahead : PySem.W.nsIn K KD_Book_init "ahead" = some (some (.bool true)))
    (kd_Book_init_first : PySem.W.nsIn K KD_Book_init "first" = some (some (.bool false)))
    (kd_Book_init_waits : PySem.W.nsIn K KD_Book_init "waits" = some (some (.bool true)))
    (kd_Book_init_follower : PySem.W.nsIn K KD_Book_init "follower" = some (some (.str (Str.ofString "wait") td_Book_init_follower)))
    (a_Book_change : PySem.W.findIn K (.ref C_Book) "change" = some (some (.ref f_Book_change)))
    (i_Book_change : PySem.W.isFn K (.ref f_Book_change) = true)
    (l_Book_change : K.lookup f_Book_change = some ⟨oc_Book_change, od_Book_change, .func (PySem.W.fnOf "change" "Book.change" (defArgs s_Book_change) (defBody s_Book_change) (defScope s_Book_change) .none kV_Book_change dc_Book_change pm_Book_change an_Book_change cd_Book_change ct_Book_change), sl_Book_change⟩)
    (c_Book_change : PySem.W.codeIn K cd_Book_change "Book.change" = true)
    (k_Book_change : PySem.W.keepIn K (.ref f_Book_change) = true)
    (a_Book_getitem : PySem.W.findIn K (.ref C_Book) "__getitem__" = some (some (.ref f_Book_getitem)))
    (i_Book_getitem : PySem.W.isFn K (.ref f_Book_getitem) = true)
    (l_Book_getitem : K.lookup f_Book_getitem = some ⟨oc_Book_getitem, od_Book_getitem, .func (PySem.W.fnOf "__getitem__" "Book.__getitem__" (defArgs s_Book_getitem) (defBody s_Book_getitem) (defScope s_Book_getitem) .none kV_Book_getitem dc_Book_getitem pm_Book_getitem an_Book_getitem cd_Book_getitem ct_Book_getitem), sl_Book_getitem⟩)
    (c_Book_getitem : PySem.W.codeIn K cd_Book_getitem "Book.__getitem__" = true)
    (k_Book_getitem : PySem.W.keepIn K (.ref f_Book_getitem) = true)
    (a_Book_eq : PySem.W.findIn K (.ref C_Book) "__eq__" = some (some (.ref f_Book_eq)))
    (i_Book_eq : PySem.W.isFn K (.ref f_Book_eq) = true)
    (l_Book_eq : K.lookup f_Book_eq = some ⟨oc_Book_eq, od_Book_eq, .func (PySem.W.fnOf "__eq__" "Book.__eq__" (defArgs s_Book_eq) (defBody s_Book_eq) (defScope s_Book_eq) .none kV_Book_eq dc_Book_eq pm_Book_eq an_Book_eq cd_Book_eq ct_Book_eq), sl_Book_eq⟩)
    (c_Book_eq : PySem.W.codeIn K cd_Book_eq "Book.__eq__" = true)
    (k_Book_eq : PySem.W.keepIn K (.ref f_Book_eq) = true)
    (fi_Book : PySem.W.fnIn K f_Book_getitem = true)
    (g_CHOICES : PySem.W.nsIn K mainGlobals "CHOICES" = some (some (.ref d_CHOICES)))
    (ld_CHOICES : K.lookup d_CHOICES = some ⟨dc_CHOICES, do_CHOICES, .dict de_CHOICES dn_CHOICES, ds_CHOICES⟩)
    (dC_CHOICES : dc_CHOICES = .type "dict")
    (dO_CHOICES : do_CHOICES = none)
    (dS_CHOICES : ds_CHOICES = #[])
    (dM_CHOICES : (d_CHOICES == sysModules) = false)
    (dR_CHOICES : PyProof.Rows.KTD.Rows (fun v u => RelV v u) de_CHOICES.toList [((Str.ofString "horizon" : Str), V.ref t_CHOICES_horizon), ((Str.ofString "follower" : Str), V.ref t_CHOICES_follower)])
    (lk_CHOICES_horizon : K.lookup t_CHOICES_horizon = some ⟨tc_CHOICES_horizon, to_CHOICES_horizon, .seq ti_CHOICES_horizon tn_CHOICES_horizon, ts_CHOICES_horizon⟩)
    (cl_CHOICES_horizon : tc_CHOICES_horizon = .type "tuple")
    (sz_CHOICES_horizon : ti_CHOICES_horizon.size ≤ sizeLine)
    (vl_CHOICES_horizon : Vals [.str (Str.ofString "all"), .str (Str.ofString "none")] ti_CHOICES_horizon.toList)
    (lk_CHOICES_follower : K.lookup t_CHOICES_follower = some ⟨tc_CHOICES_follower, to_CHOICES_follower, .seq ti_CHOICES_follower tn_CHOICES_follower, ts_CHOICES_follower⟩)
    (cl_CHOICES_follower : tc_CHOICES_follower = .type "tuple")
    (sz_CHOICES_follower : ti_CHOICES_follower.size ≤ sizeLine)
    (vl_CHOICES_follower : Vals [.str (Str.ofString "trust"), .str (Str.ofString "wait"), .str (Str.ofString "look")] ti_CHOICES_follower.toList)
    (g_CLEANER_WORDS : PySem.W.nsIn K mainGlobals "CLEANER_WORDS" = some (some (.ref t_CLEANER_WORDS)))
    (lk_CLEANER_WORDS : K.lookup t_CLEANER_WORDS = some ⟨tc_CLEANER_WORDS, to_CLEANER_WORDS, .seq ti_CLEANER_WORDS tn_CLEANER_WORDS, ts_CLEANER_WORDS⟩)
    (cl_CLEANER_WORDS : tc_CLEANER_WORDS = .type "tuple")
    (sz_CLEANER_WORDS : ti_CLEANER_WORDS.size ≤ sizeLine)
    (vl_CLEANER_WORDS : Vals [.str (Str.ofString "again"), .str (Str.ofString "lock"), .str (Str.ofString "look"), .str (Str.ofString "remove"), .str (Str.ofString "set"), .str (Str.ofString "unlock")] ti_CLEANER_WORDS.toList)
    (g_PARTS : PySem.W.nsIn K mainGlobals "PARTS" = some (some (.ref t_PARTS)))
    (lk_PARTS : K.lookup t_PARTS = some ⟨tc_PARTS, to_PARTS, .seq ti_PARTS tn_PARTS, ts_PARTS⟩)
    (cl_PARTS : tc_PARTS = .type "tuple")
    (sz_PARTS : ti_PARTS.size ≤ sizeLine)
    (vl_PARTS : Vals [.str (Str.ofString "writer"), .str (Str.ofString "cleaner"), .str (Str.ofString "reader"), .str (Str.ofString "horizon"), .str (Str.ofString "pins"), .str (Str.ofString "cleared"), .str (Str.ofString "sets"), .str (Str.ofString "force"), .str (Str.ofString "ahead"), .str (Str.ofString "first"), .str (Str.ofString "waits"), .str (Str.ofString "follower")] ti_PARTS.toList)
    (g_READER_WORDS : PySem.W.nsIn K mainGlobals "READER_WORDS" = some (some (.ref t_READER_WORDS)))
    (lk_READER_WORDS : K.lookup t_READER_WORDS = some ⟨tc_READER_WORDS, to_READER_WORDS, .seq ti_READER_WORDS tn_READER_WORDS, ts_READER_WORDS⟩)
    (cl_READER_WORDS : tc_READER_WORDS = .type "tuple")
    (sz_READER_WORDS : ti_READER_WORDS.size ≤ sizeLine)
    (vl_READER_WORDS : Vals [.str (Str.ofString "entry"), .str (Str.ofString "hold"), .str (Str.ofString "mark"), .str (Str.ofString "page"), .str (Str.ofString "take"), .str (Str.ofString "tell")] ti_READER_WORDS.toList)
    (g_SIGN : PySem.W.nsIn K mainGlobals "SIGN" = some (some (.str (Str.ofString " = ") tk_SIGN)))
    (g_TRUTHS : PySem.W.nsIn K mainGlobals "TRUTHS" = some (some (.ref d_TRUTHS)))
    (ld_TRUTHS : K.lookup d_TRUTHS = some ⟨dc_TRUTHS, do_TRUTHS, .dict de_TRUTHS dn_TRUTHS, ds_TRUTHS⟩)
    (dC_TRUTHS : dc_TRUTHS = .type "dict")
    (dO_TRUTHS : do_TRUTHS = none)
    (dS_TRUTHS : ds_TRUTHS = #[])
    (dM_TRUTHS : (d_TRUTHS == sysModules) = false)
    (dR_TRUTHS : PyProof.Rows.KTD.Rows (fun v u => RelV v u) de_TRUTHS.toList [((Str.ofString "yes" : Str), V.bl true), ((Str.ofString "no" : Str), V.bl false)])
    (g_WRITER_WORDS : PySem.W.nsIn K mainGlobals "WRITER_WORDS" = some (some (.ref t_WRITER_WORDS)))
    (lk_WRITER_WORDS : K.lookup t_WRITER_WORDS = some ⟨tc_WRITER_WORDS, to_WRITER_WORDS, .seq ti_WRITER_WORDS tn_WRITER_WORDS, ts_WRITER_WORDS⟩)
    (cl_WRITER_WORDS : tc_WRITER_WORDS = .type "tuple")
    (sz_WRITER_WORDS : ti_WRITER_WORDS.size ≤ sizeLine)
    (vl_WRITER_WORDS : Vals [.str (Str.ofString "change"), .str (Str.ofString "clear"), .str (Str.ofString "commit"), .str (Str.ofString "enter"), .str (Str.ofString "lock"), .str (Str.ofString "unlock")] ti_WRITER_WORDS.toList)
    (z_all : PySem.W.nsIn K mainGlobals "all" = some none)
    (z_bool : PySem.W.nsIn K mainGlobals "bool" = some none)
    (z_enumerate : PySem.W.nsIn K mainGlobals "enumerate" = some none)
    (z_int : PySem.W.nsIn K mainGlobals "int" = some none)
    (z_isinstance : PySem.W.nsIn K mainGlobals "isinstance" = some none)
    (z_len : PySem.W.nsIn K mainGlobals "len" = some none)
    (z_list : PySem.W.nsIn K mainGlobals "list" = some none)
    (z_max : PySem.W.nsIn K mainGlobals "max" = some none)
    (z_min : PySem.W.nsIn K mainGlobals "min" = some none)
    (z_range : PySem.W.nsIn K mainGlobals "range" = some none)
    (z_set : PySem.W.nsIn K mainGlobals "set" = some none)
    (z_str : PySem.W.nsIn K mainGlobals "str" = some none)
    (nh_Book : PySem.W.findIn K (.ref C_Book) "__ne__" = some (some (.builtin "object.__ne__")))
    (a_D_PagesError : PySem.W.nsIn K mainGlobals "PagesError" = some (some (.ref D_PagesError)))
    (rd_D_PagesError : PySem.W.readsIn K D_PagesError (.type "type") = true)
    (ga_D_PagesError : PySem.W.specialIn K (.ref D_PagesError) "__getattribute__" = some (some (.builtin "type.__getattribute__")))
    (up_PagesError : PySem.W.findCls K (.ref D_PagesError) (.type "type") "__init__" = some (.val (.builtin "ValueError.__init__")))
    (a_X_BadBook : PySem.W.nsIn K mainGlobals "BadBook" = some (some (.ref X_BadBook)))
    (x_X_BadBook : K.lookup X_BadBook = some (excClassObj nm_X_BadBook qn_X_BadBook X_BadBook ns_X_BadBook bs_X_BadBook bm_X_BadBook true sn_X_BadBook sb_X_BadBook ab_X_BadBook co_X_BadBook dd_X_BadBook m0_X_BadBook m1_X_BadBook m2_X_BadBook m3_X_BadBook m5_X_BadBook "ValueError.__new__"))
    (rv_X_BadBook : PySem.HandSPX.refsVE bm_X_BadBook = true)
    (sa_X_BadBook : PySem.W.findIn K (.ref X_BadBook) "__setattr__" = some (some (.builtin "object.__setattr__")))
    (gt_X_BadBook : PySem.W.findIn K (.ref X_BadBook) "__getattribute__" = some (some (.builtin "BaseException.__getattribute__")))
    (gg_X_BadBook : PySem.W.findIn K (.ref X_BadBook) "__getattr__" = some none)
    (cC_X_BadBook : PySem.W.findIn K (.ref X_BadBook) "__class__" = some (some (.builtin "object.__class__")))
    (no_X_BadBook : PySem.W.findIn K (.ref X_BadBook) "part" = some none)
    (ex_X_BadBook : PySem.W.subIn K (.ref X_BadBook) (.type "BaseException") = some true)
    (ty_X_BadBook : PySem.W.typeIn K (.ref X_BadBook) = some (.type "type"))
    (kc_X_BadBook : PySem.W.keepIn K (.ref X_BadBook) = true)
    (hd_X_BadBook : PySem.W.hasDictIn K X_BadBook = true)
    (ic_X_BadBook : (PySem.W.clsIn K X_BadBook).isSome = true)
    (cM_X_BadBook : PySem.W.mroIn K X_BadBook (.type "object") = some true)
    (ss_X_BadBook : PySem.W.subIn K (.ref X_BadBook) (.ref X_BadBook) = some true)
    (in_X_BadBook : PySem.W.findIn K (.ref X_BadBook) "__init__" = some (some (.ref f_iX_BadBook)))
    (it_X_BadBook : PySem.W.typeIn K (.ref f_iX_BadBook) = some (.type "function"))
    (l_iX_BadBook : K.lookup f_iX_BadBook = some ⟨oc_iX_BadBook, od_iX_BadBook, .func (PySem.W.fnOf "__init__" "BadBook.__init__" (defArgs s_BadBook_init) (defBody s_BadBook_init) (defScope s_BadBook_init) .none kV_iX_BadBook dc_iX_BadBook pm_iX_BadBook an_iX_BadBook cd_iX_BadBook ct_iX_BadBook), sl_iX_BadBook⟩)
    (c_iX_BadBook : PySem.W.codeIn K cd_iX_BadBook "BadBook.__init__" = true)
    (k_iX_BadBook : PySem.W.keepIn K (.ref f_iX_BadBook) = true)
    (nfB : PySem.W.notFirst K C_Book (.ref C_Book) = true) :
    ∀ base : Heap, K.In base → base.Ns mainGlobals mg → Gd.FnG l.prog w K mg base CX0 10 fa (spLaw K) := by
  have e := hfa.symm.trans (PySem.W.mg_of X G a_law)
  cases e
  have F_is_one_of := fun_mk (st := s_is_one_of) l_is_one_of c_is_one_of k_is_one_of
  have b_is_one_of := F_is_one_of.binds (ps := ["value", "known"]) fun _ _ _ _ _ _ us hl => match us, hl with | [_, _], _ => rfl
  have F_split := fun_mk (st := s_split) l_split c_split k_split
  have b_split := F_split.binds (ps := ["value", "known"]) fun _ _ _ _ _ _ us hl => match us, hl with | [_, _], _ => rfl
  have F_ahead := fun_mk (st := s_ahead) l_ahead c_ahead k_ahead
  have b_ahead := F_ahead.binds (ps := ["words", "first", "second"]) fun _ _ _ _ _ _ us hl => match us, hl with | [_, _, _], _ => rfl
  have F_locks := fun_mk (st := s_locks) l_locks c_locks k_locks
  have b_locks := F_locks.binds (ps := ["words"]) fun _ _ _ _ _ _ us hl => match us, hl with | [_], _ => rfl
  have F_is_writer := fun_mk (st := s_is_writer) l_is_writer c_is_writer k_is_writer
  have b_is_writer := F_is_writer.binds (ps := ["value"]) fun _ _ _ _ _ _ us hl => match us, hl with | [_], _ => rfl
  have F_is_cleaner := fun_mk (st := s_is_cleaner) l_is_cleaner c_is_cleaner k_is_cleaner
  have b_is_cleaner := F_is_cleaner.binds (ps := ["value"]) fun _ _ _ _ _ _ us hl => match us, hl with | [_], _ => rfl
  have F_is_reader := fun_mk (st := s_is_reader) l_is_reader c_is_reader k_is_reader
  have b_is_reader := F_is_reader.binds (ps := ["value"]) fun _ _ _ _ _ _ us hl => match us, hl with | [_], _ => rfl
  have F_is_part := fun_mk (st := s_is_part) l_is_part c_is_part k_is_part
  have b_is_part := F_is_part.binds (ps := ["value"]) fun _ _ _ _ _ _ us hl => match us, hl with | [_], _ => rfl
  have F_is_allowed := fun_mk (st := s_is_allowed) l_is_allowed c_is_allowed k_is_allowed
  have b_is_allowed := F_is_allowed.binds (ps := ["part", "value"]) fun _ _ _ _ _ _ us hl => match us, hl with | [_, _], _ => rfl
  have F_check_parts := fun_mk (st := s_check_parts) l_check_parts c_check_parts k_check_parts
  have b_check_parts := F_check_parts.binds (ps := ["parts"]) fun _ _ _ _ _ _ us hl => match us, hl with | [_], _ => rfl
  have F_truth_word := fun_mk (st := s_truth_word) l_truth_word c_truth_word k_truth_word
  have b_truth_word := F_truth_word.binds (ps := ["value"]) fun _ _ _ _ _ _ us hl => match us, hl with | [_], _ => rfl
  have F_value_of := fun_mk (st := s_value_of) l_value_of c_value_of k_value_of
  have b_value_of := F_value_of.binds (ps := ["word"]) fun _ _ _ _ _ _ us hl => match us, hl with | [_], _ => rfl
  have F_line := fun_mk (st := s_line) l_line c_line k_line
  have b_line := F_line.binds (ps := ["book", "part"]) fun _ _ _ _ _ _ us hl => match us, hl with | [_, _], _ => rfl
  have F_book_text := fun_mk (st := s_book_text) l_book_text c_book_text k_book_text
  have b_book_text := F_book_text.binds (ps := ["book"]) fun _ _ _ _ _ _ us hl => match us, hl with | [_], _ => rfl
  have F_read_book := fun_mk (st := s_read_book) l_read_book c_read_book k_read_book
  have b_read_book := F_read_book.binds (ps := ["text"]) fun _ _ _ _ _ _ us hl => match us, hl with | [_], _ => rfl
  have F_law_pool := fun_mk (st := s_law_pool) l_law_pool c_law_pool k_law_pool
  have b_law_pool := F_law_pool.binds (ps := ["script", "k"]) fun _ _ _ _ _ _ us hl => match us, hl with | [_, _], _ => rfl
  have F_law_take := fun_mk (st := s_law_take) l_law_take c_law_take k_law_take
  have b_law_take := F_law_take.binds (ps := ["pool", "many"]) fun _ _ _ _ _ _ us hl => match us, hl with | [_, _], _ => rfl
  have F_law_locked := fun_mk (st := s_law_locked) l_law_locked c_law_locked k_law_locked
  have b_law_locked := F_law_locked.binds (ps := ["pool", "row"]) fun _ _ _ _ _ _ us hl => match us, hl with | [_, _], _ => rfl
  have F_law_writing := fun_mk (st := s_law_writing) l_law_writing c_law_writing k_law_writing
  have b_law_writing := F_law_writing.binds (ps := ["pool"]) fun _ _ _ _ _ _ us hl => match us, hl with | [_], _ => rfl
  have F_law_cleaning := fun_mk (st := s_law_cleaning) l_law_cleaning c_law_cleaning k_law_cleaning
  have b_law_cleaning := F_law_cleaning.binds (ps := ["pool"]) fun _ _ _ _ _ _ us hl => match us, hl with | [_], _ => rfl
  have F_law_reading := fun_mk (st := s_law_reading) l_law_reading c_law_reading k_law_reading
  have b_law_reading := F_law_reading.binds (ps := ["pool"]) fun _ _ _ _ _ _ us hl => match us, hl with | [_], _ => rfl
  have F_law_parts := fun_mk (st := s_law_parts) l_law_parts c_law_parts k_law_parts
  have b_law_parts := F_law_parts.binds (ps := ["pool"]) fun _ _ _ _ _ _ us hl => match us, hl with | [_], _ => rfl
  have F_law_book := fun_mk (st := s_law_book) l_law_book c_law_book k_law_book
  have b_law_book := F_law_book.binds (ps := ["p"]) fun _ _ _ _ _ _ us hl => match us, hl with | [_], _ => rfl
  have F_law_names := fun_mk (st := s_law_names) l_law_names c_law_names k_law_names
  have b_law_names := F_law_names.binds (ps := []) fun _ _ _ _ _ _ us hl => match us, hl with | [], _ => rfl
  have F_law_lines := fun_mk (st := s_law_lines) l_law_lines c_law_lines k_law_lines
  have b_law_lines := F_law_lines.binds (ps := ["p"]) fun _ _ _ _ _ _ us hl => match us, hl with | [_], _ => rfl
  have F_law_turned := fun_mk (st := s_law_turned) l_law_turned c_law_turned k_law_turned
  have b_law_turned := F_law_turned.binds (ps := ["pool", "rows"]) fun _ _ _ _ _ _ us hl => match us, hl with | [_, _], _ => rfl
  have F_law := fun_mk (st := s_law) l_law c_law k_law
  have F_Book_init := fun_mk (st := s_Book_init) l_Book_init c_Book_init k_Book_init
  subst kv_Book_init
  have kb_Book_init_writer_cleaner_reader_horizon_pins : DX.BindK K (PySem.W.fnOf "__init__" "Book.__init__" (defArgs s_Book_init) (defBody s_Book_init) (defScope s_Book_init) .none (.ref KD_Book_init) dc_Book_init pm_Book_init an_Book_init cd_Book_init ct_Book_init) ["self", "writer", "cleaner", "reader", "horizon", "pins", "cleared", "sets", "force", "ahead", "first", "waits", "follower"] ["writer", "cleaner", "reader", "horizon", "pins"] 1 [.bool true, .bool true, .bool true, .bool true, .bool false, .bool true, .str (Str.ofString "wait") td_Book_init_follower] (fun us ws mv => DX.gsel [0, 1, 2, 3, 4, 5, 6, 7, 8, 9, 10, 11] us ws mv) := DX.BindK.gen (pos := ["self"]) (kp := ["writer", "cleaner", "reader", "horizon", "pins", "cleared", "sets", "force", "ahead", "first", "waits", "follower"]) (D := KD_Book_init) (lk := [("cleared", .bool true), ("sets", .bool true), ("force", .bool true), ("ahead", .bool true), ("first", .bool false), ("waits", .bool true), ("follower", .str (Str.ofString "wait") td_Book_init_follower)]) rfl rfl rfl rfl rfl rfl rfl rfl (by kernel_rfl) (by intro q hq; simp only [List.mem_cons, List.not_mem_nil, or_false] at hq; rcases hq with rfl | rfl | rfl | rfl | rfl | rfl | rfl <;> assumption) fun us ws h1 h2 => match us, ws, h1, h2 with | [_], [_, _, _, _, _], _, _ => by kernel_rfl
  have F_Book_change := fun_mk (st := s_Book_change) l_Book_change c_Book_change k_Book_change
  have F_Book_getitem := fun_mk (st := s_Book_getitem) l_Book_getitem c_Book_getitem k_Book_getitem
  have b_Book_getitem := F_Book_getitem.binds (ps := ["self", "part"]) fun _ _ _ _ _ _ us hl => match us, hl with | [_, _], _ => rfl
  have F_Book_eq := fun_mk (st := s_Book_eq) l_Book_eq c_Book_eq k_Book_eq
  have b_Book_eq := F_Book_eq.binds (ps := ["self", "other"]) fun _ _ _ _ _ _ us hl => match us, hl with | [_, _], _ => rfl
  have b_law := F_law.binds (ps := ["script"]) fun _ _ _ _ _ _ us hl => match us, hl with | [_], _ => rfl
  have F_iX_BadBook := fun_mk (st := s_BadBook_init) l_iX_BadBook c_iX_BadBook k_iX_BadBook
  have b_iX_BadBook := F_iX_BadBook.binds (ps := ["self", "part"]) fun _ _ _ _ _ _ us hl => match us, hl with | [_, _], _ => rfl
  have ox_X_BadBook : OexC K X_BadBook := ⟨⟨_, _, _, _, _, _, _, _, _, _, _, _, _, _, _, x_X_BadBook, rv_X_BadBook⟩, sa_X_BadBook, ex_X_BadBook, ty_X_BadBook, kc_X_BadBook⟩
  intro base _ _
  let W : Wd l.prog w K mg base := {
    C_Book := C_Book,
    c_Book := ⟨(PySem.W.mg_of X G a_C_Book), ⟨⟨pg_C_Book, hd_C_Book, po_C_Book, sa_C_Book⟩, cC_C_Book, cG, cT, cM_C_Book⟩, ⟨fun t ht => by cases t <;> first | exact absurd rfl (ht _) | assumption⟩, kk_C_Book⟩,
    f_is_one_of := f_is_one_of,
    fd_is_one_of := _,
    t_is_one_of := ⟨(PySem.W.mg_of X G a_is_one_of), DX.Fun.dat F_is_one_of, b_is_one_of⟩,
    f_split := f_split,
    fd_split := _,
    t_split := ⟨(PySem.W.mg_of X G a_split), DX.Fun.dat F_split, b_split⟩,
    f_ahead := f_ahead,
    fd_ahead := _,
    t_ahead := ⟨(PySem.W.mg_of X G a_ahead), DX.Fun.dat F_ahead, b_ahead⟩,
    f_locks := f_locks,
    fd_locks := _,
    t_locks := ⟨(PySem.W.mg_of X G a_locks), DX.Fun.dat F_locks, b_locks⟩,
    f_is_writer := f_is_writer,
    fd_is_writer := _,
    t_is_writer := ⟨(PySem.W.mg_of X G a_is_writer), DX.Fun.dat F_is_writer, b_is_writer⟩,
    f_is_cleaner := f_is_cleaner,
    fd_is_cleaner := _,
    t_is_cleaner := ⟨(PySem.W.mg_of X G a_is_cleaner), DX.Fun.dat F_is_cleaner, b_is_cleaner⟩,
    f_is_reader := f_is_reader,
    fd_is_reader := _,
    t_is_reader := ⟨(PySem.W.mg_of X G a_is_reader), DX.Fun.dat F_is_reader, b_is_reader⟩,
    f_is_part := f_is_part,
    fd_is_part := _,
    t_is_part := ⟨(PySem.W.mg_of X G a_is_part), DX.Fun.dat F_is_part, b_is_part⟩,
    f_is_allowed := f_is_allowed,
    fd_is_allowed := _,
    t_is_allowed := ⟨(PySem.W.mg_of X G a_is_allowed), DX.Fun.dat F_is_allowed, b_is_allowed⟩,
    f_check_parts := f_check_parts,
    fd_check_parts := _,
    t_check_parts := ⟨(PySem.W.mg_of X G a_check_parts), DX.Fun.dat F_check_parts, b_check_parts⟩,
    f_Book_init := f_Book_init,
    fd_Book_init := _,
    t_Book_init := ⟨⟨a_Book_init, i_Book_init, k_Book_init⟩, DX.Fun.dat F_Book_init⟩,
    td_Book_init_horizon := td_Book_init_horizon,
    td_Book_init_follower := td_Book_init_follower,
    k_Book_init_writer_cleaner_reader_horizon_pins := kb_Book_init_writer_cleaner_reader_horizon_pins,
    f_Book_change := f_Book_change,
    fd_Book_change := _,
    t_Book_change := ⟨⟨a_Book_change, i_Book_change, k_Book_change⟩, DX.Fun.dat F_Book_change⟩,
    kf_Book_change := ⟨rfl, rfl, rfl, rfl, ⟨_, rfl, rfl⟩, rfl⟩,
    f_Book_getitem := f_Book_getitem,
    fd_Book_getitem := _,
    t_Book_getitem := ⟨⟨a_Book_getitem, i_Book_getitem, k_Book_getitem⟩, DX.Fun.dat F_Book_getitem, b_Book_getitem⟩,
    f_Book_eq := f_Book_eq,
    fd_Book_eq := _,
    t_Book_eq := ⟨⟨a_Book_eq, i_Book_eq, k_Book_eq⟩, DX.Fun.dat F_Book_eq, b_Book_eq⟩,
    f_truth_word := f_truth_word,
    fd_truth_word := _,
    t_truth_word := ⟨(PySem.W.mg_of X G a_truth_word), DX.Fun.dat F_truth_word, b_truth_word⟩,
    f_value_of := f_value_of,
    fd_value_of := _,
    t_value_of := ⟨(PySem.W.mg_of X G a_value_of), DX.Fun.dat F_value_of, b_value_of⟩,
    f_line := f_line,
    fd_line := _,
    t_line := ⟨(PySem.W.mg_of X G a_line), DX.Fun.dat F_line, b_line⟩,
    f_book_text := f_book_text,
    fd_book_text := _,
    t_book_text := ⟨(PySem.W.mg_of X G a_book_text), DX.Fun.dat F_book_text, b_book_text⟩,
    f_read_book := f_read_book,
    fd_read_book := _,
    t_read_book := ⟨(PySem.W.mg_of X G a_read_book), DX.Fun.dat F_read_book, b_read_book⟩,
    f_law_pool := f_law_pool,
    fd_law_pool := _,
    t_law_pool := ⟨(PySem.W.mg_of X G a_law_pool), DX.Fun.dat F_law_pool, b_law_pool⟩,
    f_law_take := f_law_take,
    fd_law_take := _,
    t_law_take := ⟨(PySem.W.mg_of X G a_law_take), DX.Fun.dat F_law_take, b_law_take⟩,
    f_law_locked := f_law_locked,
    fd_law_locked := _,
    t_law_locked := ⟨(PySem.W.mg_of X G a_law_locked), DX.Fun.dat F_law_locked, b_law_locked⟩,
    f_law_writing := f_law_writing,
    fd_law_writing := _,
    t_law_writing := ⟨(PySem.W.mg_of X G a_law_writing), DX.Fun.dat F_law_writing, b_law_writing⟩,
    f_law_cleaning := f_law_cleaning,
    fd_law_cleaning := _,
    t_law_cleaning := ⟨(PySem.W.mg_of X G a_law_cleaning), DX.Fun.dat F_law_cleaning, b_law_cleaning⟩,
    f_law_reading := f_law_reading,
    fd_law_reading := _,
    t_law_reading := ⟨(PySem.W.mg_of X G a_law_reading), DX.Fun.dat F_law_reading, b_law_reading⟩,
    f_law_parts := f_law_parts,
    fd_law_parts := _,
    t_law_parts := ⟨(PySem.W.mg_of X G a_law_parts), DX.Fun.dat F_law_parts, b_law_parts⟩,
    f_law_book := f_law_book,
    fd_law_book := _,
    t_law_book := ⟨(PySem.W.mg_of X G a_law_book), DX.Fun.dat F_law_book, b_law_book⟩,
    f_law_names := f_law_names,
    fd_law_names := _,
    t_law_names := ⟨(PySem.W.mg_of X G a_law_names), DX.Fun.dat F_law_names, b_law_names⟩,
    f_law_lines := f_law_lines,
    fd_law_lines := _,
    t_law_lines := ⟨(PySem.W.mg_of X G a_law_lines), DX.Fun.dat F_law_lines, b_law_lines⟩,
    f_law_turned := f_law_turned,
    fd_law_turned := _,
    t_law_turned := ⟨(PySem.W.mg_of X G a_law_turned), DX.Fun.dat F_law_turned, b_law_turned⟩,
    f_law := fa,
    fd_law := _,
    t_law := ⟨(PySem.W.mg_of X G a_law), DX.Fun.dat F_law, b_law⟩,
    eq_Book := ⟨a_Book_eq, i_Book_eq⟩,
    n_Book_parts := n_Book_parts,
    gi_Book := ⟨a_Book_getitem, fi_Book, i_Book_getitem⟩,
    T_CHOICES := d_CHOICES,
    g_CHOICES := ⟨_, PySem.W.mg_of X G g_CHOICES, rfl, fun _ _ => .kd ⟨[((Str.ofString "horizon" : Str), V.ref t_CHOICES_horizon), ((Str.ofString "follower" : Str), V.ref t_CHOICES_follower)], rfl, fun h KX => ⟨dM_CHOICES, _, _, _, KX _ _ ld_CHOICES, ⟨dC_CHOICES, dO_CHOICES, dS_CHOICES⟩, rfl, dR_CHOICES⟩⟩ (.cons (.kt (.inr ⟨_, _, _, lk_CHOICES_horizon, cl_CHOICES_horizon, rfl, sz_CHOICES_horizon, vl_CHOICES_horizon⟩) (.cons (.str _) (.cons (.str _) .nil))) (.cons (.kt (.inr ⟨_, _, _, lk_CHOICES_follower, cl_CHOICES_follower, rfl, sz_CHOICES_follower, vl_CHOICES_follower⟩) (.cons (.str _) (.cons (.str _) (.cons (.str _) .nil)))) .nil))⟩,
    T_CLEANER_WORDS := t_CLEANER_WORDS,
    g_CLEANER_WORDS := ⟨_, PySem.W.mg_of X G g_CLEANER_WORDS, rfl, fun _ _ => .kt (.inr ⟨_, _, _, lk_CLEANER_WORDS, cl_CLEANER_WORDS, rfl, sz_CLEANER_WORDS, vl_CLEANER_WORDS⟩) (.cons (.str _) (.cons (.str _) (.cons (.str _) (.cons (.str _) (.cons (.str _) (.cons (.str _) .nil))))))⟩,
    T_PARTS := t_PARTS,
    g_PARTS := ⟨_, PySem.W.mg_of X G g_PARTS, rfl, fun _ _ => .kt (.inr ⟨_, _, _, lk_PARTS, cl_PARTS, rfl, sz_PARTS, vl_PARTS⟩) (.cons (.str _) (.cons (.str _) (.cons (.str _) (.cons (.str _) (.cons (.str _) (.cons (.str _) (.cons (.str _) (.cons (.str _) (.cons (.str _) (.cons (.str _) (.cons (.str _) (.cons (.str _) .nil))))))))))))⟩,
    T_READER_WORDS := t_READER_WORDS,
    g_READER_WORDS := ⟨_, PySem.W.mg_of X G g_READER_WORDS, rfl, fun _ _ => .kt (.inr ⟨_, _, _, lk_READER_WORDS, cl_READER_WORDS, rfl, sz_READER_WORDS, vl_READER_WORDS⟩) (.cons (.str _) (.cons (.str _) (.cons (.str _) (.cons (.str _) (.cons (.str _) (.cons (.str _) .nil))))))⟩,
    g_SIGN := ⟨_, PySem.W.mg_of X G g_SIGN, ⟨_, rfl⟩, fun _ _ => .str _⟩,
    T_TRUTHS := d_TRUTHS,
    g_TRUTHS := ⟨_, PySem.W.mg_of X G g_TRUTHS, rfl, fun _ _ => .kd ⟨[((Str.ofString "yes" : Str), V.bl true), ((Str.ofString "no" : Str), V.bl false)], rfl, fun h KX => ⟨dM_TRUTHS, _, _, _, KX _ _ ld_TRUTHS, ⟨dC_TRUTHS, dO_TRUTHS, dS_TRUTHS⟩, rfl, dR_TRUTHS⟩⟩ (.cons (.bl true) (.cons (.bl false) .nil))⟩,
    T_WRITER_WORDS := t_WRITER_WORDS,
    g_WRITER_WORDS := ⟨_, PySem.W.mg_of X G g_WRITER_WORDS, rfl, fun _ _ => .kt (.inr ⟨_, _, _, lk_WRITER_WORDS, cl_WRITER_WORDS, rfl, sz_WRITER_WORDS, vl_WRITER_WORDS⟩) (.cons (.str _) (.cons (.str _) (.cons (.str _) (.cons (.str _) (.cons (.str _) (.cons (.str _) .nil))))))⟩,
    z_all := PySem.W.mg_none_of X G z_all,
    z_bool := PySem.W.mg_none_of X G z_bool,
    z_enumerate := PySem.W.mg_none_of X G z_enumerate,
    z_int := PySem.W.mg_none_of X G z_int,
    z_isinstance := PySem.W.mg_none_of X G z_isinstance,
    z_len := PySem.W.mg_none_of X G z_len,
    z_list := PySem.W.mg_none_of X G z_list,
    z_max := PySem.W.mg_none_of X G z_max,
    z_min := PySem.W.mg_none_of X G z_min,
    z_range := PySem.W.mg_none_of X G z_range,
    z_set := PySem.W.mg_none_of X G z_set,
    z_str := PySem.W.mg_none_of X G z_str,
    mk_Book := ⟨mk_C_Book, a_Book_init, i_Book_init, kc_C_Book⟩,
    ne_Book := ⟨nh_Book, a_Book_eq, i_Book_eq, cM_C_Book⟩,
    X_BadBook := X_BadBook,
    fi_BadBook := f_iX_BadBook,
    fdi_BadBook := _,
    e_BadBook := ⟨ox_X_BadBook, no_X_BadBook, (PySem.W.mg_of X G a_X_BadBook), in_X_BadBook, it_X_BadBook, ok_BadBook_init F_iX_BadBook (PySem.W.mg_of X G a_D_PagesError) ⟨⟨rd_D_PagesError, ga_D_PagesError⟩, up_PagesError⟩, b_iX_BadBook⟩,
    nfB := nfB,
    kp_Book_init := fun ks h => DX.BindK.perm (D := KD_Book_init) rfl rfl rfl rfl rfl rfl rfl h }
  exact DX.lawG0 (ok_law W)
end Toy
open PySem PySem.W PyProof.Rows in
set_option maxRecDepth 100000 in
set_option maxHeartbeats 0 in
theorem PySem.Challenge.cw_trustedpages_k72_texts_of_books_holds : PySem.Challenge.rw_trustedpages_k72_texts_of_books.Holds := by
  w_on; o_law; k_head; (case hw => w_witness2)
  k_fill
  refine Gd.walkG (l := PySem.Challenge.rw_trustedpages_k72_texts_of_books) (n := 63) (k := 10) (sp := Toy.spLaw) rfl (by decide) rfl ⟨rfl, by decide, by decide⟩ (fun w h Y => PySem.W.kIn_of Y) ?F (fun _ _ a ns hl S => ⟨a, ns, rfl, S, hl, fun _ => rfl⟩)
  case F =>
    intro w mg fa h KX G hmg
    refine' Toy.all_mk KX G hmg ?a_is_one_of ?l_is_one_of ?c_is_one_of ?k_is_one_of ?a_split ?l_split ?c_split ?k_split ?a_ahead ?l_ahead ?c_ahead ?k_ahead ?a_locks ?l_locks ?c_locks ?k_locks ?a_is_writer ?l_is_writer ?c_is_writer ?k_is_writer ?a_is_cleaner ?l_is_cleaner ?c_is_cleaner ?k_is_cleaner ?a_is_reader ?l_is_reader ?c_is_reader ?k_is_reader ?a_is_part ?l_is_part ?c_is_part ?k_is_part ?a_is_allowed ?l_is_allowed ?c_is_allowed ?k_is_allowed ?a_check_parts ?l_check_parts ?c_check_parts ?k_check_parts ?a_truth_word ?l_truth_word ?c_truth_word ?k_truth_word ?a_value_of ?l_value_of ?c_value_of ?k_value_of ?a_line ?l_line ?c_line ?k_line ?a_book_text ?l_book_text ?c_book_text ?k_book_text ?a_read_book ?l_read_book ?c_read_book ?k_read_book ?a_law_pool ?l_law_pool ?c_law_pool ?k_law_pool ?a_law_take ?l_law_take ?c_law_take ?k_law_take ?a_law_locked ?l_law_locked ?c_law_locked ?k_law_locked ?a_law_writing ?l_law_writing ?c_law_writing ?k_law_writing ?a_law_cleaning ?l_law_cleaning ?c_law_cleaning ?k_law_cleaning ?a_law_reading ?l_law_reading ?c_law_reading ?k_law_reading ?a_law_parts ?l_law_parts ?c_law_parts ?k_law_parts ?a_law_book ?l_law_book ?c_law_book ?k_law_book ?a_law_names ?l_law_names ?c_law_names ?k_law_names ?a_law_lines ?l_law_lines ?c_law_lines ?k_law_lines ?a_law_turned ?l_law_turned ?c_law_turned ?k_law_turned ?a_law ?l_law ?c_law ?k_law ?cG ?cT ?a_C_Book ?pg_C_Book ?hd_C_Book ?po_C_Book ?sa_C_Book ?mk_C_Book ?kc_C_Book ?cC_C_Book ?cM_C_Book ?kk_C_Book ?n_Book_parts ?kt_Book_NoneType ?kt_Book_bool ?kt_Book_int ?kt_Book_str ?kt_Book_bytes ?kt_Book_list ?kt_Book_tuple ?kt_Book_dict ?a_Book_init ?i_Book_init ?l_Book_init ?c_Book_init ?k_Book_init ?kv_Book_init ?kd_Book_init_horizon ?kd_Book_init_pins ?kd_Book_init_cleared ?kd_Book_init_sets ?kd_Book_init_force ?kd_Book_init_ahead ?kd_Book_init_first ?kd_Book_init_waits ?kd_Book_init_follower ?a_Book_change ?i_Book_change ?l_Book_change ?c_Book_change ?k_Book_change ?a_Book_getitem ?i_Book_getitem ?l_Book_getitem ?c_Book_getitem ?k_Book_getitem ?a_Book_eq ?i_Book_eq ?l_Book_eq ?c_Book_eq ?k_Book_eq ?fi_Book ?g_CHOICES ?ld_CHOICES ?dC_CHOICES ?dO_CHOICES ?dS_CHOICES ?dM_CHOICES ?dR_CHOICES ?lk_CHOICES_horizon ?cl_CHOICES_horizon ?sz_CHOICES_horizon ?vl_CHOICES_horizon ?lk_CHOICES_follower ?cl_CHOICES_follower ?sz_CHOICES_follower ?vl_CHOICES_follower ?g_CLEANER_WORDS ?lk_CLEANER_WORDS ?cl_CLEANER_WORDS ?sz_CLEANER_WORDS ?vl_CLEANER_WORDS ?g_PARTS ?lk_PARTS ?cl_PARTS ?sz_PARTS ?vl_PARTS ?g_READER_WORDS ?lk_READER_WORDS ?cl_READER_WORDS ?sz_READER_WORDS ?vl_READER_WORDS ?g_SIGN ?g_TRUTHS ?ld_TRUTHS ?dC_TRUTHS ?dO_TRUTHS ?dS_TRUTHS ?dM_TRUTHS ?dR_TRUTHS ?g_WRITER_WORDS ?lk_WRITER_WORDS ?cl_WRITER_WORDS ?sz_WRITER_WORDS ?vl_WRITER_WORDS ?z_all ?z_bool ?z_enumerate ?z_int ?z_isinstance ?z_len ?z_list ?z_max ?z_min ?z_range ?z_set ?z_str ?nh_Book ?a_D_PagesError ?rd_D_PagesError ?ga_D_PagesError ?up_PagesError ?a_X_BadBook ?x_X_BadBook ?rv_X_BadBook ?sa_X_BadBook ?gt_X_BadBook ?gg_X_BadBook ?cC_X_BadBook ?no_X_BadBook ?ex_X_BadBook ?ty_X_BadBook ?kc_X_BadBook ?hd_X_BadBook ?ic_X_BadBook ?cM_X_BadBook ?ss_X_BadBook ?in_X_BadBook ?it_X_BadBook ?l_iX_BadBook ?c_iX_BadBook ?k_iX_BadBook ?nfB
    (case a_is_one_of => k_is)
    (case l_is_one_of => k_is)
    (case c_is_one_of => k_is)
    (case k_is_one_of => k_is)
    (case a_split => k_is)
    (case l_split => k_is)
    (case c_split => k_is)
    (case k_split => k_is)
    (case a_ahead => k_is)
    (case l_ahead => k_is)
    (case c_ahead => k_is)
    (case k_ahead => k_is)
    (case a_locks => k_is)
    (case l_locks => k_is)
    (case c_locks => k_is)
    (case k_locks => k_is)
    (case a_is_writer => k_is)
    (case l_is_writer => k_is)
    (case c_is_writer => k_is)
    (case k_is_writer => k_is)
    (case a_is_cleaner => k_is)
    (case l_is_cleaner => k_is)
    (case c_is_cleaner => k_is)
    (case k_is_cleaner => k_is)
    (case a_is_reader => k_is)
    (case l_is_reader => k_is)
    (case c_is_reader => k_is)
    (case k_is_reader => k_is)
    (case a_is_part => k_is)
    (case l_is_part => k_is)
    (case c_is_part => k_is)
    (case k_is_part => k_is)
    (case a_is_allowed => k_is)
    (case l_is_allowed => k_is)
    (case c_is_allowed => k_is)
    (case k_is_allowed => k_is)
    (case a_check_parts => k_is)
    (case l_check_parts => k_is)
    (case c_check_parts => k_is)
    (case k_check_parts => k_is)
    (case a_truth_word => k_is)
    (case l_truth_word => k_is)
    (case c_truth_word => k_is)
    (case k_truth_word => k_is)
    (case a_value_of => k_is)
    (case l_value_of => k_is)
    (case c_value_of => k_is)
    (case k_value_of => k_is)
    (case a_line => k_is)
    (case l_line => k_is)
    (case c_line => k_is)
    (case k_line => k_is)
    (case a_book_text => k_is)
    (case l_book_text => k_is)
    (case c_book_text => k_is)
    (case k_book_text => k_is)
    (case a_read_book => k_is)
    (case l_read_book => k_is)
    (case c_read_book => k_is)
    (case k_read_book => k_is)
    (case a_law_pool => k_is)
    (case l_law_pool => k_is)
    (case c_law_pool => k_is)
    (case k_law_pool => k_is)
    (case a_law_take => k_is)
    (case l_law_take => k_is)
    (case c_law_take => k_is)
    (case k_law_take => k_is)
    (case a_law_locked => k_is)
    (case l_law_locked => k_is)
    (case c_law_locked => k_is)
    (case k_law_locked => k_is)
    (case a_law_writing => k_is)
    (case l_law_writing => k_is)
    (case c_law_writing => k_is)
    (case k_law_writing => k_is)
    (case a_law_cleaning => k_is)
    (case l_law_cleaning => k_is)
    (case c_law_cleaning => k_is)
    (case k_law_cleaning => k_is)
    (case a_law_reading => k_is)
    (case l_law_reading => k_is)
    (case c_law_reading => k_is)
    (case k_law_reading => k_is)
    (case a_law_parts => k_is)
    (case l_law_parts => k_is)
    (case c_law_parts => k_is)
    (case k_law_parts => k_is)
    (case a_law_book => k_is)
    (case l_law_book => k_is)
    (case c_law_book => k_is)
    (case k_law_book => k_is)
    (case a_law_names => k_is)
    (case l_law_names => k_is)
    (case c_law_names => k_is)
    (case k_law_names => k_is)
    (case a_law_lines => k_is)
    (case l_law_lines => k_is)
    (case c_law_lines => k_is)
    (case k_law_lines => k_is)
    (case a_law_turned => k_is)
    (case l_law_turned => k_is)
    (case c_law_turned => k_is)
    (case k_law_turned => k_is)
    (case a_law => k_is)
    (case l_law => k_is)
    (case c_law => k_is)
    (case k_law => k_is)
    (case cG => k_is)
    (case cT => k_is)
    (case a_C_Book => k_is)
    (case pg_C_Book => k_is)
    (case hd_C_Book => k_is)
    (case po_C_Book => k_is)
    (case sa_C_Book => k_is)
    (case mk_C_Book => k_is)
    (case kc_C_Book => k_is)
    (case cC_C_Book => k_is)
    (case cM_C_Book => k_is)
    (case kk_C_Book => exact if_pos (beq_self_eq_true _))
    (case n_Book_parts => k_is)
    (case kt_Book_NoneType => kit_is)
    (case kt_Book_bool => kit_is)
    (case kt_Book_int => kit_is)
    (case kt_Book_str => kit_is)
    (case kt_Book_bytes => kit_is)
    (case kt_Book_list => kit_is)
    (case kt_Book_tuple => kit_is)
    (case kt_Book_dict => kit_is)
    (case a_Book_init => k_is)
    (case i_Book_init => k_is)
    (case l_Book_init => k_is)
    (case c_Book_init => k_is)
    (case k_Book_init => k_is)
    (case kv_Book_init => rfl)
    (case kd_Book_init_horizon => k_is)
    (case kd_Book_init_pins => k_is)
    (case kd_Book_init_cleared => k_is)
    (case kd_Book_init_sets => k_is)
    (case kd_Book_init_force => k_is)
    (case kd_Book_init_ahead => k_is)
    (case kd_Book_init_first => k_is)
    (case kd_Book_init_waits => k_is)
    (case kd_Book_init_follower => k_is)
    (case a_Book_change => k_is)
    (case i_Book_change => k_is)
    (case l_Book_change => k_is)
    (case c_Book_change => k_is)
    (case k_Book_change => k_is)
    (case a_Book_getitem => k_is)
    (case i_Book_getitem => k_is)
    (case l_Book_getitem => k_is)
    (case c_Book_getitem => k_is)
    (case k_Book_getitem => k_is)
    (case a_Book_eq => k_is)
    (case i_Book_eq => k_is)
    (case l_Book_eq => k_is)
    (case c_Book_eq => k_is)
    (case k_Book_eq => k_is)
    (case fi_Book => k_is)
    (case g_CHOICES => k_is)
    (case ld_CHOICES => k_is)
    (case dC_CHOICES => rfl)
    (case dO_CHOICES => rfl)
    (case dS_CHOICES => rfl)
    (case dM_CHOICES => decide)
    (case dR_CHOICES => exact (.cons rfl rfl (.cons rfl rfl .nil)))
    (case lk_CHOICES_horizon => k_is)
    (case cl_CHOICES_horizon => rfl)
    (case sz_CHOICES_horizon => decide)
    (case vl_CHOICES_horizon => exact .cons ⟨_, rfl⟩ (.cons ⟨_, rfl⟩ .nil))
    (case lk_CHOICES_follower => k_is)
    (case cl_CHOICES_follower => rfl)
    (case sz_CHOICES_follower => decide)
    (case vl_CHOICES_follower => exact .cons ⟨_, rfl⟩ (.cons ⟨_, rfl⟩ (.cons ⟨_, rfl⟩ .nil)))
    (case g_CLEANER_WORDS => k_is)
    (case lk_CLEANER_WORDS => k_is)
    (case cl_CLEANER_WORDS => rfl)
    (case sz_CLEANER_WORDS => decide)
    (case vl_CLEANER_WORDS => exact .cons ⟨_, rfl⟩ (.cons ⟨_, rfl⟩ (.cons ⟨_, rfl⟩ (.cons ⟨_, rfl⟩ (.cons ⟨_, rfl⟩ (.cons ⟨_, rfl⟩ .nil))))))
    (case g_PARTS => k_is)
    (case lk_PARTS => k_is)
    (case cl_PARTS => rfl)
    (case sz_PARTS => decide)
    (case vl_PARTS => exact .cons ⟨_, rfl⟩ (.cons ⟨_, rfl⟩ (.cons ⟨_, rfl⟩ (.cons ⟨_, rfl⟩ (.cons ⟨_, rfl⟩ (.cons ⟨_, rfl⟩ (.cons ⟨_, rfl⟩ (.cons ⟨_, rfl⟩ (.cons ⟨_, rfl⟩ (.cons ⟨_, rfl⟩ (.cons ⟨_, rfl⟩ (.cons ⟨_, rfl⟩ .nil))))))))))))
    (case g_READER_WORDS => k_is)
    (case lk_READER_WORDS => k_is)
    (case cl_READER_WORDS => rfl)
    (case sz_READER_WORDS => decide)
    (case vl_READER_WORDS => exact .cons ⟨_, rfl⟩ (.cons ⟨_, rfl⟩ (.cons ⟨_, rfl⟩ (.cons ⟨_, rfl⟩ (.cons ⟨_, rfl⟩ (.cons ⟨_, rfl⟩ .nil))))))
    (case g_SIGN => k_is)
    (case g_TRUTHS => k_is)
    (case ld_TRUTHS => k_is)
    (case dC_TRUTHS => rfl)
    (case dO_TRUTHS => rfl)
    (case dS_TRUTHS => rfl)
    (case dM_TRUTHS => decide)
    (case dR_TRUTHS => exact (.cons rfl rfl (.cons rfl rfl .nil)))
    (case g_WRITER_WORDS => k_is)
    (case lk_WRITER_WORDS => k_is)
    (case cl_WRITER_WORDS => rfl)
    (case sz_WRITER_WORDS => decide)
    (case vl_WRITER_WORDS => exact .cons ⟨_, rfl⟩ (.cons ⟨_, rfl⟩ (.cons ⟨_, rfl⟩ (.cons ⟨_, rfl⟩ (.cons ⟨_, rfl⟩ (.cons ⟨_, rfl⟩ .nil))))))
    (case z_all => k_is)
    (case z_bool => k_is)
    (case z_enumerate => k_is)
    (case z_int => k_is)
    (case z_isinstance => k_is)
    (case z_len => k_is)
    (case z_list => k_is)
    (case z_max => k_is)
    (case z_min => k_is)
    (case z_range => k_is)
    (case z_set => k_is)
    (case z_str => k_is)
    (case nh_Book => k_is)
    (case a_D_PagesError => k_is)
    (case rd_D_PagesError => k_is)
    (case ga_D_PagesError => k_is)
    (case up_PagesError => k_is)
    (case a_X_BadBook => k_is)
    (case x_X_BadBook => k_is)
    (case rv_X_BadBook => decide +kernel)
    (case sa_X_BadBook => k_is)
    (case gt_X_BadBook => k_is)
    (case gg_X_BadBook => k_is)
    (case cC_X_BadBook => k_is)
    (case no_X_BadBook => k_is)
    (case ex_X_BadBook => k_is)
    (case ty_X_BadBook => k_is)
    (case kc_X_BadBook => k_is)
    (case hd_X_BadBook => k_is)
    (case ic_X_BadBook => first | rfl | k_is)
    (case cM_X_BadBook => k_is)
    (case ss_X_BadBook => first | rfl | k_is)
    (case in_X_BadBook => k_is)
    (case it_X_BadBook => k_is)
    (case l_iX_BadBook => k_is)
    (case c_iX_BadBook => k_is)
    (case k_iX_BadBook => k_is)
    (case nfB => k_is)
