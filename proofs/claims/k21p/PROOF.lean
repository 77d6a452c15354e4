import PyProof.Rows.All
import Wide.All
import OpenK.AllK
import Wide.FinOn
import PyProof.EqAt
import PyProof.EqKinds
import PyProof.TupleCall
import KE.KOpsOwn
import HandS.ForMost
import HandS.OwnEq
import HandS.Star
import HandS.ClsMeth
import HandS.IsInst
import HandS.Codes
import HandS.Flow
import HandS.Wide
import HandS.ForExc
import HandS.TupAny
import PyProof.ReprRoads
import PyProof.CallFns
import HandS.Ends
import KE.KExcIs
import HandS.ExcInit
import HandS.ExcField
import HandS.ExcIs
import HandS.ExcOwn
import HandS.MakeKw
import HandS.MakeKwOnly
import HandS.Defaults
import HandS.Property
import HandS.WordsExc
import HandS.Zip
import KE.GoesMore
import PyProof.Draws
import HandS.NoneIn
import HandS.Dict
import HandS.DictComp
import HandS.SortKw
import HandS.SortInts
import HandS.Style
import HandS.SetFor
import HandS.TupLe
import HandS.Conv
import KE.KUnpackStar
import PySem.Challenge.RW_trustedpages_k21_casts_refused
import Open.Row
import KE.RegKIsAll
set_option Elab.async false
set_option linter.all false
set_option maxRecDepth 100000
set_option maxHeartbeats 4000000
namespace DX
open PySem PySem.Spec PyProof.Rows L2
/-! values as data: what is frozen is told by its content, what may change by its number in the memory -/
inductive D where
  | non | bl (b : Bool) | int (i : Int) | str (x : Str) | byt (b : Array UInt8)
  | lst (xs : List D) | tup (xs : List D) | kt (xs : List D) | kl (xs : List D)
  | ins (C : Addr) (fs : List (Str × D))
  | val (v : V)
  | ob (k : Nat)
  | exc (a C : Addr) (d : Option Addr) (fs : List (Str × D))
/-- an object of the memory -/
inductive M where
  | lst (xs : List D)
  | ins (C : Addr) (fs : List (Str × D))
  | dic (kvs : List (Key × D))
abbrev Rho := List (Option D)
abbrev Mem := List M
mutual
inductive Rep (K : PySem.W.Frag) (as : List Addr) (F : Hp) : V → D → Prop
  | non : Rep K as F .non .non
  | bl (b : Bool) : Rep K as F (.bl b) (.bl b)
  | int (i : Int) : Rep K as F (.int i) (.int i)
  | str (x : Str) : Rep K as F (.str x) (.str x)
  | byt (b : Array UInt8) : Rep K as F (.byt b) (.byt b)
  | lst {a : Addr} {vs : List V} {ds : List D} : F a = some (.lst vs) → RepL K as F vs ds → Rep K as F (.ref a) (.lst ds)
  | kl {a : Addr} {vs : List V} {ds : List D} : SqL K F a vs → RepL K as F vs ds → Rep K as F (.ref a) (.kl ds)
  | tup {a : Addr} {vs : List V} {ds : List D} : F a = some (.tup vs) → RepL K as F vs ds → Rep K as F (.ref a) (.tup ds)
  | kt {a : Addr} {vs : List V} {ds : List D} : SqT K F a vs → RepL K as F vs ds → Rep K as F (.ref a) (.kt ds)
  | ins {a C dx : Addr} {fs : List (Str × V)} {gs : List (Str × D)} : F a = some (.ins C dx fs) → RepF K as F fs gs → Rep K as F (.ref a) (.ins C gs)
  | val (v : V) : Rep K as F v (.val v)
  | ob {k : Nat} {a : Addr} : as[k]? = some a → Rep K as F (.ref a) (.ob k)
  | exc0 {a C : Addr} {d : Option Addr} : Rep K as F (.ref a) (.exc a C d [])
  | exc {a C dd : Addr} {fs : List (Str × V)} {gs : List (Str × D)} : F dd = some (.xd fs) → RepF K as F fs gs → Rep K as F (.ref a) (.exc a C (some dd) gs)
inductive RepL (K : PySem.W.Frag) (as : List Addr) (F : Hp) : List V → List D → Prop
  | nil : RepL K as F [] []
  | cons {v : V} {vs : List V} {d : D} {ds : List D} : Rep K as F v d → RepL K as F vs ds → RepL K as F (v :: vs) (d :: ds)
inductive RepF (K : PySem.W.Frag) (as : List Addr) (F : Hp) : List (Str × V) → List (Str × D) → Prop
  | nil : RepF K as F [] []
  | cons {n : Str} {v : V} {vs : List (Str × V)} {d : D} {ds : List (Str × D)} : Rep K as F v d → RepF K as F vs ds → RepF K as F ((n, v) :: vs) ((n, d) :: ds)
end
/-- what is known grows -/
structure Gr (as : List Addr) (F : Hp) (as' : List Addr) (F' : Hp) : Prop where
  f : Same F F'
  p : ∀ (k : Nat) (a : Addr), as[k]? = some a → as'[k]? = some a
theorem Gr.refl {as : List Addr} {F : Hp} : Gr as F as F := ⟨Same.refl F, fun _ _ h => h⟩
theorem Gr.trans {as as1 as2 : List Addr} {F F1 F2 : Hp} (a : Gr as F as1 F1) (b : Gr as1 F1 as2 F2) : Gr as F as2 F2 := ⟨a.f.trans b.f, fun k x h => b.p k x (a.p k x h)⟩
theorem same_upd {H : Hp} {p : Addr} {o : HO} (h : H p = none) : Same H (upd H p o) := fun b x e => by
  rw [upd_ne (ne_of_none e h)]
  exact e
theorem Rd.up {H H' : Hp} {a : Addr} {u : HO} (s : Same H H') (h : Rd H a u) : Rd H' a u := h.elim (fun e => .inl (s _ _ e)) fun ⟨o, e⟩ => .inr ⟨o, s _ _ e⟩
section
variable {K : PySem.W.Frag} {as as' : List Addr} {F F' H H' : Hp}
mutual
theorem Rep.up (g : Gr as F as' F') : ∀ {v : V} {d : D}, Rep K as F v d → Rep K as' F' v d
  | _, _, .non => .non
  | _, _, .bl b => .bl b
  | _, _, .int b => .int b
  | _, _, .str b => .str b
  | _, _, .byt b => .byt b
  | _, _, .lst h r => .lst (g.f _ _ h) (RepL.up g r)
  | _, _, .kl h r => .kl (g.f.seq h) (RepL.up g r)
  | _, _, .tup h r => .tup (g.f _ _ h) (RepL.up g r)
  | _, _, .kt h r => .kt (SqT.ext h g.f) (RepL.up g r)
  | _, _, .ins h r => .ins (g.f _ _ h) (RepF.up g r)
  | _, _, .val v => .val v
  | _, _, .ob h => .ob (g.p _ _ h)
  | _, _, .exc0 => .exc0
  | _, _, .exc h r => .exc (g.f _ _ h) (RepF.up g r)
theorem RepL.up (g : Gr as F as' F') : ∀ {vs : List V} {ds : List D}, RepL K as F vs ds → RepL K as' F' vs ds
  | _, _, .nil => .nil
  | _, _, .cons h r => .cons (Rep.up g h) (RepL.up g r)
theorem RepF.up (g : Gr as F as' F') : ∀ {vs : List (Str × V)} {ds : List (Str × D)}, RepF K as F vs ds → RepF K as' F' vs ds
  | _, _, .nil => .nil
  | _, _, .cons h r => .cons (Rep.up g h) (RepF.up g r)
end
theorem RepL.len : ∀ {vs : List V} {ds : List D}, RepL K as F vs ds → vs.length = ds.length
  | _, _, .nil => rfl
  | _, _, .cons _ r => congrArg Nat.succ (RepL.len r)
theorem RepL.get : ∀ {vs : List V} {ds : List D} {i : Nat} {d : D}, RepL K as F vs ds → ds[i]? = some d → ∃ v, vs[i]? = some v ∧ Rep K as F v d
  | _, _, _, _, .nil, e => by simp at e
  | _, _, 0, _, .cons h _, e => by simp at e; subst e; exact ⟨_, rfl, h⟩
  | _, _, i + 1, d, .cons _ r, e => by
    obtain ⟨v, h1, h2⟩ := RepL.get (i := i) (d := d) r (by simpa using e)
    exact ⟨v, by simpa using h1, h2⟩
theorem RepL.get' : ∀ {vs : List V} {ds : List D} {i : Nat} {v : V}, RepL K as F vs ds → vs[i]? = some v → ∃ d, ds[i]? = some d ∧ Rep K as F v d
  | _, _, _, _, .nil, e => by simp at e
  | _, _, 0, _, .cons h _, e => by simp at e; subst e; exact ⟨_, rfl, h⟩
  | _, _, i + 1, d, .cons _ r, e => by
    obtain ⟨v, h1, h2⟩ := RepL.get' (i := i) (v := d) r (by simpa using e)
    exact ⟨v, by simpa using h1, h2⟩
theorem RepL.append : ∀ {vs us : List V} {ds es : List D}, RepL K as F vs ds → RepL K as F us es → RepL K as F (vs ++ us) (ds ++ es)
  | _, _, _, _, .nil, s => s
  | _, _, _, _, .cons r t, s => .cons r (RepL.append t s)
theorem RepL.take : ∀ {vs : List V} {ds : List D} (n : Nat), RepL K as F vs ds → RepL K as F (vs.take n) (ds.take n)
  | _, _, 0, _ => .nil
  | _, _, _ + 1, .nil => .nil
  | _, _, n + 1, .cons r t => .cons r (RepL.take n t)
theorem RepL.drop : ∀ {vs : List V} {ds : List D} (n : Nat), RepL K as F vs ds → RepL K as F (vs.drop n) (ds.drop n)
  | _, _, 0, r => r
  | _, _, _ + 1, .nil => .nil
  | _, _, n + 1, .cons _ t => RepL.drop n t
theorem RepL.set {v : V} {d : D} (h : Rep K as F v d) : ∀ {vs : List V} {ds : List D} (i : Nat), RepL K as F vs ds → RepL K as F (vs.set i v) (ds.set i d)
  | _, _, _, .nil => .nil
  | _, _, 0, .cons _ t => .cons h t
  | _, _, i + 1, .cons q t => .cons q (RepL.set h i t)
theorem RepL.reverse : ∀ {vs : List V} {ds : List D}, RepL K as F vs ds → RepL K as F vs.reverse ds.reverse
  | _, _, .nil => .nil
  | _, _, .cons h r => by
    rw [List.reverse_cons, List.reverse_cons]
    exact RepL.append (RepL.reverse r) (.cons h .nil)
theorem RepL.eraseIdx : ∀ {vs : List V} {ds : List D} (i : Nat), RepL K as F vs ds → RepL K as F (vs.eraseIdx i) (ds.eraseIdx i)
  | _, _, _, .nil => .nil
  | _, _, 0, .cons _ t => t
  | _, _, i + 1, .cons q t => .cons q (RepL.eraseIdx i t)
theorem RepF.look {n : Str} : ∀ {vs : List (Str × V)} {ds : List (Str × D)} {d : D}, RepF K as F vs ds → ds.lookup n = some d → ∃ v, vs.lookup n = some v ∧ Rep K as F v d
  | _, _, _, .nil, e => by cases e
  | _, _, _, .cons (n := m) h r, e => by
    rw [List.lookup_cons] at e ⊢
    cases q : n == m with
    | true => rw [q] at e; cases e; exact ⟨_, rfl, h⟩
    | false => rw [q] at e; exact RepF.look r e
theorem RepF.lookN {n : Str} : ∀ {vs : List (Str × V)} {ds : List (Str × D)}, RepF K as F vs ds → ds.lookup n = none → vs.lookup n = none
  | _, _, .nil, _ => rfl
  | _, _, .cons (n := m) h r, e => by
    rw [List.lookup_cons] at e ⊢
    cases q : n == m with
    | true => rw [q] at e; cases e
    | false => rw [q] at e; exact RepF.lookN r e
/-- the fields with one put in (as putF does) -/
def putD (f : Str) (d : D) : List (Str × D) → List (Str × D)
  | [] => [(f, d)]
  | (n, e) :: r => if n = f then (n, d) :: r else (n, e) :: putD f d r
theorem RepF.put {f : Str} {v : V} {d : D} (h : Rep K as F v d) : ∀ {vs : List (Str × V)} {ds : List (Str × D)}, RepF K as F vs ds → RepF K as F (putF f v vs) (putD f d ds)
  | _, _, .nil => .cons h .nil
  | _, _, .cons (n := n) (v := x) (vs := vs) (d := e) (ds := ds) q r => by
    show RepF K as F (if n = f then (n, v) :: vs else (n, x) :: putF f v vs) (if n = f then (n, d) :: ds else (n, e) :: putD f d ds)
    by_cases z : n = f
    · rw [if_pos z, if_pos z]; exact .cons h r
    · rw [if_neg z, if_neg z]; exact .cons q (RepF.put h r)
theorem RepF.len : ∀ {vs : List (Str × V)} {ds : List (Str × D)}, RepF K as F vs ds → vs.length = ds.length
  | _, _, .nil => rfl
  | _, _, .cons _ r => congrArg Nat.succ (RepF.len r)
end
end DX
set_option Elab.async false
set_option linter.all false
set_option maxRecDepth 100000
set_option maxHeartbeats 4000000
namespace DX
open PySem PySem.Spec PyProof.Rows L2
/-- a dict's entries -/
inductive RepK (K : PySem.W.Frag) (as : List Addr) (F : Hp) : List (Key × V) → List (Key × D) → Prop
  | nil : RepK K as F [] []
  | cons {n : Key} {v : V} {vs : List (Key × V)} {d : D} {ds : List (Key × D)} : Rep K as F v d → RepK K as F vs ds → RepK K as F ((n, v) :: vs) ((n, d) :: ds)
section
variable {K : PySem.W.Frag} {Z : Hp} {as as' : List Addr} {F F' H H' : Hp}
theorem RepK.up (g : Gr as F as' F') : ∀ {vs : List (Key × V)} {ds : List (Key × D)}, RepK K as F vs ds → RepK K as' F' vs ds
  | _, _, .nil => .nil
  | _, _, .cons h r => .cons (Rep.up g h) (RepK.up g r)
/-- what stands at a place of the memory -/
def MAt (K : PySem.W.Frag) (as : List Addr) (F H : Hp) (a : Addr) : M → Prop
  | .lst ds => ∃ vs, H a = some (.lst vs) ∧ RepL K as F vs ds
  | .ins C gs => ∃ dx fs, H a = some (.ins C dx fs) ∧ RepF K as F fs gs
  | .dic kvs => ∃ ks, H a = some (.dK ks) ∧ RepK K as F ks kvs
theorem MAt.some {a : Addr} {m : M} (h : MAt K as F H a m) : ∃ o, H a = some o := by
  cases m with
  | lst ds => obtain ⟨vs, e, _⟩ := h; exact ⟨_, e⟩
  | ins C gs => obtain ⟨dx, fs, e, _⟩ := h; exact ⟨_, e⟩
  | dic kvs => obtain ⟨ks, e, _⟩ := h; exact ⟨_, e⟩
theorem MAt.up {a : Addr} {m : M} (h : MAt K as F H a m) (g : Gr as F as' F') (e : H' a = H a) : MAt K as' F' H' a m := by
  cases m with
  | lst ds => obtain ⟨vs, q, r⟩ := h; exact ⟨vs, e.trans q, r.up g⟩
  | ins C gs => obtain ⟨dx, fs, q, r⟩ := h; exact ⟨dx, fs, e.trans q, r.up g⟩
  | dic kvs => obtain ⟨ks, q, r⟩ := h; exact ⟨ks, e.trans q, r.up g⟩
/-- the memory, in the heap H, over what is frozen -/
structure Mm (K : PySem.W.Frag) (Z : Hp) (as : List Addr) (F H : Hp) (μ : Mem) : Prop where
  same : Same F H
  len : as.length = μ.length
  nd : as.Nodup
  fr : ∀ a ∈ as, F a = none
  at_ : ∀ (k : Nat) (m : M), μ[k]? = some m → ∃ a, as[k]? = some a ∧ MAt K as F H a m
  hid : ∀ a o, Z a = some o → H a = some o ∧ F a = none ∧ a ∉ as
theorem Mm.there {μ : Mem} (h : Mm K Z as F H μ) {a : Addr} (ha : a ∈ as) : ∃ o, H a = some o := by
  obtain ⟨k, hk⟩ := List.getElem?_of_mem ha
  have hl : k < μ.length := by rw [← h.len]; exact (List.getElem?_eq_some_iff.mp hk).1
  obtain ⟨b, hb, m⟩ := h.at_ k _ (List.getElem?_eq_getElem hl)
  obtain rfl := Option.some.inj (hk.symm.trans hb)
  exact m.some
theorem Mm.new {μ : Mem} (h : Mm K Z as F H μ) {p : Addr} (n : H p = none) : p ∉ as := fun hp => by
  obtain ⟨o, e⟩ := h.there hp
  rw [n] at e; cases e
theorem Mm.newF {μ : Mem} (h : Mm K Z as F H μ) {p : Addr} (n : H p = none) : F p = none := h.same.free n
/-- the heap grows by what nobody looks at -/
theorem Mm.ext {μ : Mem} (h : Mm K Z as F H μ) (s : Same H H') : Mm K Z as F H' μ :=
  ⟨h.same.trans s, h.len, h.nd, h.fr, fun k m e => by
    obtain ⟨a, ha, x⟩ := h.at_ k m e
    obtain ⟨o, q⟩ := x.some
    exact ⟨a, ha, x.up Gr.refl ((s _ _ q).trans q.symm)⟩, fun a o e => ⟨s _ _ (h.hid a o e).1, (h.hid a o e).2⟩⟩
theorem Gr.upd {p : Addr} {o : HO} (n : F p = none) : Gr as F as (upd F p o) := ⟨same_upd n, fun _ _ e => e⟩
/-- a new frozen thing -/
theorem Mm.addF {μ : Mem} (h : Mm K Z as F H μ) {p : Addr} {o : HO} (n : H p = none) : Mm K Z as (upd F p o) (upd H p o) μ := by
  refine ⟨fun b u e => ?_, h.len, h.nd, fun a ha => ?_, fun k m e => ?_, fun a o' e => ?_⟩
  · by_cases z : b = p
    · subst z; rw [upd_same] at e ⊢; exact e
    · rw [upd_ne z] at e ⊢; exact h.same _ _ e
  · rw [upd_ne (fun z : a = p => h.new n (by rw [← z]; exact ha))]; exact h.fr a ha
  · obtain ⟨a, ha, x⟩ := h.at_ k m e
    exact ⟨a, ha, x.up (Gr.upd (h.newF n)) (upd_ne (fun z : a = p => h.new n (by rw [← z]; exact List.mem_of_getElem? ha)))⟩
  · obtain ⟨e1, e2, e3⟩ := h.hid a o' e
    have ne : a ≠ p := ne_of_none e1 n
    exact ⟨by rw [upd_ne ne]; exact e1, by rw [upd_ne ne]; exact e2, e3⟩
theorem Gr.add {p : Addr} : Gr as F (as ++ [p]) F := ⟨Same.refl F, fun k a e => by rw [List.getElem?_append_left (List.getElem?_eq_some_iff.mp e).1]; exact e⟩
/-- a new thing that may change -/
theorem Mm.addM {μ : Mem} (h : Mm K Z as F H μ) {p : Addr} {o : HO} {m : M} (n : H p = none) (x : MAt K (as ++ [p]) F (upd H p o) p m) : Mm K Z (as ++ [p]) F (upd H p o) (μ ++ [m]) := by
  refine ⟨h.same.trans (same_upd n), by rw [List.length_append, List.length_append, h.len]; rfl, List.nodup_append.mpr ⟨h.nd, List.nodup_cons.mpr ⟨List.not_mem_nil, List.nodup_nil⟩, fun a ha b hb => ?_⟩, fun a ha => ?_, fun k m' e => ?_, fun a o' e => ?_⟩
  · rw [List.mem_singleton.mp hb]
    exact fun z => h.new n (by rw [← z]; exact ha)
  · rcases List.mem_append.mp ha with z | z
    · exact h.fr a z
    · rw [List.mem_singleton.mp z]; exact h.newF n
  · by_cases hk : k < μ.length
    · rw [List.getElem?_append_left hk] at e
      obtain ⟨a, ha, y⟩ := h.at_ k m' e
      exact ⟨a, (Gr.add (F := F)).p k a ha, y.up Gr.add (upd_ne (fun z : a = p => h.new n (by rw [← z]; exact List.mem_of_getElem? ha)))⟩
    · rw [List.getElem?_append_right (by omega)] at e
      have hz : k - μ.length = 0 := by
        have := (List.getElem?_eq_some_iff.mp e).1
        simp at this
        omega
      rw [hz] at e
      cases e
      refine ⟨p, ?_, x⟩
      rw [List.getElem?_append_right (by have := h.len; omega), h.len, hz]
      rfl
  · obtain ⟨e1, e2, e3⟩ := h.hid a o' e
    have ne : a ≠ p := ne_of_none e1 n
    exact ⟨by rw [upd_ne ne]; exact e1, e2, fun z => (List.mem_append.mp z).elim e3 fun z => ne (List.mem_singleton.mp z)⟩
/-- a thing changed -/
theorem Mm.put {μ : Mem} (h : Mm K Z as F H μ) {k : Nat} {a : Addr} {o : HO} {m : M} (ha : as[k]? = some a) (x : MAt K as F (upd H a o) a m) : Mm K Z as F (upd H a o) (μ.set k m) := by
  refine ⟨fun b u e => ?_, by rw [List.length_set]; exact h.len, h.nd, h.fr, fun j m' e => ?_, fun b o' e => ?_⟩
  · rw [upd_ne fun z => ?_]
    · exact h.same _ _ e
    · rw [z, h.fr a (List.mem_of_getElem? ha)] at e; cases e
  · by_cases hj : j = k
    · subst hj
      have hl : j < μ.length := by
        have := (List.getElem?_eq_some_iff.mp e).1
        rwa [List.length_set] at this
      rw [List.getElem?_set_self hl] at e
      cases e
      exact ⟨a, ha, x⟩
    · rw [List.getElem?_set_ne (Ne.symm hj)] at e
      obtain ⟨b, hb, y⟩ := h.at_ j m' e
      refine ⟨b, hb, y.up Gr.refl (upd_ne fun z => hj ?_)⟩
      subst z
      exact (List.getElem?_inj (List.getElem?_eq_some_iff.mp hb).1 h.nd).mp (hb.trans ha.symm)
  · obtain ⟨e1, e2, e3⟩ := h.hid b o' e
    exact ⟨by rw [upd_ne (fun z : b = a => e3 (by rw [z]; exact List.mem_of_getElem? ha))]; exact e1, e2, e3⟩
/-- the slots hold what ρ says -/
structure EnvR (K : PySem.W.Frag) (as : List Addr) (F : Hp) (σ : L2.St) (ρ : Rho) : Prop where
  len : σ.length = ρ.length
  get : ∀ (i : Nat) (d : D), ρ[i]? = some (some d) → ∃ v, σ[i]? = some (some v) ∧ Rep K as F v d
theorem EnvR.up {σ : L2.St} {ρ : Rho} (h : EnvR K as F σ ρ) (g : Gr as F as' F') : EnvR K as' F' σ ρ := ⟨h.len, fun i d e => by
  obtain ⟨v, h1, h2⟩ := h.get i d e
  exact ⟨v, h1, h2.up g⟩⟩
theorem EnvR.set {σ : L2.St} {ρ : Rho} (h : EnvR K as F σ ρ) {v : V} {d : D} (r : Rep K as F v d) (i : Nat) : EnvR K as F (σ.set i (some v)) (ρ.set i (some d)) := by
  refine ⟨by rw [List.length_set, List.length_set]; exact h.len, fun j e q => ?_⟩
  by_cases hj : j = i
  · subst hj
    have hl : j < ρ.length := by
      have := (List.getElem?_eq_some_iff.mp q).1
      rwa [List.length_set] at this
    rw [List.getElem?_set_self hl] at q
    cases q
    exact ⟨v, List.getElem?_set_self (by rw [h.len]; exact hl), r⟩
  · rw [List.getElem?_set_ne (Ne.symm hj)] at q ⊢
    exact h.get j e q
theorem EnvR.unset {σ : L2.St} {ρ : Rho} (h : EnvR K as F σ ρ) (i : Nat) : EnvR K as F (σ.set i none) (ρ.set i none) := by
  refine ⟨by rw [List.length_set, List.length_set]; exact h.len, fun j e q => ?_⟩
  by_cases hj : j = i
  · subst hj
    have hl : j < ρ.length := by
      have := (List.getElem?_eq_some_iff.mp q).1
      rwa [List.length_set] at this
    rw [List.getElem?_set_self hl] at q
    cases q
  · rw [List.getElem?_set_ne (Ne.symm hj)] at q ⊢
    exact h.get j e q
/-- the state -/
structure Rp (K : PySem.W.Frag) (Z : Hp) (as : List Addr) (F H : Hp) (σ : L2.St) (ρ : Rho) (μ : Mem) : Prop where
  mm : Mm K Z as F H μ
  env : EnvR K as F σ ρ
/-! ### what is read: frozen or in the memory -/
def view (μ : Mem) : D → D
  | .ob k => match μ[k]? with
    | some (.lst ds) => .lst ds
    | some (.ins C fs) => .ins C fs
    | _ => .ob k
  | .kt ds => .tup ds
  | .kl ds => .lst ds
  | d => d
theorem view_lst {μ : Mem} (h : Mm K Z as F H μ) {v : V} {d : D} (r : Rep K as F v d) {ds : List D} (e : view μ d = .lst ds) : ∃ a vs, v = .ref a ∧ SqL K H a vs ∧ RepL K as F vs ds := by
  cases r with
  | lst q x => cases e; exact ⟨_, _, rfl, SqL.of (h.same _ _ q), x⟩
  | kl q x => cases e; exact ⟨_, _, rfl, h.same.seq q, x⟩
  | ob q =>
    rename_i k a
    have e : (match μ[k]? with | some (M.lst ds) => D.lst ds | some (.ins C fs) => .ins C fs | _ => .ob k) = .lst ds := e
    cases z : μ[k]? with
    | none => rw [z] at e; cases e
    | some m =>
      rw [z] at e
      obtain ⟨b, hb, y⟩ := h.at_ k m z
      obtain rfl := Option.some.inj (q.symm.trans hb)
      cases m with
      | lst es => cases e; obtain ⟨vs, e1, e2⟩ := y; exact ⟨_, vs, rfl, SqL.of e1, e2⟩
      | ins C fs => cases e
      | dic kv => cases e
  | _ => cases e
theorem view_ins {μ : Mem} (h : Mm K Z as F H μ) {v : V} {d : D} (r : Rep K as F v d) {C : Addr} {gs : List (Str × D)} (e : view μ d = .ins C gs) : ∃ a dx fs, v = .ref a ∧ H a = some (.ins C dx fs) ∧ RepF K as F fs gs := by
  cases r with
  | ins q x => cases e; exact ⟨_, _, _, rfl, h.same _ _ q, x⟩
  | ob q =>
    rename_i k a
    have e : (match μ[k]? with | some (M.lst ds) => D.lst ds | some (.ins C fs) => .ins C fs | _ => .ob k) = .ins C gs := e
    cases z : μ[k]? with
    | none => rw [z] at e; cases e
    | some m =>
      rw [z] at e
      obtain ⟨b, hb, y⟩ := h.at_ k m z
      obtain rfl := Option.some.inj (q.symm.trans hb)
      cases m with
      | lst es => cases e
      | ins C fs => cases e; obtain ⟨dx, vs, e1, e2⟩ := y; exact ⟨_, dx, vs, rfl, e1, e2⟩
      | dic kv => cases e
  | _ => cases e
theorem view_tup {μ : Mem} (h : Mm K Z as F H μ) {v : V} {d : D} (r : Rep K as F v d) {ds : List D} (e : view μ d = .tup ds) : ∃ a vs, v = .ref a ∧ SqT K H a vs ∧ RepL K as F vs ds := by
  cases r with
  | tup q x => cases e; exact ⟨_, _, rfl, SqT.of (h.same _ _ q), x⟩
  | kt q x => cases e; exact ⟨_, _, rfl, SqT.ext q h.same, x⟩
  | ob q =>
    rename_i k a
    have e : (match μ[k]? with | some (M.lst ds) => D.lst ds | some (.ins C fs) => .ins C fs | _ => .ob k) = .tup ds := e
    cases z : μ[k]? with
    | none => rw [z] at e; cases e
    | some m =>
      rw [z] at e
      cases m with
      | lst es => cases e
      | ins C fs => cases e
      | dic kv => cases e
  | _ => cases e
/-- what is tracked -/
def viewT (μ : Mem) : D → D
  | .ob k => match μ[k]? with
    | some (.lst ds) => .lst ds
    | some (.ins C fs) => .ins C fs
    | _ => .ob k
  | d => d
theorem viewT_lst {μ : Mem} (h : Mm K Z as F H μ) {v : V} {d : D} (r : Rep K as F v d) {ds : List D} (e : viewT μ d = .lst ds) : ∃ a vs, v = .ref a ∧ H a = some (.lst vs) ∧ RepL K as F vs ds := by
  cases r with
  | lst q x => cases e; exact ⟨_, _, rfl, h.same _ _ q, x⟩
  | ob q =>
    rename_i k a
    have e : (match μ[k]? with | some (M.lst ds) => D.lst ds | some (.ins C fs) => .ins C fs | _ => .ob k) = .lst ds := e
    cases z : μ[k]? with
    | none => rw [z] at e; cases e
    | some m =>
      rw [z] at e
      obtain ⟨b, hb, y⟩ := h.at_ k m z
      obtain rfl := Option.some.inj (q.symm.trans hb)
      cases m with
      | lst es => cases e; obtain ⟨vs, e1, e2⟩ := y; exact ⟨_, vs, rfl, e1, e2⟩
      | ins C fs => cases e
      | dic kv => cases e
  | _ => cases e
end
end DX
set_option Elab.async false
set_option linter.all false
set_option maxRecDepth 100000
set_option maxHeartbeats 4000000
namespace DX
open PySem PySem.Spec PyProof.Rows L2
/-! readings by data -/
abbrev XD := Rho → Addr → List (Str × D) → Mem → Prop
abbrev DTE := Rho → Mem → (D → Mem → Prop) → XD → Prop
abbrev DTT := Rho → Mem → (Bool → Mem → Prop) → XD → Prop
abbrev DTA := Rho → Mem → (List D → Mem → Prop) → XD → Prop
structure DEnds where
  nx : Rho → Mem → Prop
  rt : D → Mem → Prop
  bk : Rho → Mem → Prop := fun _ _ => False
  ct : Rho → Mem → Prop := fun _ _ => False
abbrev DTS := DEnds → XD → Rho → Mem → Prop
/-- how an exception's fields stand -/
def ExcR (K : PySem.W.Frag) (as : List Addr) (F : Hp) (dx : Option Addr) (gs : List (Str × D)) : Prop := gs = [] ∨ ∃ dd fs, dx = some dd ∧ F dd = some (.xd fs) ∧ RepF K as F fs gs
section
variable {K : PySem.W.Frag} {Z : Hp} {as as' as1 : List Addr} {F F' F1 H H' H1 : Hp}
def XL (K : PySem.W.Frag) (Ex : L2.St → XK) (Z : Hp) (as : List Addr) (F : Hp) (E : XD) : Prop :=
  ∀ (σ : L2.St) (ρ : Rho) (μ : Mem) (as' : List Addr) (F' H : Hp) (C : Addr) (gs : List (Str × D)) (dx : Option Addr), Gr as F as' F' → Rp K Z as' F' H σ ρ μ → ExcR K as' F' dx gs → E ρ C gs μ → Ex σ (.ref C) dx H
theorem XL.up {Ex : L2.St → XK} {E : XD} (h : XL K Ex Z as F E) (g : Gr as F as1 F1) : XL K Ex Z as1 F1 E := fun σ ρ μ as' F' H C gs dx g' => h σ ρ μ as' F' H C gs dx (g.trans g')
abbrev X0 : L2.St → XK := fun _ => E0
abbrev XN : XD := fun _ _ _ _ => False
theorem XL.no {Ex : L2.St → XK} : XL K Ex Z as F XN := fun _ _ _ _ _ _ _ _ _ _ _ _ z => z.elim
theorem Rp.up {σ : L2.St} {ρ : Rho} {μ μ' : Mem} (h : Rp K Z as F H σ ρ μ) (g : Gr as F as' F') (m : Mm K Z as' F' H' μ') : Rp K Z as' F' H' σ ρ μ' := ⟨m, h.env.up g⟩
def Sim (K : PySem.W.Frag) (Ex : L2.St → XK) (t : TE) (u : DTE) : Prop :=
  ∀ (Z : Hp) (as : List Addr) (F H : Hp) (σ : L2.St) (ρ : Rho) (μ : Mem) (Q : D → Mem → Prop) (E : XD) (Q' : VK), Rp K Z as F H σ ρ μ → XL K Ex Z as F E → u ρ μ Q E →
    (∀ v d μ' as' F' H', Gr as F as' F' → Rp K Z as' F' H' σ ρ μ' → Rep K as' F' v d → Q d μ' → Q' v H') → t σ H Q'
def SimT (K : PySem.W.Frag) (Ex : L2.St → XK) (t : TT) (u : DTT) : Prop :=
  ∀ (Z : Hp) (as : List Addr) (F H : Hp) (σ : L2.St) (ρ : Rho) (μ : Mem) (Q : Bool → Mem → Prop) (E : XD) (Q' : Bool → Hp → Prop), Rp K Z as F H σ ρ μ → XL K Ex Z as F E → u ρ μ Q E →
    (∀ b μ' as' F' H', Gr as F as' F' → Rp K Z as' F' H' σ ρ μ' → Q b μ' → Q' b H') → t σ H Q'
def SimA (K : PySem.W.Frag) (Ex : L2.St → XK) (t : TA) (u : DTA) : Prop :=
  ∀ (Z : Hp) (as : List Addr) (F H : Hp) (σ : L2.St) (ρ : Rho) (μ : Mem) (Q : List D → Mem → Prop) (E : XD) (Q' : List V → Hp → Prop), Rp K Z as F H σ ρ μ → XL K Ex Z as F E → u ρ μ Q E →
    (∀ vs ds μ' as' F' H', Gr as F as' F' → Rp K Z as' F' H' σ ρ μ' → RepL K as' F' vs ds → Q ds μ' → Q' vs H') → t σ H Q'
def SimS (K : PySem.W.Frag) (Ex : L2.St → XK) (t : TS) (u : DTS) : Prop :=
  ∀ (Z : Hp) (as : List Addr) (F H : Hp) (σ : L2.St) (ρ : Rho) (μ : Mem) (De : DEnds) (E : XD) (D' : Ends), Rp K Z as F H σ ρ μ → XL K Ex Z as F E → u De E ρ μ →
    (∀ σ' ρ' μ' as' F' H', Gr as F as' F' → Rp K Z as' F' H' σ' ρ' μ' → De.nx ρ' μ' → D'.nx σ' H') →
    (∀ v d μ' as' F' H', Gr as F as' F' → Mm K Z as' F' H' μ' → Rep K as' F' v d → De.rt d μ' → D'.rt v H') →
    (∀ σ' ρ' μ' as' F' H', Gr as F as' F' → Rp K Z as' F' H' σ' ρ' μ' → De.bk ρ' μ' → D'.bk σ' H') →
    (∀ σ' ρ' μ' as' F' H', Gr as F as' F' → Rp K Z as' F' H' σ' ρ' μ' → De.ct ρ' μ' → D'.ct σ' H') → t D' σ H
structure PD (X : Cx) (K : PySem.W.Frag) (Ex : L2.St → XK) (e : Expr) (t : TE) (u : DTE) : Prop where
  pe : PE X e t
  sim : Sim K Ex t u
structure TD (X : Cx) (K : PySem.W.Frag) (Ex : L2.St → XK) (e : Expr) (t : TT) (u : DTT) : Prop where
  pe : PT X e t
  sim : SimT K Ex t u
structure WD (X : Cx) (K : PySem.W.Frag) (Ex : L2.St → XK) (e : Expr) (t : TT) (u : DTT) : Prop where
  pe : PW X e t
  sim : SimT K Ex t u
structure AD (X : Cx) (K : PySem.W.Frag) (Ex : L2.St → XK) (es : List Expr) (t : TA) (u : DTA) : Prop where
  pe : PA X es t
  sim : SimA K Ex t u
structure SD (X : Cx) (K : PySem.W.Frag) (Ex : L2.St → XK) (s : Stmt) (t : TS) (u : DTS) : Prop where
  pe : PS X s t
  sim : SimS K Ex t u
structure BD (X : Cx) (K : PySem.W.Frag) (Ex : L2.St → XK) (s : List Stmt) (t : TS) (u : DTS) : Prop where
  pe : PSs X s t
  sim : SimS K Ex t u
variable {Ex : L2.St → XK}
/-! ### names, constants -/
def uVar (i : Nat) : DTE := fun ρ μ Q _ => match ρ[i]? with
  | some (some d) => Q d μ
  | _ => False
theorem sim_var (i : Nat) : Sim K Ex (tVar i) (uVar i) := fun Z as F H σ ρ μ Q E Q' R X h k => by
  have h : (match ρ[i]? with | some (some d) => Q d μ | _ => False) := h
  cases e : ρ[i]? with
  | none => rw [e] at h; exact h.elim
  | some o =>
    rw [e] at h
    cases o with
    | none => exact h.elim
    | some d =>
      obtain ⟨v, h1, h2⟩ := R.env.get i d e
      exact ⟨v, h1, k v d μ as F H Gr.refl R h2 h⟩
def uC (d : D) : DTE := fun _ μ Q _ => Q d μ
theorem sim_c {v : V} {d : D} (r : ∀ as F, Rep K as F v d) : Sim K Ex (tC v) (uC d) := fun Z as F H σ ρ μ Q E Q' R X h k => k v d μ as F H Gr.refl R (r as F) h
/-! ### lists of expressions -/
def uNil : DTA := fun _ μ Q _ => Q [] μ
def uCons (u : DTE) (w : DTA) : DTA := fun ρ μ Q E => u ρ μ (fun d μ1 => w ρ μ1 (fun ds μ2 => Q (d :: ds) μ2) E) E
theorem sim_nil : SimA K Ex tNil uNil := fun Z as F H σ ρ μ Q E Q' R X h k => k [] [] μ as F H Gr.refl R .nil h
theorem sim_cons {t : TE} {u : DTE} {s : TA} {w : DTA} (a : Sim K Ex t u) (b : SimA K Ex s w) : SimA K Ex (tCons t s) (uCons u w) := fun Z as F H σ ρ μ Q E Q' R X h k =>
  a Z as F H σ ρ μ _ E _ R X h fun v d μ1 as1 F1 H1 g1 R1 r1 h1 => b Z as1 F1 H1 σ ρ μ1 _ E _ R1 (X.up g1) h1 fun vs ds μ2 as2 F2 H2 g2 R2 r2 h2 =>
    k (v :: vs) (d :: ds) μ2 as2 F2 H2 (g1.trans g2) R2 (.cons (r1.up g2) r2) h2
/-! ### displays -/
def uTup (w : DTA) : DTE := fun ρ μ Q E => w ρ μ (fun ds μ1 => ds.length ≤ 1000 ∧ Q (.tup ds) μ1) E
def uLst (w : DTA) : DTE := fun ρ μ Q E => w ρ μ (fun ds μ1 => ds.length ≤ 1000 ∧ Q (.lst ds) μ1) E
def uLstM (w : DTA) : DTE := fun ρ μ Q E => w ρ μ (fun ds μ1 => ds.length ≤ 1000 ∧ Q (.ob μ1.length) (μ1 ++ [.lst ds])) E
theorem le_line {n : Nat} (h : n ≤ 1000) : n ≤ sizeLine := Nat.le_trans h (by decide)
theorem sim_tup {t : TA} {w : DTA} (a : SimA K Ex t w) : Sim K Ex (tTup t) (uTup w) := fun Z as F H σ ρ μ Q E Q' R X h k =>
  a Z as F H σ ρ μ _ E _ R X h fun vs ds μ1 as1 F1 H1 g1 R1 r1 h1 => ⟨by rw [r1.len]; exact le_line h1.1, fun p np =>
    have g2 := Gr.upd (as := as1) (o := .tup vs) (R1.mm.newF np)
    k _ _ μ1 as1 _ _ (g1.trans g2) (R1.up g2 (R1.mm.addF np)) (.tup upd_same (r1.up g2)) h1.2⟩
theorem sim_lst {t : TA} {w : DTA} (a : SimA K Ex t w) : Sim K Ex (tLst t) (uLst w) := fun Z as F H σ ρ μ Q E Q' R X h k =>
  a Z as F H σ ρ μ _ E _ R X h fun vs ds μ1 as1 F1 H1 g1 R1 r1 h1 => ⟨by rw [r1.len]; exact le_line h1.1, fun p np =>
    have g2 := Gr.upd (as := as1) (o := .lst vs) (R1.mm.newF np)
    k _ _ μ1 as1 _ _ (g1.trans g2) (R1.up g2 (R1.mm.addF np)) (.lst upd_same (r1.up g2)) h1.2⟩
theorem rep_ob {as : List Addr} {n : Nat} {p : Addr} (e : as.length = n) : Rep K (as ++ [p]) F (.ref p) (.ob n) := .ob (by rw [List.getElem?_append_right (by omega), e, Nat.sub_self]; rfl)
theorem sim_lstM {t : TA} {w : DTA} (a : SimA K Ex t w) : Sim K Ex (tLst t) (uLstM w) := fun Z as F H σ ρ μ Q E Q' R X h k =>
  a Z as F H σ ρ μ _ E _ R X h fun vs ds μ1 as1 F1 H1 g1 R1 r1 h1 => ⟨by rw [r1.len]; exact le_line h1.1, fun p np =>
    k _ _ _ (as1 ++ [p]) F1 _ (g1.trans Gr.add) (R1.up Gr.add (R1.mm.addM (m := .lst ds) np ⟨vs, upd_same, r1.up Gr.add⟩)) (rep_ob R1.mm.len) h1.2⟩
/-! ### operators by values -/
abbrev DR2 := D → D → Mem → (D → Mem → Prop) → Prop
def SimR (K : PySem.W.Frag) (r : R2) (dr : DR2) : Prop := ∀ (Z : Hp) (as : List Addr) (F H : Hp) (μ : Mem) (x y : V) (d e : D) (Q : D → Mem → Prop) (Q' : VK), Mm K Z as F H μ → Rep K as F x d → Rep K as F y e → dr d e μ Q →
  (∀ v d' μ' as' F' H', Gr as F as' F' → Mm K Z as' F' H' μ' → Rep K as' F' v d' → Q d' μ' → Q' v H') → r x y H Q'
def uOp (dr : DR2) (ua ub : DTE) : DTE := fun ρ μ Q E => ua ρ μ (fun x μ1 => ub ρ μ1 (fun y μ2 => dr x y μ2 Q) E) E
theorem sim_op {r : R2} {dr : DR2} {ta tb : TE} {ua ub : DTE} (s : SimR K r dr) (a : Sim K Ex ta ua) (b : Sim K Ex tb ub) : Sim K Ex (tOp r ta tb) (uOp dr ua ub) := fun Z as F H σ ρ μ Q E Q' R X h k =>
  a Z as F H σ ρ μ _ E _ R X h fun v d μ1 as1 F1 H1 g1 R1 r1 h1 => b Z as1 F1 H1 σ ρ μ1 _ E _ R1 (X.up g1) h1 fun v2 d2 μ2 as2 F2 H2 g2 R2 r2 h2 =>
    s Z as2 F2 H2 μ2 v v2 d d2 Q Q' R2.mm (r1.up g2) r2 h2 fun v' d' μ' as' F' H' g3 M3 r3 q => k v' d' μ' as' F' H' ((g1.trans g2).trans g3) (R2.up g3 M3) r3 q
def rOr (r s : R2) : R2 := fun x y H Q => r x y H Q ∨ s x y H Q
theorem opr_or {X : Cx} {f : Value → Value → Sem Value} {r s : R2} (a : OpR X f r) (b : OpR X f s) : OpR X f (rOr r s) := fun pins s σ H x y v u Q I rx ry h =>
  h.elim (fun z => a pins s σ H x y v u Q I rx ry z) fun z => b pins s σ H x y v u Q I rx ry z
theorem simR_or {r s : R2} {a b : DR2} (h1 : SimR K r a) (h2 : SimR K s b) : SimR K (rOr r s) (fun x y μ Q => a x y μ Q ∨ b x y μ Q) := fun Z as F H μ x y d e Q Q' M rx ry h k =>
  h.elim (fun z => .inl (h1 Z as F H μ x y d e Q Q' M rx ry z k)) fun z => .inr (h2 Z as F H μ x y d e Q Q' M rx ry z k)
theorem SimR.imp {r : R2} {a b : DR2} (h : SimR K r a) (i : ∀ x y μ Q, b x y μ Q → a x y μ Q) : SimR K r b := fun Z as F H μ x y d e Q Q' M rx ry z k => h Z as F H μ x y d e Q Q' M rx ry (i _ _ _ _ z) k
/-- ints -/
def dI (g : Int → Int → D) : DR2 := fun x y μ Q => match x, y with
  | .int i, .int j => Q (g i j) μ
  | _, _ => False
def dIC (C : Int → Int → Prop) (g : Int → Int → D) : DR2 := fun x y μ Q => match x, y with
  | .int i, .int j => C i j ∧ Q (g i j) μ
  | _, _ => False
theorem simR_int {g : Int → Int → D} {v : Int → Int → V} (h : ∀ i j as F, Rep K as F (v i j) (g i j)) : SimR K (rI0 v) (dI g) := fun Z as F H μ x y d e Q Q' M rx ry z k => by
  cases rx <;> try exact z.elim
  cases ry <;> try exact z.elim
  exact ⟨_, _, rfl, rfl, k _ _ μ as F H Gr.refl M (h _ _ as F) z⟩
theorem simR_intC {C : Int → Int → Prop} {g : Int → Int → D} {v : Int → Int → V} (h : ∀ i j as F, Rep K as F (v i j) (g i j)) : SimR K (rI C v) (dIC C g) := fun Z as F H μ x y d e Q Q' M rx ry z k => by
  cases rx <;> try exact z.elim
  cases ry <;> try exact z.elim
  exact ⟨_, _, rfl, rfl, z.1, k _ _ μ as F H Gr.refl M (h _ _ as F) z.2⟩
end
end DX
set_option Elab.async false
set_option linter.all false
set_option maxRecDepth 100000
set_option maxHeartbeats 4000000
namespace DX
open PySem PySem.Spec PyProof.Rows L2
/-! data: equality, what repr and == may be asked of -/
mutual
def deqv : D → D → Bool
  | .non, .non => true
  | .bl a, .bl b => a == b
  | .bl a, .int j => (if a then 1 else 0) == j
  | .int i, .bl b => i == (if b then 1 else 0)
  | .int i, .int j => i == j
  | .str x, .str y => x == y
  | .byt x, .byt y => x.toList == y.toList
  | .lst xs, .lst ys => deqvL xs ys
  | .tup xs, .tup ys => deqvL xs ys
  | _, _ => false
def deqvL : List D → List D → Bool
  | [], [] => true
  | x :: xs, y :: ys => deqv x y && deqvL xs ys
  | _, _ => false
end
mutual
def toP : D → Option PyData
  | .non => some .none
  | .bl b => some (.bool b)
  | .int i => some (.int i)
  | .str x => some (.str x)
  | .lst xs => (toPL xs).map .list
  | .tup xs => (toPL xs).map .tuple
  | _ => none
def toPL : List D → Option (List PyData)
  | [] => some []
  | x :: xs => match toP x, toPL xs with
    | some p, some ps => some (p :: ps)
    | _, _ => none
end
mutual
/-- pure data whose texts are well-formed -/
def dlay : D → Bool
  | .non => true
  | .bl _ => true
  | .int _ => true
  | .str x => PyData.strOk x
  | .lst xs => dlayL xs
  | .tup xs => dlayL xs
  | _ => false
def dlayL : List D → Bool
  | [] => true
  | x :: xs => dlay x && dlayL xs
end
mutual
def ddep : D → Nat
  | .lst xs => ddepL xs + 1
  | .tup xs => ddepL xs + 1
  | _ => 0
def ddepL : List D → Nat
  | [] => 0
  | x :: xs => max (ddep x) (ddepL xs)
end
def dok (d : D) : Bool := dlay d && decide (ddep d ≤ 60)
section
variable {K : PySem.W.Frag} {Z : Hp} {as as' as1 : List Addr} {F F' F1 H H' H1 : Hp}
mutual
theorem lay_toP : ∀ {d : D}, dlay d = true → ∃ p, toP d = some p ∧ PyData.canLay0 p = true ∧ p.depth = ddep d
  | .non, _ => ⟨_, rfl, rfl, rfl⟩
  | .bl _, _ => ⟨_, rfl, rfl, rfl⟩
  | .int _, _ => ⟨_, rfl, rfl, rfl⟩
  | .str x, h => ⟨.str x, rfl, h, rfl⟩
  | .lst xs, h => by
    obtain ⟨ps, h1, h2, h3⟩ := lay_toPL (ds := xs) h
    exact ⟨.list ps, (by show (toPL xs).map _ = _; rw [h1]; rfl), h2, (by show PyData.depthAll ps + 1 = ddepL xs + 1; rw [h3])⟩
  | .tup xs, h => by
    obtain ⟨ps, h1, h2, h3⟩ := lay_toPL (ds := xs) h
    exact ⟨.tuple ps, (by show (toPL xs).map _ = _; rw [h1]; rfl), h2, (by show PyData.depthAll ps + 1 = ddepL xs + 1; rw [h3])⟩
  | .byt _, h => nomatch h
  | .kt _, h => nomatch h
  | .kl _, h => nomatch h
  | .ins _ _, h => nomatch h
  | .val _, h => nomatch h
  | .ob _, h => nomatch h
  | .exc _ _ _ _, h => nomatch h
theorem lay_toPL : ∀ {ds : List D}, dlayL ds = true → ∃ ps, toPL ds = some ps ∧ PyData.canLayAll0 ps = true ∧ PyData.depthAll ps = ddepL ds
  | [], _ => ⟨[], rfl, rfl, rfl⟩
  | d :: ds, h => by
    have h : (dlay d && dlayL ds) = true := h
    rw [Bool.and_eq_true] at h
    obtain ⟨p, h1, h2, h3⟩ := lay_toP (d := d) h.1
    obtain ⟨ps, g1, g2, g3⟩ := lay_toPL (ds := ds) h.2
    refine ⟨p :: ps, ?_, ?_, ?_⟩
    · show (match toP d, toPL ds with | some p, some ps => some (p :: ps) | _, _ => none) = _
      rw [h1, g1]
    · show (PyData.canLay0 p && PyData.canLayAll0 ps) = true
      rw [h2, g2]; rfl
    · show max p.depth (PyData.depthAll ps) = max (ddep d) (ddepL ds)
      rw [h3, g3]
end
theorem toP_lst {xs : List D} {p : PyData} (h : toP (.lst xs) = some p) : ∃ ps, toPL xs = some ps ∧ p = .list ps := by
  have h : (toPL xs).map PyData.list = some p := h
  cases e : toPL xs with
  | none => rw [e] at h; cases h
  | some ps => rw [e] at h; exact ⟨ps, rfl, (Option.some.inj h).symm⟩
theorem toP_tup {xs : List D} {p : PyData} (h : toP (.tup xs) = some p) : ∃ ps, toPL xs = some ps ∧ p = .tuple ps := by
  have h : (toPL xs).map PyData.tuple = some p := h
  cases e : toPL xs with
  | none => rw [e] at h; cases h
  | some ps => rw [e] at h; exact ⟨ps, rfl, (Option.some.inj h).symm⟩
theorem toPL_cons {d : D} {ds : List D} {ps : List PyData} (h : toPL (d :: ds) = some ps) : ∃ p qs, toP d = some p ∧ toPL ds = some qs ∧ ps = p :: qs := by
  have h : (match toP d, toPL ds with | some p, some ps => some (p :: ps) | _, _ => none) = some ps := h
  cases e : toP d with
  | none => rw [e] at h; cases h
  | some p =>
    cases e2 : toPL ds with
    | none => rw [e, e2] at h; cases h
    | some qs => rw [e, e2] at h; exact ⟨p, qs, rfl, rfl, (Option.some.inj h).symm⟩
mutual
theorem toP_eqv : ∀ {d e : D} {p q : PyData}, toP d = some p → toP e = some q → PyData.eqv p q = deqv d e
  | .lst xs, e, p, q, h, g => by
    obtain ⟨ps, hp, rfl⟩ := toP_lst h
    cases e with
    | lst ys => obtain ⟨qs, hq, rfl⟩ := toP_lst g; exact toPL_eqv hp hq
    | tup ys => obtain ⟨qs, hq, rfl⟩ := toP_tup g; rfl
    | _ => first | (cases g; rfl) | cases g
  | .tup xs, e, p, q, h, g => by
    obtain ⟨ps, hp, rfl⟩ := toP_tup h
    cases e with
    | lst ys => obtain ⟨qs, hq, rfl⟩ := toP_lst g; rfl
    | tup ys => obtain ⟨qs, hq, rfl⟩ := toP_tup g; exact toPL_eqv hp hq
    | _ => first | (cases g; rfl) | cases g
  | .non, e, p, q, h, g => by
    cases h
    cases e with
    | lst ys => obtain ⟨qs, hq, rfl⟩ := toP_lst g; rfl
    | tup ys => obtain ⟨qs, hq, rfl⟩ := toP_tup g; rfl
    | _ => first | (cases g; rfl) | cases g
  | .bl _, e, p, q, h, g => by
    cases h
    cases e with
    | lst ys => obtain ⟨qs, hq, rfl⟩ := toP_lst g; rfl
    | tup ys => obtain ⟨qs, hq, rfl⟩ := toP_tup g; rfl
    | _ => first | (cases g; rfl) | cases g
  | .int _, e, p, q, h, g => by
    cases h
    cases e with
    | lst ys => obtain ⟨qs, hq, rfl⟩ := toP_lst g; rfl
    | tup ys => obtain ⟨qs, hq, rfl⟩ := toP_tup g; rfl
    | _ => first | (cases g; rfl) | cases g
  | .str _, e, p, q, h, g => by
    cases h
    cases e with
    | lst ys => obtain ⟨qs, hq, rfl⟩ := toP_lst g; rfl
    | tup ys => obtain ⟨qs, hq, rfl⟩ := toP_tup g; rfl
    | _ => first | (cases g; rfl) | cases g
  | .byt _, _, _, _, h, _ => nomatch h
  | .kt _, _, _, _, h, _ => nomatch h
  | .kl _, _, _, _, h, _ => nomatch h
  | .ins _ _, _, _, _, h, _ => nomatch h
  | .val _, _, _, _, h, _ => nomatch h
  | .ob _, _, _, _, h, _ => nomatch h
  | .exc _ _ _ _, _, _, _, h, _ => nomatch h
theorem toPL_eqv : ∀ {ds es : List D} {ps qs : List PyData}, toPL ds = some ps → toPL es = some qs → PyData.eqvAll ps qs = deqvL ds es
  | [], [], _, _, h, g => by cases h; cases g; rfl
  | [], e :: es, _, _, h, g => by
    cases h
    obtain ⟨q, qs, g1, g2, rfl⟩ := toPL_cons g
    rfl
  | d :: ds, [], _, _, h, g => by
    cases g
    obtain ⟨q, qs, g1, g2, rfl⟩ := toPL_cons h
    rfl
  | d :: ds, e :: es, _, _, h, g => by
    obtain ⟨p, ps, h1, h2, rfl⟩ := toPL_cons h
    obtain ⟨q, qs, g1, g2, rfl⟩ := toPL_cons g
    show (PyData.eqv p q && PyData.eqvAll ps qs) = (deqv d e && deqvL ds es)
    rw [toP_eqv h1 g1, toPL_eqv h2 g2]
end
mutual
theorem Rep.dp (s : Same F H) : ∀ {v : V} {d : D} {p : PyData}, Rep K as F v d → toP d = some p → Dp K H v p
  | _, _, _, .non, h => by cases h; exact .non
  | _, _, _, .bl b, h => by cases h; exact .bl b
  | _, _, _, .int b, h => by cases h; exact .int b
  | _, _, _, .str b, h => by cases h; exact .str b
  | _, _, _, .lst e r, h => by obtain ⟨ps, hp, rfl⟩ := toP_lst h; exact .lst (SqL.of (s _ _ e)) (RepL.dp s r hp)
  | _, _, _, .tup e r, h => by obtain ⟨ps, hp, rfl⟩ := toP_tup h; exact .tup (SqT.of (s _ _ e)) (RepL.dp s r hp)
  | _, _, _, .byt _, h => nomatch h
  | _, _, _, .kl _ _, h => nomatch h
  | _, _, _, .kt _ _, h => nomatch h
  | _, _, _, .ins _ _, h => nomatch h
  | _, _, _, .val _, h => nomatch h
  | _, _, _, .ob _, h => nomatch h
  | _, _, _, .exc0, h => nomatch h
  | _, _, _, .exc _ _, h => nomatch h
theorem RepL.dp (s : Same F H) : ∀ {vs : List V} {ds : List D} {ps : List PyData}, RepL K as F vs ds → toPL ds = some ps → DpAll K H vs ps
  | _, _, _, .nil, h => by cases h; exact .nil
  | _, _, _, .cons r rs, h => by
    obtain ⟨p, ps, h1, h2, rfl⟩ := toPL_cons h
    exact .cons (Rep.dp s r h1) (RepL.dp s rs h2)
end
theorem view_cases (μ : Mem) (d : D) : (∃ ds, view μ d = .lst ds) ∨ (∃ ds, view μ d = .tup ds) ∨ (∃ C fs, view μ d = .ins C fs) ∨ view μ d = d := by
  cases d with
  | ob k =>
    show (∃ ds, (match μ[k]? with | some (M.lst ds) => D.lst ds | some (.ins C fs) => .ins C fs | _ => .ob k) = _) ∨ (∃ ds, (match μ[k]? with | some (M.lst ds) => D.lst ds | some (.ins C fs) => .ins C fs | _ => .ob k) = _) ∨ (∃ C fs, (match μ[k]? with | some (M.lst ds) => D.lst ds | some (.ins C fs) => .ins C fs | _ => .ob k) = _) ∨ (match μ[k]? with | some (M.lst ds) => D.lst ds | some (.ins C fs) => .ins C fs | _ => .ob k) = _
    cases μ[k]? with
    | none => exact .inr (.inr (.inr rfl))
    | some m => cases m with
      | lst ds => exact .inl ⟨ds, rfl⟩
      | ins C fs => exact .inr (.inr (.inl ⟨C, fs, rfl⟩))
      | dic kv => exact .inr (.inr (.inr rfl))
  | kt ds => exact .inr (.inl ⟨ds, rfl⟩)
  | kl ds => exact .inl ⟨ds, rfl⟩
  | _ => exact .inr (.inr (.inr rfl))
/-- what is read as data: its own or the memory's list -/
theorem view_dp {μ : Mem} (M : Mm K Z as F H μ) {v : V} {d : D} {p : PyData} (r : Rep K as F v d) (h : toP (view μ d) = some p) : Dp K H v p := by
  rcases view_cases μ d with ⟨ds, z⟩ | ⟨ds, z⟩ | ⟨C, fs, z⟩ | z
  · rw [z] at h
    obtain ⟨ps, hp, rfl⟩ := toP_lst h
    obtain ⟨a, vs, rfl, e, x⟩ := view_lst M r z
    exact .lst e (RepL.dp M.same x hp)
  · rw [z] at h
    obtain ⟨ps, hp, rfl⟩ := toP_tup h
    obtain ⟨a, vs, rfl, e, x⟩ := view_tup M r z
    exact .tup e (RepL.dp M.same x hp)
  · rw [z] at h; cases h
  · rw [z] at h; exact Rep.dp M.same r h
/-- flat -/
def dflat : D → Bool
  | .non => true
  | .bl _ => true
  | .int _ => true
  | .str _ => true
  | _ => false
theorem flat_rep {v : V} {d : D} (r : Rep K as F v d) (h : dflat d = true) : flatV v = true := by
  cases r <;> first | rfl | cases h
theorem flat_eqV {v w' : V} {d e : D} (r : Rep K as F v d) (s : Rep K as F w' e) (h : dflat d = true) (g : dflat e = true) : eqV v w' = deqv d e := by
  cases r <;> first | (cases h; done) | (cases s <;> first | rfl | (cases g; done))
theorem flat_lay {d : D} (h : dflat d = true) : view [] d = d := by cases d <;> first | rfl | cases h
theorem view_flat {μ : Mem} {d : D} (h : dflat (view μ d) = true) : view μ d = d := by
  cases d with
  | ob k =>
    exfalso
    have h : dflat (match μ[k]? with | some (M.lst ds) => D.lst ds | some (.ins C fs) => .ins C fs | _ => .ob k) = true := h
    split at h <;> cases h
  | kt ds => cases h
  | kl ds => cases h
  | _ => rfl
def dEqOk (x y : D) : Bool := (dflat x && dflat y) || (dok x && dok y)
def dEq : DR2 := fun x y μ Q => dEqOk (view μ x) (view μ y) = true ∧ Q (.bl (deqv (view μ x) (view μ y))) μ
def dNe : DR2 := fun x y μ Q => dEqOk (view μ x) (view μ y) = true ∧ Q (.bl (!deqv (view μ x) (view μ y))) μ
theorem dok_shaped {d : D} (h : dok d = true) : ∃ p, toP d = some p ∧ SeqAt.shaped p = true := by
  unfold dok at h
  rw [Bool.and_eq_true, decide_eq_true_iff] at h
  obtain ⟨p, h1, h2, h3⟩ := lay_toP h.1
  refine ⟨p, h1, ?_⟩
  unfold SeqAt.shaped
  rw [h2, h3, Bool.true_and, decide_eq_true_iff]
  omega
theorem flat_cases {x y : V} {d e : D} (rx : Rep K as F x d) (ry : Rep K as F y e) (h1 : dflat d = true) (h2 : dflat e = true) :
    (scal x y = true ∧ decide (x = y) = deqv d e) ∨ (dok d = true ∧ dok e = true) := by
  cases rx <;> first | (cases h1; done) | skip
  all_goals (cases ry <;> first | (cases h2; done) | skip)
  all_goals first
    | exact .inl ⟨rfl, rfl⟩
    | exact .inr ⟨rfl, rfl⟩
    | exact .inl ⟨rfl, dec_int⟩
    | exact .inl ⟨rfl, dec_bl⟩
    | exact .inl ⟨rfl, dec_str⟩
theorem sim_eq : SimR K (rOr rEq (rEqD K)) dEq := fun Z as F H μ x y d e Q Q' M rx ry z k => by
  obtain ⟨ok, q⟩ := z
  have data : dok (view μ d) = true → dok (view μ e) = true → rEqD K x y H Q' := fun h1 h2 => by
    obtain ⟨p, p1, p2⟩ := dok_shaped h1
    obtain ⟨r, r1, r2⟩ := dok_shaped h2
    exact ⟨p, r, view_dp M rx p1, view_dp M ry r1, p2, r2, k _ _ μ as F H Gr.refl M (.bl _) (by rw [toP_eqv p1 r1]; exact q)⟩
  unfold dEqOk at ok
  rw [Bool.or_eq_true, Bool.and_eq_true, Bool.and_eq_true] at ok
  rcases ok with ⟨h1, h2⟩ | ⟨h1, h2⟩
  · have e1 := view_flat h1
    have e2 := view_flat h2
    rw [e1, e2] at q
    rw [e1] at h1 data
    rw [e2] at h2 data
    rcases flat_cases rx ry h1 h2 with ⟨s1, s2⟩ | ⟨s1, s2⟩
    · exact .inl ⟨s1, k _ _ μ as F H Gr.refl M (.bl _) (by rw [s2]; exact q)⟩
    · exact .inr (data s1 s2)
  · exact .inr (data h1 h2)
theorem sim_ne : SimR K (rOr rNe (rNeD K)) dNe := fun Z as F H μ x y d e Q Q' M rx ry z k => by
  obtain ⟨ok, q⟩ := z
  have data : dok (view μ d) = true → dok (view μ e) = true → rNeD K x y H Q' := fun h1 h2 => by
    obtain ⟨p, p1, p2⟩ := dok_shaped h1
    obtain ⟨r, r1, r2⟩ := dok_shaped h2
    exact ⟨p, r, view_dp M rx p1, view_dp M ry r1, p2, r2, k _ _ μ as F H Gr.refl M (.bl _) (by rw [toP_eqv p1 r1]; exact q)⟩
  unfold dEqOk at ok
  rw [Bool.or_eq_true, Bool.and_eq_true, Bool.and_eq_true] at ok
  rcases ok with ⟨h1, h2⟩ | ⟨h1, h2⟩
  · have e1 := view_flat h1
    have e2 := view_flat h2
    rw [e1, e2] at q
    rw [e1] at h1 data
    rw [e2] at h2 data
    rcases flat_cases rx ry h1 h2 with ⟨s1, s2⟩ | ⟨s1, s2⟩
    · exact .inl ⟨s1, k _ _ μ as F H Gr.refl M (.bl _) (by rw [s2]; exact q)⟩
    · exact .inr (data s1 s2)
  · exact .inr (data h1 h2)
theorem op_eqA {X : Cx} (hu : X.A.units + 64 < cLine) (hK : X.K = K) : OpR X (compareOp .Eq) (rOr rEq (rEqD K)) := hK ▸ opr_or op_eq (op_eqD hu)
theorem op_neA {X : Cx} (hu : X.A.units + 64 < cLine) (hK : X.K = K) : OpR X (compareOp .NotEq) (rOr rNe (rNeD K)) := hK ▸ opr_or op_ne (op_neD hu)
end
end DX
set_option Elab.async false
set_option linter.all false
set_option maxRecDepth 100000
set_option maxHeartbeats 4000000
namespace DX
open PySem PySem.Spec PyProof.Rows L2
section
variable {K : PySem.W.Frag} {Z : Hp} {as as' as1 : List Addr} {F F' F1 H H' H1 : Hp} {Ex : L2.St → XK}
/-! ### arithmetic -/
theorem rI_int (f : Int → Int → Int) : ∀ i j as F, Rep K as F (V.int (f i j)) (D.int (f i j)) := fun _ _ _ _ => .int _
theorem rI_bl (f : Int → Int → Bool) : ∀ i j as F, Rep K as F (V.bl (f i j)) (D.bl (f i j)) := fun _ _ _ _ => .bl _
theorem sim_sub : SimR K (rI0 fun i j => .int (i - j)) (dI fun i j => .int (i - j)) := simR_int (rI_int _)
theorem sim_mul : SimR K (rI CMul fun i j => .int (i * j)) (dIC CMul fun i j => .int (i * j)) := simR_intC (rI_int _)
theorem sim_fdiv : SimR K (rI CDiv fun i j => .int (i / j)) (dIC CDiv fun i j => .int (i / j)) := simR_intC (rI_int _)
theorem sim_fdivW : SimR K (rI CDivW fun i j => .int (i / j)) (dIC CDivW fun i j => .int (i / j)) := simR_intC (rI_int _)
theorem sim_mulW : SimR K (rI CMulW fun i j => .int (i * j)) (dIC CMulW fun i j => .int (i * j)) := simR_intC (rI_int _)
theorem sim_mod : SimR K (rI (fun _ j => 0 < j) fun i j => .int (i % j)) (dIC (fun _ j => 0 < j) fun i j => .int (i % j)) := simR_intC (rI_int _)
theorem sim_pow : SimR K (rI CPow fun i j => .int (i ^ j.toNat)) (dIC CPow fun i j => .int (i ^ j.toNat)) := simR_intC (rI_int _)
theorem sim_shl : SimR K (rI CPow fun i j => .int (i * 2 ^ j.toNat)) (dIC CPow fun i j => .int (i * 2 ^ j.toNat)) := simR_intC (rI_int _)
theorem sim_shr : SimR K (rI (fun _ j => 0 ≤ j) fun i j => .int (i / 2 ^ j.toNat)) (dIC (fun _ j => 0 ≤ j) fun i j => .int (i / 2 ^ j.toNat)) := simR_intC (rI_int _)
theorem sim_band : SimR K (rI0 fun i j => .int (Builtin.bitAnd i j)) (dI fun i j => .int (Builtin.bitAnd i j)) := simR_int (rI_int _)
theorem sim_bor : SimR K (rI0 fun i j => .int (Builtin.bitOr i j)) (dI fun i j => .int (Builtin.bitOr i j)) := simR_int (rI_int _)
theorem sim_lt : SimR K (rI0 fun i j => .bl (decide (i < j))) (dI fun i j => .bl (decide (i < j))) := simR_int (rI_bl _)
theorem sim_le : SimR K (rI0 fun i j => .bl (decide (i ≤ j))) (dI fun i j => .bl (decide (i ≤ j))) := simR_int (rI_bl _)
theorem sim_gt : SimR K (rI0 fun i j => .bl (decide (j < i))) (dI fun i j => .bl (decide (j < i))) := simR_int (rI_bl _)
theorem sim_ge : SimR K (rI0 fun i j => .bl (decide (j ≤ i))) (dI fun i j => .bl (decide (j ≤ i))) := simR_int (rI_bl _)
/-! ### + -/
def rAddStr : R2 := fun x y H Q => ∃ i j, x = .str i ∧ y = .str j ∧ i.length + j.length ≤ sizeLine ∧ Q (.str (i ++ j)) H
def dAdd : DR2 := fun x y μ Q => match viewT μ x, viewT μ y with
  | .int i, .int j => Q (.int (i + j)) μ
  | .str i, .str j => i.length + j.length ≤ sizeLine ∧ Q (.str (i ++ j)) μ
  | .lst xs, .lst ys => xs.length + ys.length ≤ sizeLine ∧ Q (.lst (xs ++ ys)) μ
  | .tup xs, .tup ys => xs.length + ys.length ≤ sizeLine ∧ Q (.tup (xs ++ ys)) μ
  | _, _ => False
theorem viewT_cases (μ : Mem) (d : D) : (∃ ds, viewT μ d = .lst ds) ∨ (∃ C fs, viewT μ d = .ins C fs) ∨ viewT μ d = d := by
  cases d with
  | ob k =>
    show (∃ ds, (match μ[k]? with | some (M.lst ds) => D.lst ds | some (.ins C fs) => .ins C fs | _ => .ob k) = _) ∨ (∃ C fs, (match μ[k]? with | some (M.lst ds) => D.lst ds | some (.ins C fs) => .ins C fs | _ => .ob k) = _) ∨ (match μ[k]? with | some (M.lst ds) => D.lst ds | some (.ins C fs) => .ins C fs | _ => .ob k) = _
    cases μ[k]? with
    | none => exact .inr (.inr rfl)
    | some m => cases m with
      | lst ds => exact .inl ⟨ds, rfl⟩
      | ins C fs => exact .inr (.inl ⟨C, fs, rfl⟩)
      | dic kv => exact .inr (.inr rfl)
  | _ => exact .inr (.inr rfl)
theorem viewT_int {μ : Mem} {d : D} {i : Int} (h : viewT μ d = .int i) : d = .int i := by
  rcases viewT_cases μ d with ⟨ds, z⟩ | ⟨C, fs, z⟩ | z <;> rw [z] at h
  · cases h
  · cases h
  · exact h
theorem viewT_str {μ : Mem} {d : D} {i : Str} (h : viewT μ d = .str i) : d = .str i := by
  rcases viewT_cases μ d with ⟨ds, z⟩ | ⟨C, fs, z⟩ | z <;> rw [z] at h
  · cases h
  · cases h
  · exact h
theorem viewT_tup {μ : Mem} {d : D} {i : List D} (h : viewT μ d = .tup i) : d = .tup i := by
  rcases viewT_cases μ d with ⟨ds, z⟩ | ⟨C, fs, z⟩ | z <;> rw [z] at h
  · cases h
  · cases h
  · exact h
def rAddAll (K : PySem.W.Frag) : R2 := rOr (rI0 fun i j => .int (i + j)) (rOr rAddStr (rOr rCat (rCatA K)))
theorem op_addA {X : Cx} (hK : X.K = K) : OpR X (binaryOp .Add) (rAddAll K) := hK ▸ opr_or op_add (opr_or op_add_str (opr_or op_cat op_catA))
theorem sim_add : SimR K (rAddAll K) dAdd := fun Z as F H μ x y d e Q Q' M rx ry z k => by
  unfold dAdd at z
  split at z
  · rename_i i j h1 h2
    cases viewT_int h1; cases viewT_int h2
    cases rx; cases ry
    exact .inl ⟨_, _, rfl, rfl, k _ _ μ as F H Gr.refl M (.int _) z⟩
  · rename_i i j h1 h2
    cases viewT_str h1; cases viewT_str h2
    cases rx; cases ry
    exact .inr (.inl ⟨_, _, rfl, rfl, z.1, k _ _ μ as F H Gr.refl M (.str _) z.2⟩)
  · rename_i xs ys h1 h2
    obtain ⟨a, vs, rfl, e1, r1⟩ := viewT_lst M rx h1
    obtain ⟨b, us, rfl, e2, r2⟩ := viewT_lst M ry h2
    refine .inr (.inr (.inl ⟨a, b, vs, us, rfl, rfl, e1, e2, by rw [r1.len, r2.len]; exact z.1, fun p np => ?_⟩))
    have g := Gr.upd (as := as) (o := .lst (vs ++ us)) (M.newF np)
    exact k _ _ μ as _ _ g (M.addF np) (.lst upd_same ((r1.append r2).up g)) z.2
  · rename_i xs ys h1 h2
    cases viewT_tup h1; cases viewT_tup h2
    cases rx with
    | tup e1 r1 =>
      cases ry with
      | tup e2 r2 =>
        rename_i a vs b us
        have same : ∀ {c : Addr} {ws : List V} {ds : List D}, F c = some (.tup ws) → RepL K as F ws ds → ds = xs ++ ys → Q' (.ref c) H := fun e r q => k _ _ μ as F H Gr.refl M (.tup e r) (by rw [q]; exact z.2)
        refine .inr (.inr (.inr ⟨a, b, vs, us, rfl, rfl, SqT.of (M.same _ _ e1), SqT.of (M.same _ _ e2), by rw [r1.len, r2.len]; exact z.1, fun z0 => ?_, fun _ z0 => ?_, fun _ _ p np => ?_⟩))
        · subst z0
          cases r1
          exact same e2 r2 rfl
        · subst z0
          cases r2
          exact same e1 r1 (List.append_nil _).symm
        · have g := Gr.upd (as := as) (o := .tup (vs ++ us)) (M.newF np)
          exact k _ _ μ as _ _ g (M.addF np) (.tup upd_same ((r1.append r2).up g)) z.2
  · exact z.elim
/-! ### unary -/
def uUn (f : Int → D) (ua : DTE) : DTE := fun ρ μ Q E => ua ρ μ (fun x μ1 => match x with
  | .int i => Q (f i) μ1
  | _ => False) E
theorem sim_un {f : Int → Int} {t : TE} {u : DTE} (a : Sim K Ex t u) : Sim K Ex (tUn (rU fun i => .int (f i)) t) (uUn (fun i => .int (f i)) u) := fun Z as F H σ ρ μ Q E Q' R X h k =>
  a Z as F H σ ρ μ _ E _ R X h fun v d μ1 as1 F1 H1 g1 R1 r1 h1 => by
    cases r1 <;> try exact h1.elim
    exact ⟨_, rfl, k _ _ _ _ _ _ g1 R1 (.int _) h1⟩
/-! ### is None -/
def isNon : D → Bool
  | .non => true
  | .val v => decide (v = .non)
  | _ => false
theorem isNon_eq {v : V} {d : D} (r : Rep K as F v d) : decide (v = .non) = isNon d := by cases r <;> rfl
def uIsN (neg : Bool) (ua : DTE) : DTE := fun ρ μ Q E => ua ρ μ (fun x μ1 => Q (.bl (if neg then !isNon x else isNon x)) μ1) E
theorem sim_isN {t : TE} {u : DTE} (a : Sim K Ex t u) : Sim K Ex (tOp (fun x y H Q => y = .non ∧ Q (.bl (decide (x = .non))) H) t (tC .non)) (uIsN false u) := fun Z as F H σ ρ μ Q E Q' R X h k =>
  a Z as F H σ ρ μ _ E _ R X h fun v d μ1 as1 F1 H1 g1 R1 r1 h1 => ⟨rfl, by rw [isNon_eq r1]; exact k _ _ _ _ _ _ g1 R1 (.bl _) h1⟩
theorem sim_notN {t : TE} {u : DTE} (a : Sim K Ex t u) : Sim K Ex (tOp (fun x y H Q => y = .non ∧ Q (.bl (!decide (x = .non))) H) t (tC .non)) (uIsN true u) := fun Z as F H σ ρ μ Q E Q' R X h k =>
  a Z as F H σ ρ μ _ E _ R X h fun v d μ1 as1 F1 H1 g1 R1 r1 h1 => ⟨rfl, by rw [isNon_eq r1]; exact k _ _ _ _ _ _ g1 R1 (.bl _) h1⟩
/-! ### truth -/
def dTru (μ : Mem) (d : D) (k : Bool → Prop) : Prop := match view μ d with
  | .non => k false
  | .bl b => k b
  | .int i => k (i != 0)
  | .str x => x.length ≤ sizeLine ∧ k ((x.length : Int) != 0)
  | .lst xs => k (!xs.isEmpty)
  | .tup xs => k (!xs.isEmpty)
  | _ => False
theorem isEmpty_rep {vs : List V} {ds : List D} (r : RepL K as F vs ds) : vs.isEmpty = ds.isEmpty := by cases r <;> rfl
theorem view_non {μ : Mem} {d : D} {e : D} (h : view μ d = e) (h1 : ∀ ds, e ≠ .lst ds) (h2 : ∀ ds, e ≠ .tup ds) (h3 : ∀ C fs, e ≠ .ins C fs) : d = e := by
  rcases view_cases μ d with ⟨ds, z⟩ | ⟨ds, z⟩ | ⟨C, fs, z⟩ | z <;> rw [z] at h
  · exact absurd h.symm (h1 _)
  · exact absurd h.symm (h2 _)
  · exact absurd h.symm (h3 _ _)
  · exact h
theorem tru_of {μ : Mem} (M : Mm K Z as F H μ) {v : V} {d : D} (r : Rep K as F v d) {k : Bool → Prop} (h : dTru μ d k) : ∃ b, TruV K v H b ∧ k b := by
  unfold dTru at h
  split at h
  · rename_i e; cases view_non e (by intro _ z; cases z) (by intro _ z; cases z) (by intro _ _ z; cases z); cases r; exact ⟨_, rfl, h⟩
  · rename_i e; cases view_non e (by intro _ z; cases z) (by intro _ z; cases z) (by intro _ _ z; cases z); cases r; exact ⟨_, rfl, h⟩
  · rename_i e; cases view_non e (by intro _ z; cases z) (by intro _ z; cases z) (by intro _ _ z; cases z); cases r; exact ⟨_, rfl, h⟩
  · rename_i e; cases view_non e (by intro _ z; cases z) (by intro _ z; cases z) (by intro _ _ z; cases z); cases r; exact ⟨_, ⟨h.1, rfl⟩, h.2⟩
  · rename_i e
    obtain ⟨a, vs, rfl, q, x⟩ := view_lst M r e
    exact ⟨_, .inl ⟨vs, q, rfl⟩, by rw [isEmpty_rep x]; exact h⟩
  · rename_i e
    obtain ⟨a, vs, rfl, q, x⟩ := view_tup M r e
    exact ⟨_, .inr (.inl ⟨vs, q, rfl⟩), by rw [isEmpty_rep x]; exact h⟩
  · exact h.elim
def uTru (u : DTE) : DTT := fun ρ μ Q E => u ρ μ (fun d μ' => dTru μ' d fun b => Q b μ') E
theorem sim_tru {t : TE} {u : DTE} (a : Sim K Ex t u) : SimT K Ex (fun σ H Q => t σ H fun x H' => ∃ k, TruV K x H' k ∧ Q k H') (uTru u) := fun Z as F H σ ρ μ Q E Q' R X h k =>
  a Z as F H σ ρ μ _ E _ R X h fun v d μ1 as1 F1 H1 g1 R1 r1 h1 => by
    obtain ⟨b, h2, h3⟩ := tru_of R1.mm r1 h1
    exact ⟨b, h2, k b μ1 as1 F1 H1 g1 R1 h3⟩
def uTest (u : DTE) : DTT := fun ρ μ Q E => u ρ μ (fun d μ' => match d with
  | .bl b => Q b μ'
  | _ => False) E
theorem sim_test {t : TE} {u : DTE} (a : Sim K Ex t u) : SimT K Ex (tTest t) (uTest u) := fun Z as F H σ ρ μ Q E Q' R X h k =>
  a Z as F H σ ρ μ _ E _ R X h fun v d μ1 as1 F1 H1 g1 R1 r1 h1 => by
    cases r1 <;> try exact h1.elim
    exact ⟨_, rfl, k _ μ1 as1 F1 H1 g1 R1 h1⟩
/-! ### and, or, not -/
def uAndB (a b : DTT) : DTT := fun ρ μ Q E => a ρ μ (fun c μ1 => if c = true then b ρ μ1 Q E else Q false μ1) E
def uOrB (a b : DTT) : DTT := fun ρ μ Q E => a ρ μ (fun c μ1 => if c = true then Q true μ1 else b ρ μ1 Q E) E
def uNotB (a : DTT) : DTT := fun ρ μ Q E => a ρ μ (fun c μ1 => Q (!c) μ1) E
theorem sim_andB {t s : TT} {u w : DTT} (a : SimT K Ex t u) (b : SimT K Ex s w) : SimT K Ex (tAnd t s) (uAndB u w) := fun Z as F H σ ρ μ Q E Q' R X h k =>
  a Z as F H σ ρ μ _ E _ R X h fun c μ1 as1 F1 H1 g1 R1 h1 => by
    cases c with
    | true => rw [if_pos rfl] at h1 ⊢; exact b Z as1 F1 H1 σ ρ μ1 Q E Q' R1 (X.up g1) h1 fun c μ2 as2 F2 H2 g2 => k c μ2 as2 F2 H2 (g1.trans g2)
    | false => rw [if_neg Bool.false_ne_true] at h1 ⊢; exact k false μ1 as1 F1 H1 g1 R1 h1
theorem sim_orB {t s : TT} {u w : DTT} (a : SimT K Ex t u) (b : SimT K Ex s w) : SimT K Ex (tOr t s) (uOrB u w) := fun Z as F H σ ρ μ Q E Q' R X h k =>
  a Z as F H σ ρ μ _ E _ R X h fun c μ1 as1 F1 H1 g1 R1 h1 => by
    cases c with
    | false => rw [if_neg Bool.false_ne_true] at h1 ⊢; exact b Z as1 F1 H1 σ ρ μ1 Q E Q' R1 (X.up g1) h1 fun c μ2 as2 F2 H2 g2 => k c μ2 as2 F2 H2 (g1.trans g2)
    | true => rw [if_pos rfl] at h1 ⊢; exact k true μ1 as1 F1 H1 g1 R1 h1
theorem sim_notB {t : TT} {u : DTT} (a : SimT K Ex t u) : SimT K Ex (tNot t) (uNotB u) := fun Z as F H σ ρ μ Q E Q' R X h k =>
  a Z as F H σ ρ μ _ E _ R X h fun c μ1 as1 F1 H1 g1 R1 h1 => k _ μ1 as1 F1 H1 g1 R1 h1
def uAnd (a b : DTE) : DTE := fun ρ μ Q E => a ρ μ (fun x μ1 => dTru μ1 x fun c => if c = true then b ρ μ1 Q E else Q x μ1) E
def uOr (a b : DTE) : DTE := fun ρ μ Q E => a ρ μ (fun x μ1 => dTru μ1 x fun c => if c = true then Q x μ1 else b ρ μ1 Q E) E
def uNot (a : DTE) : DTE := fun ρ μ Q E => a ρ μ (fun x μ1 => dTru μ1 x fun c => Q (.bl (!c)) μ1) E
theorem sim_and {t s : TE} {u w : DTE} (a : Sim K Ex t u) (b : Sim K Ex s w) : Sim K Ex (tAndT K t s) (uAnd u w) := fun Z as F H σ ρ μ Q E Q' R X h k =>
  a Z as F H σ ρ μ _ E _ R X h fun v d μ1 as1 F1 H1 g1 R1 r1 h1 => by
    obtain ⟨c, h2, h3⟩ := tru_of R1.mm r1 h1
    refine ⟨c, h2, ?_⟩
    cases c with
    | true => rw [if_pos rfl] at h3 ⊢; exact b Z as1 F1 H1 σ ρ μ1 Q E Q' R1 (X.up g1) h3 fun c d' μ2 as2 F2 H2 g2 => k c d' μ2 as2 F2 H2 (g1.trans g2)
    | false => rw [if_neg Bool.false_ne_true] at h3 ⊢; exact k v d μ1 as1 F1 H1 g1 R1 r1 h3
theorem sim_or {t s : TE} {u w : DTE} (a : Sim K Ex t u) (b : Sim K Ex s w) : Sim K Ex (tOrT K t s) (uOr u w) := fun Z as F H σ ρ μ Q E Q' R X h k =>
  a Z as F H σ ρ μ _ E _ R X h fun v d μ1 as1 F1 H1 g1 R1 r1 h1 => by
    obtain ⟨c, h2, h3⟩ := tru_of R1.mm r1 h1
    refine ⟨c, h2, ?_⟩
    cases c with
    | false => rw [if_neg Bool.false_ne_true] at h3 ⊢; exact b Z as1 F1 H1 σ ρ μ1 Q E Q' R1 (X.up g1) h3 fun c d' μ2 as2 F2 H2 g2 => k c d' μ2 as2 F2 H2 (g1.trans g2)
    | true => rw [if_pos rfl] at h3 ⊢; exact k v d μ1 as1 F1 H1 g1 R1 r1 h3
theorem sim_not {t : TE} {u : DTE} (a : Sim K Ex t u) : Sim K Ex (tNotT K t) (uNot u) := fun Z as F H σ ρ μ Q E Q' R X h k =>
  a Z as F H σ ρ μ _ E _ R X h fun v d μ1 as1 F1 H1 g1 R1 r1 h1 => by
    obtain ⟨c, h2, h3⟩ := tru_of R1.mm r1 h1
    exact ⟨c, h2, k _ _ μ1 as1 F1 H1 g1 R1 (.bl _) h3⟩
def uIf (c : DTT) (a b : DTE) : DTE := fun ρ μ Q E => c ρ μ (fun c μ1 => if c = true then a ρ μ1 Q E else b ρ μ1 Q E) E
theorem sim_if {tc : TT} {uc : DTT} {t s : TE} {u w : DTE} (c : SimT K Ex tc uc) (a : Sim K Ex t u) (b : Sim K Ex s w) : Sim K Ex (tIf tc t s) (uIf uc u w) := fun Z as F H σ ρ μ Q E Q' R X h k =>
  c Z as F H σ ρ μ _ E _ R X h fun c μ1 as1 F1 H1 g1 R1 h1 => by
    cases c with
    | true => rw [if_pos rfl] at h1 ⊢; exact a Z as1 F1 H1 σ ρ μ1 Q E Q' R1 (X.up g1) h1 fun c d' μ2 as2 F2 H2 g2 => k c d' μ2 as2 F2 H2 (g1.trans g2)
    | false => rw [if_neg Bool.false_ne_true] at h1 ⊢; exact b Z as1 F1 H1 σ ρ μ1 Q E Q' R1 (X.up g1) h1 fun c d' μ2 as2 F2 H2 g2 => k c d' μ2 as2 F2 H2 (g1.trans g2)
/-- a chain of two comparisons -/
def uChain (dr dr' : DR2) (ua ub uc : DTE) : DTE := fun ρ μ Q E => ua ρ μ (fun x μ1 => ub ρ μ1 (fun y μ2 => dr x y μ2 fun z μ3 => match z with
  | .bl c => if c = true then uc ρ μ3 (fun w μ4 => dr' y w μ4 Q) E else Q (.bl false) μ3
  | _ => False) E) E
theorem sim_chain {r r' : R2} {dr dr' : DR2} {ta tb tc : TE} {ua ub uc : DTE} (s : SimR K r dr) (s' : SimR K r' dr') (a : Sim K Ex ta ua) (b : Sim K Ex tb ub) (c : Sim K Ex tc uc) : Sim K Ex (tChain r r' ta tb tc) (uChain dr dr' ua ub uc) := fun Z as F H σ ρ μ Q E Q' R X h k =>
  a Z as F H σ ρ μ _ E _ R X h fun v d μ1 as1 F1 H1 g1 R1 r1 h1 => b Z as1 F1 H1 σ ρ μ1 _ E _ R1 (X.up g1) h1 fun v2 d2 μ2 as2 F2 H2 g2 R2 r2 h2 =>
    s Z as2 F2 H2 μ2 v v2 d d2 _ _ R2.mm (r1.up g2) r2 h2 fun v3 d3 μ3 as3 F3 H3 g3 M3 r3 q => by
      cases r3 <;> try exact q.elim
      rename_i kb
      refine ⟨kb, rfl, ?_⟩
      have g123 := (g1.trans g2).trans g3
      have R3 := R2.up g3 M3
      cases kb with
      | true =>
        have q : (if true = true then uc ρ μ3 (fun w μ4 => dr' d2 w μ4 Q) E else Q (.bl false) μ3) := q
        rw [if_pos rfl] at q ⊢
        exact c Z as3 F3 H3 σ ρ μ3 _ E _ R3 (X.up g123) q fun v4 d4 μ4 as4 F4 H4 g4 R4 r4 q4 =>
          s' Z as4 F4 H4 μ4 v2 v4 d2 d4 Q Q' R4.mm ((r2.up g3).up g4) r4 q4 fun v5 d5 μ5 as5 F5 H5 g5 M5 r5 q5 => k v5 d5 μ5 as5 F5 H5 ((g123.trans g4).trans g5) (R4.up g5 M5) r5 q5
      | false =>
        have q : (if false = true then uc ρ μ3 (fun w μ4 => dr' d2 w μ4 Q) E else Q (.bl false) μ3) := q
        rw [if_neg Bool.false_ne_true] at q ⊢
        exact k _ _ μ3 as3 F3 H3 g123 R3 (.bl false) q
end
end DX
set_option Elab.async false
set_option linter.all false
set_option maxRecDepth 100000
set_option maxHeartbeats 4000000
namespace DX
open PySem PySem.Spec PyProof.Rows L2
section
variable {K : PySem.W.Frag} {Z : Hp} {as as' as1 : List Addr} {F F' F1 H H' H1 : Hp} {Ex : L2.St → XK}
/-! ### subscripts -/
theorem atI_rep {vs : List V} {ds : List D} {i : Int} {d : D} (r : RepL K as F vs ds) (h : atI ds i = some d) : ∃ v, atI vs i = some v ∧ Rep K as F v d := by
  unfold atI at h ⊢
  rw [r.len]
  cases e : ixN ds.length i with
  | none => rw [e] at h; cases h
  | some j => rw [e] at h; exact r.get h
def dIx : DR2 := fun x y μ Q => match view μ x, y with
  | .lst xs, .int i => match atI xs i with
    | some d => Q d μ
    | none => False
  | .tup xs, .int i => match atI xs i with
    | some d => Q d μ
    | none => False
  | .str z, .int i => match atI z.cps.toList i with
    | some c => z.length ≤ sizeLine ∧ Q (.str ⟨#[c]⟩) μ
    | none => False
  | _, _ => False
theorem ix_A {X : Cx} (hK : X.K = K) : IxR X (rIx K) := hK ▸ ix_seq
theorem view_str {μ : Mem} {d : D} {z : Str} (h : view μ d = .str z) : d = .str z := view_non h (by intro _ z; cases z) (by intro _ z; cases z) (by intro _ _ z; cases z)
theorem view_int {μ : Mem} {d : D} {z : Int} (h : view μ d = .int z) : d = .int z := view_non h (by intro _ z; cases z) (by intro _ z; cases z) (by intro _ _ z; cases z)
theorem sim_ix : SimR K (rIx K) dIx := fun Z as F H μ x y d e Q Q' M rx ry z k => by
  unfold dIx at z
  split at z
  · rename_i xs i h1
    cases ry
    obtain ⟨a, vs, rfl, q, r⟩ := view_lst M rx h1
    split at z
    · rename_i d' h2
      obtain ⟨v, h3, h4⟩ := atI_rep r h2
      exact .inl ⟨a, vs, _, v, rfl, rfl, q, h3, k v d' μ as F H Gr.refl M h4 z⟩
    · exact z.elim
  · rename_i xs i h1
    cases ry
    obtain ⟨a, vs, rfl, q, r⟩ := view_tup M rx h1
    split at z
    · rename_i d' h2
      obtain ⟨v, h3, h4⟩ := atI_rep r h2
      exact .inr (.inl ⟨a, vs, _, v, rfl, rfl, q, h3, k v d' μ as F H Gr.refl M h4 z⟩)
    · exact z.elim
  · rename_i w i h1
    cases ry
    cases view_str h1
    cases rx
    split at z
    · rename_i c h2
      exact .inr (.inr ⟨_, _, c, rfl, rfl, z.1, h2, k _ _ μ as F H Gr.refl M (.str _) z.2⟩)
    · exact z.elim
  · exact z.elim
/-! ### slices -/
def dcut (xs : List D) (lo hi : Option Int) : List D := (xs.drop (HT.sIx xs.length 0 lo)).take (HT.sIx xs.length xs.length hi - HT.sIx xs.length 0 lo)
theorem cut_rep {vs : List V} {ds : List D} (r : RepL K as F vs ds) (lo hi : Option Int) : RepL K as F (cutV vs lo hi) (dcut ds lo hi) := by
  unfold cutV dcut
  rw [r.len]
  exact (r.drop _).take _
abbrev DTO := Rho → Mem → (Option Int → Mem → Prop) → XD → Prop
def SimO (K : PySem.W.Frag) (Ex : L2.St → XK) (t : TO) (u : DTO) : Prop :=
  ∀ (Z : Hp) (as : List Addr) (F H : Hp) (σ : L2.St) (ρ : Rho) (μ : Mem) (Q : Option Int → Mem → Prop) (E : XD) (Q' : Option Int → Hp → Prop), Rp K Z as F H σ ρ μ → XL K Ex Z as F E → u ρ μ Q E →
    (∀ b μ' as' F' H', Gr as F as' F' → Rp K Z as' F' H' σ ρ μ' → Q b μ' → Q' b H') → t σ H Q'
def uNoPart : DTO := fun _ μ Q _ => Q none μ
def uPart (u : DTE) : DTO := fun ρ μ Q E => u ρ μ (fun d μ1 => match d with
  | .int i => Q (some i) μ1
  | _ => False) E
theorem sim_noPart : SimO K Ex tNoPart uNoPart := fun Z as F H σ ρ μ Q E Q' R X h k => k none μ as F H Gr.refl R h
theorem sim_part {t : TE} {u : DTE} (a : Sim K Ex t u) : SimO K Ex (tPart t) (uPart u) := fun Z as F H σ ρ μ Q E Q' R X h k =>
  a Z as F H σ ρ μ _ E _ R X h fun v d μ1 as1 F1 H1 g1 R1 r1 h1 => by
    cases r1 <;> try exact h1.elim
    exact ⟨_, rfl, k _ μ1 as1 F1 H1 g1 R1 h1⟩
/-- frozen (m = false) or a new list of the memory -/
def uSl (m : Bool) (ue : DTE) (ul uh : DTO) : DTE := fun ρ μ Q E => ue ρ μ (fun x μ1 => ul ρ μ1 (fun lo μ2 => uh ρ μ2 (fun hi μ3 => match view μ3 x with
  | .lst xs => if m = true then Q (.ob μ3.length) (μ3 ++ [.lst (dcut xs lo hi)]) else Q (.lst (dcut xs lo hi)) μ3
  | .tup xs => Q (.tup (dcut xs lo hi)) μ3 ∧ ∃ ys, x = .tup ys
  | .str z => z.length ≤ sizeLine ∧ Q (.str (cutS z lo hi)) μ3
  | _ => False) E) E) E
def rSlAll (K : PySem.W.Frag) : V → Option Int → Option Int → Hp → VK → Prop := fun x lo hi H Q => rSlL K x lo hi H Q ∨ (rSlA K x lo hi H Q ∨ rSlS x lo hi H Q)
theorem sl_A {X : Cx} (hK : X.K = K) : SlR X (rSlAll K) := hK ▸ sl_list.or (sl_tupA.or sl_str)
theorem cut_whole {xs : List D} {lo hi : Option Int} (h : HT.sIx xs.length 0 lo = 0 ∧ HT.sIx xs.length xs.length hi = xs.length) : dcut xs lo hi = xs := by
  unfold dcut
  rw [h.1, h.2]
  simp
theorem sim_sl (m : Bool) {te : TE} {tl th : TO} {ue : DTE} {ul uh : DTO} (a : Sim K Ex te ue) (b : SimO K Ex tl ul) (c : SimO K Ex th uh) : Sim K Ex (tSl (rSlAll K) te tl th) (uSl m ue ul uh) := fun Z as F H σ ρ μ Q E Q' R X h k =>
  a Z as F H σ ρ μ _ E _ R X h fun v d μ1 as1 F1 H1 g1 R1 r1 h1 => b Z as1 F1 H1 σ ρ μ1 _ E _ R1 (X.up g1) h1 fun lo μ2 as2 F2 H2 g2 R2 h2 =>
    c Z as2 F2 H2 σ ρ μ2 _ E _ R2 (X.up (g1.trans g2)) h2 fun hi μ3 as3 F3 H3 g3 R3 h3 => by
      have g := (g1.trans g2).trans g3
      have r3 := (r1.up g2).up g3
      have h3 : (match view μ3 d with
        | .lst xs => if m = true then Q (.ob μ3.length) (μ3 ++ [.lst (dcut xs lo hi)]) else Q (.lst (dcut xs lo hi)) μ3
        | .tup xs => Q (.tup (dcut xs lo hi)) μ3 ∧ ∃ ys, d = .tup ys
        | .str z => z.length ≤ sizeLine ∧ Q (.str (cutS z lo hi)) μ3
        | _ => False) := h3
      split at h3
      · rename_i xs e
        obtain ⟨p, vs, rfl, q, r⟩ := view_lst R3.mm r3 e
        refine .inl ⟨p, vs, rfl, q, fun n nn => ?_⟩
        cases m with
        | true =>
          rw [if_pos rfl] at h3
          exact k _ _ _ (as3 ++ [n]) F3 _ (g.trans Gr.add) (R3.up Gr.add (R3.mm.addM (m := .lst _) nn ⟨_, upd_same, (cut_rep r lo hi).up Gr.add⟩)) (rep_ob R3.mm.len) h3
        | false =>
          rw [if_neg Bool.false_ne_true] at h3
          have g4 := Gr.upd (as := as3) (o := .lst (cutV vs lo hi)) (R3.mm.newF nn)
          exact k _ _ μ3 as3 _ _ (g.trans g4) (R3.up g4 (R3.mm.addF nn)) (.lst upd_same ((cut_rep r lo hi).up g4)) h3
      · rename_i xs e
        obtain ⟨h4, ys, rfl⟩ := h3
        cases e
        cases r3 with
        | tup e1 r =>
          rename_i p vs
          refine .inr (.inl ⟨p, vs, rfl, SqT.of (R3.mm.same _ _ e1), fun w => ?_, fun _ n nn => ?_⟩)
          · rw [r.len] at w
            exact k _ _ μ3 as3 F3 H3 g R3 (.tup e1 r) (by rw [← cut_whole w]; exact h4)
          · have g4 := Gr.upd (as := as3) (o := .tup (cutV vs lo hi)) (R3.mm.newF nn)
            exact k _ _ μ3 as3 _ _ (g.trans g4) (R3.up g4 (R3.mm.addF nn)) (.tup upd_same ((cut_rep r lo hi).up g4)) h4
      · rename_i z e
        cases view_str e
        cases r3
        exact .inr (.inr ⟨_, rfl, h3.1, k _ _ μ3 as3 F3 H3 g R3 (.str _) h3.2⟩)
      · exact h3.elim
/-! ### in -/
def dInOk (x c : D) (ds : List D) : Bool := (dflat x && ds.all dflat) || (dok x && dok c)
def dIn (neg : Bool) : DR2 := fun x y μ Q => match view μ y with
  | .lst ds => dInOk (view μ x) (.lst ds) ds = true ∧ Q (.bl (if neg then !(ds.any fun e => deqv e (view μ x)) else ds.any fun e => deqv e (view μ x))) μ
  | .tup ds => dInOk (view μ x) (.tup ds) ds = true ∧ Q (.bl (if neg then !(ds.any fun e => deqv e (view μ x)) else ds.any fun e => deqv e (view μ x))) μ
  | _ => False
def rInD (K : PySem.W.Frag) (neg : Bool) : R2 := fun x y H Q => ∃ d ds, Dp K H x d ∧ (Dp K H y (.list ds) ∨ Dp K H y (.tuple ds)) ∧ d.canLay0 = true ∧ PyData.canLayAll0 ds = true ∧ d.depth ≤ 60 ∧ Q (.bl (if neg then !(ds.any fun e => PyData.eqv e d) else ds.any fun e => PyData.eqv e d)) H
theorem op_inD {X : Cx} (hu : X.A.units + 64 < cLine) : OpR X (compareOp .In) (rInD X.K false) := by
  intro pins s σ H x y v u Q I rx ry h
  obtain ⟨d, ds, hd, he, c1, c2, hz, q⟩ := h
  obtain ⟨as, r1⟩ := Dp.reads I d x v hd rx
  have hm : min (PyData.depthAll ds) d.depth ≤ d.depth := Nat.min_le_right _ _
  rcases he with he | he
  · obtain ⟨bs, r2⟩ := Dp.reads I _ y u he ry
    exact SeqAt.in_list_reads r2 r1 c2 c1 (by omega) ⟨.bl _, H, I, rfl, q⟩
  · obtain ⟨bs, r2⟩ := Dp.reads I _ y u he ry
    exact SeqAt.in_tuple_reads r2 r1 c2 c1 (by omega) ⟨.bl _, H, I, rfl, q⟩
theorem op_notInD {X : Cx} (hu : X.A.units + 64 < cLine) : OpR X (compareOp .NotIn) (rInD X.K true) := by
  intro pins s σ H x y v u Q I rx ry h
  obtain ⟨d, ds, hd, he, c1, c2, hz, q⟩ := h
  obtain ⟨as, r1⟩ := Dp.reads I d x v hd rx
  have hm : min (PyData.depthAll ds) d.depth ≤ d.depth := Nat.min_le_right _ _
  rcases he with he | he
  · obtain ⟨bs, r2⟩ := Dp.reads I _ y u he ry
    exact SeqAt.notIn_list_reads r2 r1 c2 c1 (by omega) ⟨.bl _, H, I, rfl, q⟩
  · obtain ⟨bs, r2⟩ := Dp.reads I _ y u he ry
    exact SeqAt.notIn_tuple_reads r2 r1 c2 c1 (by omega) ⟨.bl _, H, I, rfl, q⟩
theorem op_inA {X : Cx} (hu : X.A.units + 64 < cLine) (hK : X.K = K) : OpR X (compareOp .In) (rOr (rIn K false) (rInD K false)) := hK ▸ opr_or op_in_seq (op_inD hu)
theorem op_notInA {X : Cx} (hu : X.A.units + 64 < cLine) (hK : X.K = K) : OpR X (compareOp .NotIn) (rOr (rIn K true) (rInD K true)) := hK ▸ opr_or op_notIn_seq (op_notInD hu)
theorem flat_all : ∀ {vs : List V} {ds : List D}, RepL K as F vs ds → ds.all dflat = true → vs.all flatV = true
  | _, _, .nil, _ => rfl
  | _, _, .cons q r, h => by
    rw [List.all_cons, Bool.and_eq_true] at h ⊢
    exact ⟨flat_rep q h.1, flat_all r h.2⟩
theorem flat_any {x : V} {d : D} (rx : Rep K as F x d) (hx : dflat d = true) : ∀ {vs : List V} {ds : List D}, RepL K as F vs ds → ds.all dflat = true → inV x vs = ds.any fun e => deqv e d
  | _, _, .nil, _ => rfl
  | _, _, .cons (v := v) (vs := vs) q r, h => by
    rw [List.all_cons, Bool.and_eq_true] at h
    have ih := flat_any rx hx r h.2
    show (eqV v x || inV x vs) = _
    rw [List.any_cons, ih, flat_eqV q rx h.1 hx]
theorem lay_all {ds : List D} {ps : List PyData} {d : D} {p : PyData} (h : toPL ds = some ps) (hd : toP d = some p) : (ps.any fun e => PyData.eqv e p) = ds.any fun e => deqv e d := by
  induction ds generalizing ps with
  | nil => cases h; rfl
  | cons a r ih =>
    obtain ⟨q, qs, h1, h2, rfl⟩ := toPL_cons h
    rw [List.any_cons, List.any_cons, ih h2, toP_eqv h1 hd]
theorem sim_in (neg : Bool) : SimR K (rOr (rIn K neg) (rInD K neg)) (dIn neg) := fun Z as F H μ x y d e Q Q' M rx ry z k => by
  have go : ∀ (c : D) (ds : List D) (p : Addr) (vs : List V), (c = .lst ds ∧ SqL K H p vs ∨ c = .tup ds ∧ SqT K H p vs) → view μ e = c → y = .ref p → RepL K as F vs ds → dInOk (view μ d) c ds = true →
      Q (.bl (if neg then !(ds.any fun e => deqv e (view μ d)) else ds.any fun e => deqv e (view μ d))) μ → rOr (rIn K neg) (rInD K neg) x y H Q' := by
    rintro c ds p vs hc hv rfl r ok q
    unfold dInOk at ok
    rw [Bool.or_eq_true, Bool.and_eq_true, Bool.and_eq_true] at ok
    rcases ok with ⟨h1, h2⟩ | ⟨h1, h2⟩
    · have e1 := view_flat h1
      rw [e1] at h1 q
      refine .inl ⟨p, vs, rfl, hc.elim (fun w => .inl w.2) (fun w => .inr w.2), flat_rep rx h1, flat_all r h2, ?_⟩
      rw [flat_any rx h1 r h2]
      exact k _ _ μ as F H Gr.refl M (.bl _) q
    · obtain ⟨a, a1, a2⟩ := dok_shaped h1
      unfold dok at h1 h2
      rw [Bool.and_eq_true, decide_eq_true_iff] at h1 h2
      obtain ⟨a', a3, a4, a5⟩ := lay_toP h1.1
      obtain rfl := Option.some.inj (a1.symm.trans a3)
      obtain ⟨b, b1, b2, b3⟩ := lay_toP h2.1
      have hd := view_dp M rx a1
      have he := view_dp M ry (p := b) (by rw [hv]; exact b1)
      rcases hc with ⟨rfl, hq⟩ | ⟨rfl, hq⟩
      · obtain ⟨ps, p1, rfl⟩ := toP_lst b1
        refine .inr ⟨a, ps, hd, .inl he, a4, b2, by rw [a5]; exact h1.2, ?_⟩
        rw [lay_all p1 a1]
        exact k _ _ μ as F H Gr.refl M (.bl _) q
      · obtain ⟨ps, p1, rfl⟩ := toP_tup b1
        refine .inr ⟨a, ps, hd, .inr he, a4, b2, by rw [a5]; exact h1.2, ?_⟩
        rw [lay_all p1 a1]
        exact k _ _ μ as F H Gr.refl M (.bl _) q
  unfold dIn at z
  split at z
  · rename_i ds hv
    obtain ⟨p, vs, ep, q, r⟩ := view_lst M ry hv
    exact go _ ds p vs (.inl ⟨rfl, q⟩) hv ep r z.1 z.2
  · rename_i ds hv
    obtain ⟨p, vs, ep, q, r⟩ := view_tup M ry hv
    exact go _ ds p vs (.inr ⟨rfl, q⟩) hv ep r z.1 z.2
  · exact z.elim
/-! ### fields -/
def uFld (C : Addr) (f : Str) (ua : DTE) : DTE := fun ρ μ Q E => ua ρ μ (fun x μ1 => match view μ1 x with
  | .ins C' gs => C' = C ∧ (match gs.lookup f with
    | some d => Q d μ1
    | none => False)
  | _ => False) E
theorem sim_fld {C : Addr} {f : Str} {t : TE} {u : DTE} (c : Cls K C) (n : NoAttr K C f) (a : Sim K Ex t u) : Sim K Ex (tFld K t f) (uFld C f u) := fun Z as F H σ ρ μ Q E Q' R X h k =>
  a Z as F H σ ρ μ _ E _ R X h fun v d μ1 as1 F1 H1 g1 R1 r1 h1 => by
    have h1 : (match view μ1 d with | .ins C' gs => C' = C ∧ (match gs.lookup f with | some d => Q d μ1 | none => False) | _ => False) := h1
    cases e : view μ1 d with
    | ins C' gs =>
      rw [e] at h1
      obtain ⟨hc, h2⟩ := h1
      subst hc
      obtain ⟨p, dx, fs, rfl, q, r⟩ := view_ins R1.mm r1 e
      cases l : gs.lookup f with
      | some d' =>
        rw [l] at h2
        obtain ⟨v', l', rr⟩ := r.look l
        exact ⟨p, _, dx, fs, v', rfl, q, c, n, l', k _ _ μ1 as1 F1 H1 g1 R1 rr h2⟩
      | none => rw [l] at h2; exact h2.elim
    | _ => rw [e] at h1; exact h1.elim
end
end DX
set_option Elab.async false
set_option linter.all false
set_option maxRecDepth 100000
set_option maxHeartbeats 4000000
namespace Gd
open PySem PySem.Spec PyProof.Rows L2
/-! promises that are kept where no repr is under way: what repr of a list or a tuple asks -/
abbrev Calm0 (A : Around) : Prop := A.guards = some []
def FnG (P : Program) (w : World) (K : PySem.W.Frag) (mg : Str → Option Value) (base : Heap) (CX : CXT) (k : Nat) (f : Addr) (sp : Sp) : Prop :=
  ∀ (A : Around) (outer : List Env) (s : Shared) (H : Hp) (us : List Value) (vs : List V) (Q : VK) (E : XK), Calm0 A → Room k A → Env0 P w K mg base A outer s H → Vals vs us → sp vs H Q E →
    codeAny (model P w) A (.call (.ref f) ⟨us, []⟩) (CR CX outer P w H s Q E) s
section
variable {P : Program} {w : World} {K : PySem.W.Frag} {mg : Str → Option Value} {base : Heap} {k : Nat} {f : Addr} {fd : FuncData} {x qual : Str} {st : Stmt} {N ps : List Str} {sp : Sp}
theorem FnG.of {CX : CXT} (F : FnR P w K mg base CX k f sp) : FnG P w K mg base CX k f sp := fun A o s H us vs Q E _ hr e r h => F A o s H us vs Q E hr e r h
/-- a def by its body, run where no repr is under way -/
theorem fnG_ok (F : Fun K x qual st f fd) (S : FnScope N ps (defScope st)) (B : L2.Binds K fd ps []) (len : ∀ vs H Q E, sp vs H Q E → vs.length = ps.length)
    (body : ∀ (cdv : Value) (A : Around) (outer : List Env) (s : Shared) (H : Hp) (vs : List V) (Q : VK) (E : XK), Calm0 A → Room k (A.deeper (envOfC qual (defScope st) s.heap.objs.size f cdv)) → sp vs H Q E →
      ∃ t, PSs (cxOf CX0 P w K mg base N qual (defScope st) f cdv A outer s H E).nox (defBody st) t ∧ t { nx := fun _ G => Q .non G, rt := Q } (start N vs) H) : FnG P w K mg base CX0 (k + 1) f sp := by
  obtain ⟨oc, od, kV, doc, pm, an, cdv, ct, osl, rfl, lk, hcd⟩ := F.ex
  intro A outer s H us vs Q E g room e r h
  have n1 : vs.length = ps.length := len vs H Q E h
  have inH : K.In s.heap := e.mod.kin.keeps (fun b o z => (e.bs b o z).left)
  have nolim : s.heap.NoLimit := e.mod.nolimit.keeps (fun b o z => (e.bs b o z).left)
  have bd := B s us inH (by rw [List.append_nil, ← r.length]; exact n1)
  rw [List.append_nil] at bd
  have kinds : ∀ q ∈ ps.zip us, (defScope st).names.lookup q.1 = some .local ∨ ((defScope st).names.lookup q.1 = some .cell ∧ ((cellsFrom (s.heap.objs.size + 1) (defScope st).names []).lookup q.1).isSome = true) := by
    rintro ⟨n, v⟩ hq
    cases S.par n (List.of_mem_zip hq).1 with
    | inl z => exact Or.inl z
    | inr z => exact Or.inr ⟨z, PySem.W.cellsFrom_some _ _ _ (Or.inl z)⟩
  obtain ⟨t, ht, q⟩ := body cdv A outer s H vs Q E g (room.deeper _) h
  apply codeAny_call_function room.depth (inH _ _ lk) rfl S.co S.gen rfl (PySem.W.codeRec_of inH hcd) (bd _ _ _ _ _)
  apply wpAny_newFunctionEnv_cells S.kind kinds
  intro env he s1 z
  subst he
  refine And.intro (nolim.keeps z.toInCall.keep) (codeAny_func ?_)
  have I := inv_start (CX := CX0) (E := E) S room.hd e n1 r z
  apply wpAny_mono (ht.nox.run [] s1 (start N vs) H _ I q) (fun fl s2 hs => ?_) (fun _ _ hs => hs)
  cases fl with
  | ret u => obtain ⟨v, σ2, H2, J, rv, z2⟩ := hs; exact ⟨v, H2, J.os, J.bare, J.base, J.hok, rv, z2⟩
  | next => obtain ⟨σ2, H2, J, z2⟩ := hs; exact ⟨V.non, H2, J.os, J.bare, J.base, J.hok, rfl, z2⟩
  | brk => exact hs.elim fun _ z2 => z2.elim fun _ z3 => z3.2.elim
  | cont => exact hs.elim fun _ z2 => z2.elim fun _ z3 => z3.2.elim
end
section
variable {X : Cx} {CX : CXT} {k : Nat} {f : Addr} {sp : Sp} {E : XK} {x : Str} {p pos : Pos} {e : Expr} {es : List Expr} {t : TA}
theorem pe_callG (F : FnG X.prog X.w X.K X.mg X.base CX k f sp) (g : Calm0 X.A) (hr : Room k X.A) (hg : Gl X x) (hm : X.mg x = some (.ref f)) (hk : PySem.W.keepIn X.K (.ref f) = true) (hx : Passes CX X E)
    (ha : PA X (e :: es) t) (hdb : (x == ("__debug__" : Str)) = false := by decide) (he : starEach (e :: es) X.env = (false, eval e X.env) :: starEach es X.env := by rfl) (hpl : (backTo pos (starEach es X.env)).any (·.1) = false := by rfl) :
    PE X (.Call (.Name x p) (e :: es) [] pos) (tCall sp [] E t) := by
  constructor
  intro pins s σ H Q I h
  apply wpAny_Call_Name_kw (ld_glob I hg hm ?_ hdb)
  apply PySem.W.callWith_K (h₀ := X.base) I.ok.mod.kin hk (thn (ha.run pos pins s σ H _ I h) fun us s1 ⟨vs, H1, I1, r, q⟩ => ⟨I1.kIn, ?_⟩) he hpl
  have q : sp vs H1 Q E := by
    have z : sp (vs ++ []) H1 Q E := q
    rwa [List.append_nil] at z
  refine wpAny_call (codeAny_mono (F _ _ _ _ _ _ _ _ g hr I1.env0 r q) fun z s2 hq => ?_)
  match z, hq with
  | .error u, hq => exact hx pins σ H1 s1 u s2 I1 hq
  | .ok (.ret u), hq => exact I1.after hq
end
/-! repr of data -/
def okShow : PyData → Bool
  | .int i => decide (i.natAbs.log2 < 1920)
  | d => d.showable && !d.hasDict && decide (d.depth ≤ 8) && decide (d.shown.length ≤ 1000000)
theorem show_of {d : PyData} (n : ∀ i, d ≠ .int i) (h : okShow d = true) : d.showable = true ∧ d.hasDict = false ∧ d.depth ≤ 8 ∧ d.shown.length ≤ sizeLine := by
  cases d with
  | int i => exact (n i rfl).elim
  | _ =>
    simp only [okShow, Bool.and_eq_true, decide_eq_true_eq, Bool.not_eq_true'] at h
    exact ⟨h.1.1.1, h.1.1.2, h.1.2, Nat.le_trans h.2 (by decide)⟩
theorem call_reprD {X : Cx} (g : Calm0 X.A) (hu : X.A.units + 64 < cLine) : CallR X (.builtin "repr") (fun xs H Q => ∃ v d, xs = [v] ∧ Dp X.K H v d ∧ okShow d = true ∧ Q (.str d.shown) H) := by
  intro pins s σ H xs us Q I r ⟨v, d, e, hd, ok, q⟩
  subst e
  obtain ⟨u, rfl, ru⟩ := vals1 r
  cases hd with
  | non => cases ru; exact PySem.P.repr_of_none ⟨.str _, H, I.tok _, ⟨_, rfl⟩, q⟩
  | bl b => cases ru; exact PySem.P.repr_of_bool ⟨.str _, H, I.tok _, ⟨_, rfl⟩, q⟩
  | int i => obtain ⟨t, rfl⟩ := ru; exact PySem.P.repr_of_int (of_decide_eq_true ok) ⟨.str _, H, I.tok _, ⟨_, rfl⟩, q⟩
  | str z => obtain ⟨t, rfl⟩ := ru; exact PySem.P.repr_of_str ⟨.str _, H, I.tok _, ⟨_, rfl⟩, q⟩ (show_of (by intro i e; cases e) ok).2.2.2
  | lst h1 h2 =>
    obtain ⟨o1, o2, o3, o5⟩ := show_of (by intro i e; cases e) ok
    obtain ⟨as, rd⟩ := Dp.reads I _ _ _ (Dp.lst h1 h2) ru
    cases ru
    exact repr_of_reads' rd o1 (fun z => by rw [o2] at z; cases z) g (by omega) (fun _ _ z => z) (fun h' u tk hk => ⟨.str _, H, I.kept hk, ⟨_, rfl⟩, q⟩) o5
  | tup h1 h2 =>
    obtain ⟨o1, o2, o3, o5⟩ := show_of (by intro i e; cases e) ok
    obtain ⟨as, rd⟩ := Dp.reads I _ _ _ (Dp.tup h1 h2) ru
    cases ru
    exact repr_of_reads' rd o1 (fun z => by rw [o2] at z; cases z) g (by omega) (fun _ _ z => z) (fun h' u tk hk => ⟨.str _, H, I.kept hk, ⟨_, rfl⟩, q⟩) o5
/-! the head of a law that is kept where no repr is under way -/
section
variable {P : Program} {w : World} {K : PySem.W.Frag} {mg mb : Str → Option Value} {k : Nat} {fa a : Addr} {sp : Sp} {s : Shared} {vs : List Value} {ns : List Int}
/-- what the law's run is to give -/
abbrev Gives (s : Shared) (r : Result) (s2 : Shared) : Prop := r = .ok (.ret (.bool true)) ∧ OldK s.heap s2.heap ∧ s2.os = s.os ∧ AllBare s2.gens
/-- the ground of a heap H that tracks at most the script -/
theorem ground_of {H : Hp} (inH : K.In s.heap) (g : s.heap.Ns mainGlobals mg) (b : s.heap.Ns builtinsNs mb) (bb : ∀ x : Str, x ≠ "__name__" → mb x = bootBuiltins x) (nl : s.heap.NoLimit) (ng : s.gens = #[])
    (sc : s.heap.get? a = some { cls := .type "list", data := .seq vs.toArray }) (ok : HOk P w H s.heap) (one : ∀ b u, H b = some u → b = a ∧ K.lookup a = none) :
    K.In (hidT s.heap H) ∧ (hidT s.heap H).Ns mainGlobals mg ∧ Env0 P w K mg (hidT s.heap H) callerA [] s H := by
  have open_ : ∀ {b : Addr} {o : Obj}, s.heap.get? b = some o → b ≠ a → (hidT s.heap H).get? b = some o := fun {b o} e n => hidT_get e (by
    cases z : H b with
    | none => rfl
    | some u => exact (n (one b u z).1).elim)
  have names : ∀ {b : Addr} {m : Str → Option Value}, s.heap.Ns b m → (hidT s.heap H).Ns b m := by
    rintro b m ⟨o, es, ep, e, d, r⟩
    refine ⟨o, es, ep, open_ e ?_, d, r⟩
    rintro rfl
    rw [e] at sc
    cases sc
    cases d
  have inG : K.In (hidT s.heap H) := fun b o e => by
    by_cases z : b = a
    · subst z
      refine hidT_get (inH b o e) ?_
      cases y : H b with
      | none => rfl
      | some u => rw [(one b u y).2] at e; cases e
    · exact open_ (inH b o e) z
  obtain ⟨mc, l1, l2⟩ := nl
  exact ⟨inG, names g, ⟨rfl, ⟨inG, names g, ⟨mb, names b, bb⟩, ⟨mc, names l1, l2⟩⟩, fun b o e => of_hidT e, Nat.le_of_eq (hidT_size _ _), trivial, fun b hb => (nomatch hb), ok, .of_eq ng⟩⟩
theorem law_runG (inH : K.In s.heap) (g : s.heap.Ns mainGlobals mg) (b : s.heap.Ns builtinsNs mb) (bb : ∀ x : Str, x ≠ "__name__" → mb x = bootBuiltins x) (nl : s.heap.NoLimit) (ng : s.gens = #[])
    (sc : s.heap.get? a = some { cls := .type "list", data := .seq vs.toArray }) (hi : IntsAre vs ns) (hl : ns.length ≤ sizeLine) (hr : Room k callerA)
    (F : ∀ base : Heap, K.In base → base.Ns mainGlobals mg → FnG P w K mg base CX0 k fa sp) (hsp : ∀ H : Hp, SqL K H a (ns.map V.int) → sp [.ref a] H (fun v _ => v = .bl true) fun _ _ _ => False) :
    codeAny (model P w) callerA (.call (.ref fa) ⟨[.ref a], []⟩) (Gives s) s := by
  have rv := vals_ints hi
  have small : (ns.map V.int).length ≤ sizeLine := by rw [List.length_map]; exact hl
  have way : ∀ H : Hp, (∀ b u, H b = some u → ∃ o xs, u = .frz o (.lst xs)) → SqL K H a (ns.map V.int) → HOk P w H s.heap → (∀ b u, H b = some u → b = a ∧ K.lookup a = none) → codeAny (model P w) callerA (.call (.ref fa) ⟨[.ref a], []⟩) (Gives s) s := by
    intro H fz S ok one
    obtain ⟨g1, g2, g3⟩ := ground_of inH g b bb nl ng sc ok one
    refine codeAny_mono (F _ g1 g2 callerA [] s H [.ref a] [V.ref a] _ _ rfl hr g3 (.cons rfl .nil) (hsp H S)) fun r s2 h => ?_
    match r, h with
    | .ok (.ret u), ⟨v, H2, os, bare, un, ok2, ru, q⟩ =>
      have q : v = .bl true := q
      subst q
      have ru : u = Value.bool true := ru
      subst ru
      refine ⟨rfl, OldK.of_keep fun c o e => ?_, os, bare⟩
      cases z : H c with
      | none => exact un.keep c o e z (by intro y; cases y) (by simp)
      | some u =>
        obtain ⟨ob, xs, rfl⟩ := fz c u z
        have e1 := (ok c _ z).1
        rw [e] at e1
        cases e1
        exact (ok2 c _ (un.frzs c o _ z)).1
  cases own : K.lookup a with
  | some o =>
    have e := inH a o own
    rw [sc] at e
    cases e
    exact way (fun _ => none) (fun _ _ z => nomatch z) (.inr ⟨_, vs.toArray, _, own, rfl, rfl, rfl, by rw [List.size_toArray, hi.length]; exact hl, by simpa using rv⟩) (fun _ _ z => nomatch z) (fun _ _ z => nomatch z)
  | none =>
    have at_ : ∀ b u, (if b = a then some (HO.frz { cls := .type "list", data := .seq vs.toArray } (.lst (ns.map V.int))) else none) = some u → b = a ∧ u = .frz { cls := .type "list", data := .seq vs.toArray } (.lst (ns.map V.int)) := fun b u z => by
      by_cases y : b = a
      · rw [if_pos y] at z; cases z; exact ⟨y, rfl⟩
      · rw [if_neg y] at z; cases z
    refine way (fun b => if b = a then some (.frz { cls := .type "list", data := .seq vs.toArray } (.lst (ns.map V.int))) else none) (fun b u z => ⟨_, _, (at_ b u z).2⟩) (.inl (.inr ⟨_, if_pos rfl⟩)) (fun b u z => ?_) (fun b u z => ⟨(at_ b u z).1, own⟩)
    obtain ⟨rfl, rfl⟩ := at_ b u z
    exact ⟨sc, small, vs, _, rv, sc⟩
end
theorem walkG {l : PySem.W.OpenLaw} {n k : Nat} {q : Program} {loose : List Str} {XP : (Str → Option Value) → Heap → Prop} {YP : World → Heap → Prop} {d : DefRec} {K : Params → PySem.W.Frag} {sp : PySem.W.Frag → Sp}
    (hn : l.most = some n) (n2 : n ≤ sizeLine) (hdf : d.params.defaults = []) (hr : Room k callerA) (hY : ∀ (w : World) (h : Heap), YP w h → (K w.params).In h)
    (F : ∀ (w : World) (mg : Str → Option Value) (fa : Addr) (h : Heap), (K w.params).In h → h.Ns mainGlobals mg → mg d.name = some (.ref fa) → ∀ base : Heap, (K w.params).In base → base.Ns mainGlobals mg → FnG l.prog w (K w.params) mg base CX0 k fa (sp (K w.params)))
    (hsp : ∀ (K : PySem.W.Frag) (H : Hp) (a : Addr) (ns : List Int), ns.length ≤ n → SqL K H a (ns.map V.int) → sp K [.ref a] H (fun v _ => v = .bl true) fun _ _ _ => False) :
    PySem.W.WalkO q loose XP YP l.row.toRowW d [] (fun f vs => PySem.call f vs) := by
  apply Att.attach_call hn hdf
  intro w s₀ s₁ mg mb fa o pm cd doc a vs ns G Y ho hd hcd hmg hobj hints hlen hg
  exact law_runG (hY w _ Y) G.T.g G.T.b G.T.builtins G.T.nolimit hg hobj hints (Nat.le_trans hlen n2) hr (F w mg fa _ (hY w _ Y) G.T.g hmg) (fun H S => hsp _ H a ns hlen S)
end Gd
set_option Elab.async false
set_option linter.all false
set_option maxRecDepth 100000
set_option maxHeartbeats 4000000
namespace DX
open PySem PySem.Spec PyProof.Rows L2
/-! ### built-in calls -/
abbrev DC := List D → Mem → (D → Mem → Prop) → Prop
section
variable {K : PySem.W.Frag} {Z : Hp} {as as' as1 : List Addr} {F F' F1 H H' H1 : Hp} {Ex : L2.St → XK}
def SimC (K : PySem.W.Frag) (r : List V → Hp → VK → Prop) (dc : DC) : Prop := ∀ (Z : Hp) (as : List Addr) (F H : Hp) (μ : Mem) (vs : List V) (ds : List D) (Q : D → Mem → Prop) (Q' : VK), Mm K Z as F H μ → RepL K as F vs ds → dc ds μ Q →
  (∀ v d' μ' as' F' H', Gr as F as' F' → Mm K Z as' F' H' μ' → Rep K as' F' v d' → Q d' μ' → Q' v H') → r vs H Q'
def uCB (dc : DC) (ua : DTA) : DTE := fun ρ μ Q E => ua ρ μ (fun ds μ1 => dc ds μ1 Q) E
theorem sim_cb {r : List V → Hp → VK → Prop} {dc : DC} {t : TA} {u : DTA} (s : SimC K r dc) (a : SimA K Ex t u) : Sim K Ex (tCB r t) (uCB dc u) := fun Z as F H σ ρ μ Q E Q' R X h k =>
  a Z as F H σ ρ μ _ E _ R X h fun vs ds μ1 as1 F1 H1 g1 R1 r1 h1 => s Z as1 F1 H1 μ1 vs ds Q Q' R1.mm r1 h1 fun v d' μ' as' F' H' g2 M2 r2 q => k v d' μ' as' F' H' (g1.trans g2) (R1.up g2 M2) r2 q
def one (f : D → Mem → (D → Mem → Prop) → Prop) : DC := fun ds μ Q => match ds with
  | [x] => f x μ Q
  | _ => False
theorem simC_one {r : List V → Hp → VK → Prop} {f : D → Mem → (D → Mem → Prop) → Prop}
    (h : ∀ (Z : Hp) (as : List Addr) (F H : Hp) (μ : Mem) (v : V) (d : D) (Q : D → Mem → Prop) (Q' : VK), Mm K Z as F H μ → Rep K as F v d → f d μ Q → (∀ v d' μ' as' F' H', Gr as F as' F' → Mm K Z as' F' H' μ' → Rep K as' F' v d' → Q d' μ' → Q' v H') → r [v] H Q') : SimC K r (one f) := fun Z as F H μ vs ds Q Q' M rs z k => by
  match vs, ds, rs, z with
  | _, _, .cons r1 .nil, z => exact h Z as F H μ _ _ Q Q' M r1 z k
  | _, _, .nil, z => exact z.elim
  | _, _, .cons _ (.cons _ _), z => exact z.elim
/-! len -/
def dLen : DC := one fun x μ Q => match view μ x with
  | .lst xs => Q (.int xs.length) μ
  | .tup xs => Q (.int xs.length) μ
  | .str z => z.length ≤ sizeLine ∧ Q (.int z.length) μ
  | .byt z => z.size ≤ sizeLine ∧ Q (.int z.size) μ
  | _ => False
def rLen (K : PySem.W.Frag) : List V → Hp → VK → Prop := fun xs H Q => ∃ x n, xs = [x] ∧ LenV K x H n ∧ Q (.int n) H
theorem call_lenA {X : Cx} (hK : X.K = K) : CallR X (.builtin "len") (rLen K) := hK ▸ call_len
theorem view_byt {μ : Mem} {d : D} {z : Array UInt8} (h : view μ d = .byt z) : d = .byt z := view_non h (by intro _ z; cases z) (by intro _ z; cases z) (by intro _ _ z; cases z)
theorem sim_len : SimC K (rLen K) dLen := simC_one fun Z as F H μ v d Q Q' M r z k => by
  cases e : view μ d with
  | lst xs =>
    rw [e] at z
    obtain ⟨a, vs, rfl, q, x⟩ := view_lst M r e
    exact ⟨_, _, rfl, .inl ⟨vs, q, rfl⟩, by rw [x.len]; exact k _ _ μ as F H Gr.refl M (.int _) z⟩
  | tup xs =>
    rw [e] at z
    obtain ⟨a, vs, rfl, q, x⟩ := view_tup M r e
    exact ⟨_, _, rfl, .inr ⟨vs, q, rfl⟩, by rw [x.len]; exact k _ _ μ as F H Gr.refl M (.int _) z⟩
  | str w =>
    rw [e] at z
    cases view_str e
    cases r
    exact ⟨_, _, rfl, ⟨z.1, rfl⟩, k _ _ μ as F H Gr.refl M (.int _) z.2⟩
  | byt w =>
    rw [e] at z
    cases view_byt e
    cases r
    exact ⟨_, _, rfl, ⟨z.1, rfl⟩, k _ _ μ as F H Gr.refl M (.int _) z.2⟩
  | _ => rw [e] at z; exact z.elim
/-! types -/
inductive Ty where
  | non | bl | int | str | byt | lst | tup | dic
  | own (C : Addr)
def tyOf (μ : Mem) : D → Option Ty
  | .non => some .non
  | .bl _ => some .bl
  | .int _ => some .int
  | .str _ => some .str
  | .byt _ => some .byt
  | .lst _ => some .lst
  | .kl _ => some .lst
  | .tup _ => some .tup
  | .kt _ => some .tup
  | .ins C _ => some (.own C)
  | .ob k => match μ[k]? with
    | some (.lst _) => some .lst
    | some (.ins C _) => some (.own C)
    | some (.dic _) => some .dic
    | none => none
  | _ => none
def tyVal : Ty → Value
  | .non => .type "NoneType"
  | .bl => .type "bool"
  | .int => .type "int"
  | .str => .type "str"
  | .byt => .type "bytes"
  | .lst => .type "list"
  | .tup => .type "tuple"
  | .dic => .type "dict"
  | .own C => .ref C
/-- an own class's facts for isinstance -/
structure OwnT (K : PySem.W.Frag) (C : Addr) : Prop where
  cl : Cls K C
  cC : PySem.W.findIn K (.ref C) "__class__" = some (some (.builtin "object.__class__"))
  cG : PySem.W.specialIn K (.builtin "object.__class__") "__get__" = some (some (.builtin "getset_descriptor.__get__"))
  cT : PySem.W.takesIn K (.builtin "object.__class__") = some true
  cM : PySem.W.mroIn K C (.type "object") = some true
theorem sqL_ty {a : Addr} {xs : List V} (h : SqL K H a xs) : TyX K H (.ref a) (.type "list") := by
  rcases h with (h | ⟨o, h⟩) | ⟨o, its, n, h, c, _⟩
  · exact .base (.lst h)
  · exact .base (.frz h)
  · exact .kList h c
theorem sqT_ty {a : Addr} {xs : List V} (h : SqT K H a xs) : TyX K H (.ref a) (.type "tuple") := by
  rcases h with (h | ⟨o, h⟩) | ⟨o, its, n, h, c, _⟩
  · exact .base (.tup h)
  · exact .fTuple h
  · exact .kTuple h c
def TyOk (K : PySem.W.Frag) : Ty → Prop
  | .own C => OwnT K C
  | _ => True
theorem ty_of {μ : Mem} (M : Mm K Z as F H μ) {v : V} {d : D} (r : Rep K as F v d) {t : Ty} (h : tyOf μ d = some t) (ok : TyOk K t) : TyX K H v (tyVal t) := by
  cases r with
  | ob q =>
    rename_i k a
    have h : (match μ[k]? with | some (DX.M.lst _) => some Ty.lst | some (.ins C _) => some (.own C) | some (.dic _) => some .dic | none => none) = some t := h
    cases z : μ[k]? with
    | none => rw [z] at h; cases h
    | some m =>
      rw [z] at h
      obtain ⟨b, hb, y⟩ := M.at_ k m z
      obtain rfl := Option.some.inj (q.symm.trans hb)
      cases m with
      | lst es => cases h; obtain ⟨vs, e1, _⟩ := y; exact .base (.lst e1)
      | ins C fs => cases h; obtain ⟨dx, vs, e1, _⟩ := y; exact .base (.ins e1 ok.cl ok.cC ok.cG ok.cT ok.cM)
      | dic kv => cases h; obtain ⟨ks, e1, _⟩ := y; exact .base (.dK e1)
  | non => cases h; exact .base .non
  | bl b => cases h; exact .base (.bl b)
  | int b => cases h; exact .base (.int b)
  | str b => cases h; exact .base (.str b)
  | byt b => cases h; exact .byt b
  | lst q x => cases h; exact .base (.lst (M.same _ _ q))
  | kl q x => cases h; exact sqL_ty (M.same.seq q)
  | tup q x => cases h; exact .base (.tup (M.same _ _ q))
  | kt q x => cases h; exact sqT_ty (SqT.ext q M.same)
  | ins q x => cases h; exact .base (.ins (M.same _ _ q) ok.cl ok.cC ok.cG ok.cT ok.cM)
  | _ => cases h
/-- isinstance(x, T), T a built-in class -/
def tyIs : Ty → Ty → Bool
  | .non, .non => true
  | .bl, .bl => true
  | .bl, .int => true
  | .int, .int => true
  | .str, .str => true
  | .byt, .byt => true
  | .lst, .lst => true
  | .tup, .tup => true
  | .dic, .dic => true
  | _, _ => false
def tyName : Ty → String
  | .non => "NoneType" | .bl => "bool" | .int => "int" | .str => "str" | .byt => "bytes" | .lst => "list" | .tup => "tuple" | .dic => "dict" | .own _ => ""
/-- what an own class answers of a built-in one -/
def OwnB (K : PySem.W.Frag) (C : Addr) (T : Ty) : Prop := OwnT K C ∧ PySem.W.kitOne K (.ref C) (tyVal T) = some false
def dIsB (K : PySem.W.Frag) (T : Ty) (x : D) (μ : Mem) (Q : D → Mem → Prop) : Prop := match tyOf μ x with
  | some (.own C) => OwnB K C T ∧ Q (.bl false) μ
  | some t => Q (.bl (tyIs t T)) μ
  | none => False
def dIsiB (K : PySem.W.Frag) (T : Ty) : DC := fun ds μ Q => match ds with
  | [x, .val _] => dIsB K T x μ Q
  | _ => False
theorem kit_tab {t T : Ty} (h1 : ∀ C, t ≠ .own C) (h2 : ∀ C, T ≠ .own C) : PySem.W.kitOne K (tyVal t) (tyVal T) = some (tyIs t T) := by
  cases t <;> first | exact absurd rfl (h1 _) | (cases T <;> first | exact absurd rfl (h2 _) | exact kit_ty (by decide +kernel))
end
/-- a term that gives the class c -/
structure IsCls (c : V) (u : Value) : Prop where
  cls : ClsV c u
section
variable {K : PySem.W.Frag} {Z : Hp} {as as' as1 : List Addr} {F F' F1 H H' H1 : Hp} {Ex : L2.St → XK}
def uIs (f : D → Mem → (D → Mem → Prop) → Prop) (ua : DTE) : DTE := fun ρ μ Q E => ua ρ μ (fun x μ1 => f x μ1 Q) E
theorem sim_isB {T : Ty} {n : String} (hT : ∀ C, T ≠ .own C) (e : tyVal T = .type n) {t : TE} {u : DTE} (a : Sim K Ex t u) : Sim K Ex (tCB (rIsi K) (tCons t (tCons (tC (.ty n)) tNil))) (uIs (dIsB K T) u) := fun Z as F H σ ρ μ Q E Q' R X h k =>
  a Z as F H σ ρ μ _ E _ R X h fun v d μ1 as1 F1 H1 g1 R1 r1 h1 => by
    have h1 : dIsB K T d μ1 Q := h1
    unfold dIsB at h1
    cases z : tyOf μ1 d with
    | none => rw [z] at h1; exact h1.elim
    | some t =>
      rw [z] at h1
      have go : ∀ b, PySem.W.kitOne K (tyVal t) (tyVal T) = some b → TyOk K t → Q (.bl b) μ1 → rIsi K [v, .ty n] H1 Q' := fun b hb ok q => ⟨v, .ty n, tyVal t, .type n, b, rfl, .ty n, ty_of R1.mm r1 z ok, by rw [← e]; exact hb, k _ _ μ1 as1 F1 H1 g1 R1 (.bl _) q⟩
      cases t with
      | own C => exact go false h1.1.2 h1.1.1 h1.2
      | _ => exact go _ (kit_tab (by intro C z; cases z) hT) True.intro h1
/-- isinstance(x, C), C an own class -/
structure KitO (K : PySem.W.Frag) (C : Addr) : Prop where
  b : ∀ t : Ty, (∀ C, t ≠ .own C) → PySem.W.kitOne K (tyVal t) (.ref C) = some false
def dIsO (K : PySem.W.Frag) (C : Addr) (x : D) (μ : Mem) (Q : D → Mem → Prop) : Prop := match tyOf μ x with
  | some (.own C') => OwnT K C' ∧ ∃ b, PySem.W.kitOne K (.ref C') (.ref C) = some b ∧ Q (.bl b) μ
  | some _ => Q (.bl false) μ
  | none => False
theorem sim_isO {C : Addr} (kt : KitO K C) {t : TE} {u : DTE} (a : Sim K Ex t u) : Sim K Ex (tCB (rIsi K) (tCons t (tCons (tC (.ref C)) tNil))) (uIs (dIsO K C) u) := fun Z as F H σ ρ μ Q E Q' R X h k =>
  a Z as F H σ ρ μ _ E _ R X h fun v d μ1 as1 F1 H1 g1 R1 r1 h1 => by
    have h1 : dIsO K C d μ1 Q := h1
    unfold dIsO at h1
    cases z : tyOf μ1 d with
    | none => rw [z] at h1; exact h1.elim
    | some t =>
      rw [z] at h1
      have go : ∀ b, PySem.W.kitOne K (tyVal t) (.ref C) = some b → TyOk K t → Q (.bl b) μ1 → rIsi K [v, .ref C] H1 Q' := fun b hb ok q => ⟨v, .ref C, tyVal t, .ref C, b, rfl, .own C, ty_of R1.mm r1 z ok, hb, k _ _ μ1 as1 F1 H1 g1 R1 (.bl _) q⟩
      cases t with
      | own C' =>
        obtain ⟨o, b, hb, q⟩ := h1
        exact go b hb o q
      | _ => exact go false (kt.b _ (by intro C z; cases z)) True.intro h1
theorem call_isiA {X : Cx} (hK : X.K = K) : CallR X (.builtin "isinstance") (rIsi K) := hK ▸ call_isi
/-! int, bool -/
def dInt : DC := one fun x μ Q => match x with
  | .int i => Q (.int i) μ
  | .bl b => Q (.int (if b then 1 else 0)) μ
  | _ => False
theorem sim_int : SimC K (fun xs H Q => (∃ i, xs = [.int i] ∧ Q (.int i) H) ∨ ∃ k, xs = [.bl k] ∧ Q (.int (if k then 1 else 0)) H) dInt := simC_one fun Z as F H μ v d Q Q' M r z k => by
  cases r <;> try exact z.elim
  · exact .inr ⟨_, rfl, k _ _ μ as F H Gr.refl M (.int _) z⟩
  · exact .inl ⟨_, rfl, k _ _ μ as F H Gr.refl M (.int _) z⟩
/-! list(x), tuple(x) -/
def dList (m : Bool) : DC := one fun x μ Q => match view μ x with
  | .lst xs => if m = true then Q (.ob μ.length) (μ ++ [.lst xs]) else Q (.lst xs) μ
  | .tup xs => if m = true then Q (.ob μ.length) (μ ++ [.lst xs]) else Q (.lst xs) μ
  | _ => False
def rList (K : PySem.W.Frag) : List V → Hp → VK → Prop := fun xs H Q => ∃ p ys, xs = [.ref p] ∧ (SqL K H p ys ∨ SqT K H p ys) ∧ ∀ l, H l = none → Q (.ref l) (upd H l (.lst ys))
theorem call_listA {X : Cx} (hK : X.K = K) : CallR X (.type "list") (rList K) := hK ▸ call_list_of
theorem new_lst {μ : Mem} (M : Mm K Z as F H μ) {vs : List V} {ds : List D} (x : RepL K as F vs ds) {m : Bool} {Q : D → Mem → Prop} {Q' : VK} (q : if m = true then Q (.ob μ.length) (μ ++ [.lst ds]) else Q (.lst ds) μ)
    (k : ∀ v d' μ' as' F' H', Gr as F as' F' → Mm K Z as' F' H' μ' → Rep K as' F' v d' → Q d' μ' → Q' v H') : ∀ l, H l = none → Q' (.ref l) (upd H l (.lst vs)) := fun l nl => by
  cases m with
  | true =>
    rw [if_pos rfl] at q
    exact k _ _ _ _ F _ Gr.add (M.addM (m := .lst ds) nl ⟨vs, upd_same, x.up Gr.add⟩) (rep_ob M.len) q
  | false =>
    rw [if_neg Bool.false_ne_true] at q
    have g := Gr.upd (as := as) (o := .lst vs) (M.newF nl)
    exact k _ _ μ as _ _ g (M.addF nl) (.lst upd_same (x.up g)) q
theorem sim_list (m : Bool) : SimC K (rList K) (dList m) := simC_one fun Z as F H μ v d Q Q' M r z k => by
  cases e : view μ d with
  | lst xs =>
    rw [e] at z
    obtain ⟨a, vs, rfl, q, x⟩ := view_lst M r e
    exact ⟨a, vs, rfl, .inl q, new_lst M x z k⟩
  | tup xs =>
    rw [e] at z
    obtain ⟨a, vs, rfl, q, x⟩ := view_tup M r e
    exact ⟨a, vs, rfl, .inr q, new_lst M x z k⟩
  | _ => rw [e] at z; exact z.elim
def dTuple : DC := one fun x μ Q => match view μ x with
  | .lst xs => Q (.tup xs) μ
  | .tup _ => Q x μ
  | _ => False
def rTuple (K : PySem.W.Frag) : List V → Hp → VK → Prop := fun xs H Q => ∃ p ys, xs = [.ref p] ∧ ((SqL K H p ys ∧ ∀ l, H l = none → Q (.ref l) (upd H l (.tup ys))) ∨ (SqT K H p ys ∧ Q (.ref p) H))
theorem call_tupleA {X : Cx} (hK : X.K = K) : CallR X (.type "tuple") (rTuple K) := hK ▸ call_tuple_of
theorem sim_tuple : SimC K (rTuple K) dTuple := simC_one fun Z as F H μ v d Q Q' M r z k => by
  cases e : view μ d with
  | lst xs =>
    rw [e] at z
    obtain ⟨a, vs, rfl, q, x⟩ := view_lst M r e
    refine ⟨a, vs, rfl, .inl ⟨q, fun l nl => ?_⟩⟩
    have g := Gr.upd (as := as) (o := .tup vs) (M.newF nl)
    exact k _ _ μ as _ _ g (M.addF nl) (.tup upd_same (x.up g)) z
  | tup xs =>
    rw [e] at z
    obtain ⟨a, vs, rfl, q, x⟩ := view_tup M r e
    exact ⟨a, vs, rfl, .inr ⟨q, k _ _ μ as F H Gr.refl M r z⟩⟩
  | _ => rw [e] at z; exact z.elim
/-! sum, any, all -/
theorem ints_rep : ∀ {vs : List V} {ns : List Int}, RepL K as F vs (ns.map D.int) → vs = ns.map V.int
  | [], [], _ => rfl
  | _, _ :: _, .cons (.int _) r => by rw [ints_rep r]; rfl
theorem bls_rep : ∀ {vs : List V} {ns : List Bool}, RepL K as F vs (ns.map D.bl) → vs = ns.map V.bl
  | [], [], _ => rfl
  | _, _ :: _, .cons (.bl _) r => by rw [bls_rep r]; rfl
theorem strs_rep : ∀ {vs : List V} {ns : List Str}, RepL K as F vs (ns.map D.str) → vs = ns.map V.str
  | [], [], _ => rfl
  | _, _ :: _, .cons (.str _) r => by rw [strs_rep r]; rfl
theorem rep_strs : ∀ ns : List Str, RepL K as F (ns.map V.str) (ns.map D.str)
  | [] => .nil
  | _ :: r => .cons (.str _) (rep_strs r)
def dSum : DC := one fun x μ Q => ∃ ns : List Int, view μ x = .lst (ns.map .int) ∧ Q (.int ns.sum) μ
def dAny : DC := one fun x μ Q => ∃ bs : List Bool, view μ x = .lst (bs.map .bl) ∧ Q (.bl (bs.any id)) μ
def dAll : DC := one fun x μ Q => ∃ bs : List Bool, view μ x = .lst (bs.map .bl) ∧ Q (.bl (bs.all id)) μ
theorem sim_sum : SimC K (rSum K) dSum := simC_one fun Z as F H μ v d Q Q' M r z k => by
  obtain ⟨ns, e, z⟩ := z
  obtain ⟨a, vs, rfl, q, x⟩ := view_lst M r e
  cases ints_rep x
  exact ⟨a, ns, rfl, q, k _ _ μ as F H Gr.refl M (.int _) z⟩
theorem sim_any : SimC K (rAny K) dAny := simC_one fun Z as F H μ v d Q Q' M r z k => by
  obtain ⟨ns, e, z⟩ := z
  obtain ⟨a, vs, rfl, q, x⟩ := view_lst M r e
  cases bls_rep x
  exact ⟨a, ns, rfl, q, k _ _ μ as F H Gr.refl M (.bl _) z⟩
theorem sim_all : SimC K (rAll K) dAll := simC_one fun Z as F H μ v d Q Q' M r z k => by
  obtain ⟨ns, e, z⟩ := z
  obtain ⟨a, vs, rfl, q, x⟩ := view_lst M r e
  cases bls_rep x
  exact ⟨a, ns, rfl, q, k _ _ μ as F H Gr.refl M (.bl _) z⟩
theorem call_sumA {X : Cx} (hc : X.calm = true) (hK : X.K = K) : CallR X (.builtin "sum") (rSum K) := hK ▸ cr_sum hc
theorem call_anyA {X : Cx} (hc : X.calm = true) (hK : X.K = K) : CallR X (.builtin "any") (rAny K) := hK ▸ cr_any hc
theorem call_allA {X : Cx} (hc : X.calm = true) (hK : X.K = K) : CallR X (.builtin "all") (rAll K) := hK ▸ cr_all hc
/-! repr -/
def rRepr (K : PySem.W.Frag) : List V → Hp → VK → Prop := fun xs H Q => ∃ v d, xs = [v] ∧ Dp K H v d ∧ Gd.okShow d = true ∧ Q (.str d.shown) H
def dRepr : DC := one fun x μ Q => ∃ p, toP (view μ x) = some p ∧ Gd.okShow p = true ∧ Q (.str p.shown) μ
theorem sim_repr : SimC K (rRepr K) dRepr := simC_one fun Z as F H μ v d Q Q' M r z k => by
  obtain ⟨p, e, o, z⟩ := z
  exact ⟨v, p, rfl, view_dp M r e, o, k _ _ μ as F H Gr.refl M (.str _) z⟩
theorem call_reprA {X : Cx} (g : Gd.Calm0 X.A) (hu : X.A.units + 64 < cLine) (hK : X.K = K) : CallR X (.builtin "repr") (rRepr K) := hK ▸ Gd.call_reprD g hu
/-! ### methods of built-in types -/
abbrev DM := D → List D → Mem → (D → Mem → Prop) → Prop
def SimM (K : PySem.W.Frag) (r : V → List V → Hp → VK → Prop) (dm : DM) : Prop := ∀ (Z : Hp) (as : List Addr) (F H : Hp) (μ : Mem) (v : V) (d : D) (vs : List V) (ds : List D) (Q : D → Mem → Prop) (Q' : VK), Mm K Z as F H μ → Rep K as F v d → RepL K as F vs ds → dm d ds μ Q →
  (∀ v d' μ' as' F' H', Gr as F as' F' → Mm K Z as' F' H' μ' → Rep K as' F' v d' → Q d' μ' → Q' v H') → r v vs H Q'
/-- the receiver is a list -/
def isLst (μ : Mem) (d : D) : Prop := match view μ d with
  | .lst _ => True
  | _ => False
def uBM (dm : DM) (uo : DTE) (ua : DTA) : DTE := fun ρ μ Q E => uo ρ μ (fun x μ1 => isLst μ1 x ∧ ua ρ μ1 (fun ds μ2 => dm x ds μ2 Q) E) E
theorem lst_ty {μ : Mem} (M : Mm K Z as F H μ) {v : V} {d : D} (r : Rep K as F v d) (h : isLst μ d) : tyV K "list" v H := by
  unfold isLst at h
  cases e : view μ d with
  | lst xs =>
    obtain ⟨a, vs, rfl, q, x⟩ := view_lst M r e
    exact .inl ⟨rfl, vs, q⟩
  | _ => rw [e] at h; exact h.elim
theorem sim_bm {r : V → List V → Hp → VK → Prop} {dm : DM} {to : TE} {uo : DTE} {t : TA} {u : DTA} (s : SimM K r dm) (o : Sim K Ex to uo) (a : SimA K Ex t u) : Sim K Ex (tBM K "list" r to t) (uBM dm uo u) := fun Z as F H σ ρ μ Q E Q' R X h k =>
  o Z as F H σ ρ μ _ E _ R X h fun v d μ1 as1 F1 H1 g1 R1 r1 h1 => ⟨lst_ty R1.mm r1 h1.1, a Z as1 F1 H1 σ ρ μ1 _ E _ R1 (X.up g1) h1.2 fun vs ds μ2 as2 F2 H2 g2 R2 r2 h2 =>
    s Z as2 F2 H2 μ2 v d vs ds Q Q' R2.mm (r1.up g2) r2 h2 fun v d' μ' as' F' H' g3 M3 r3 q => k v d' μ' as' F' H' ((g1.trans g2).trans g3) (R2.up g3 M3) r3 q⟩
theorem sim_bm0 {r : V → List V → Hp → VK → Prop} {dm : DM} {to : TE} {uo : DTE} (s : SimM K r dm) (o : Sim K Ex to uo) : Sim K Ex (tBM0 K "list" r to) (uBM dm uo uNil) := fun Z as F H σ ρ μ Q E Q' R X h k =>
  o Z as F H σ ρ μ _ E _ R X h fun v d μ1 as1 F1 H1 g1 R1 r1 h1 => ⟨lst_ty R1.mm r1 h1.1, s Z as1 F1 H1 μ1 v d [] [] Q Q' R1.mm r1 .nil h1.2 fun v d' μ' as' F' H' g3 M3 r3 q => k v d' μ' as' F' H' (g1.trans g3) (R1.up g3 M3) r3 q⟩
def dAppend : DM := fun x ds μ Q => match x, ds with
  | .ob k, [y] => match μ[k]? with
    | some (.lst xs) => xs.length < sizeLine ∧ Q .non (μ.set k (.lst (xs ++ [y])))
    | _ => False
  | _, _ => False
theorem sim_append : SimM K rAppend dAppend := fun Z as F H μ v d vs ds Q Q' M r rs z k => by
  unfold dAppend at z
  split at z
  · rename_i n y
    cases r with
    | ob q =>
      rename_i a
      match vs, rs with
      | _, .cons ry .nil =>
        cases e : μ[n]? with
        | none => rw [e] at z; exact z.elim
        | some m =>
          rw [e] at z
          obtain ⟨b, hb, w⟩ := M.at_ n m e
          obtain rfl := Option.some.inj (q.symm.trans hb)
          cases m with
          | lst xs =>
            obtain ⟨us, e1, e2⟩ := w
            refine ⟨a, us, _, rfl, rfl, e1, by rw [e2.len]; exact z.1, ?_⟩
            exact k _ _ _ as F _ Gr.refl (M.put (m := .lst (xs ++ [y])) q ⟨_, upd_same, e2.append (.cons ry .nil)⟩) .non z.2
          | _ => exact z.elim
  · exact z.elim
def dExtend : DM := fun x ds μ Q => match x, ds with
  | .ob k, [y] => match μ[k]?, viewT μ y with
    | some (.lst xs), .lst ys => xs.length + ys.length ≤ sizeLine ∧ Q .non (μ.set k (.lst (xs ++ ys)))
    | _, _ => False
  | _, _ => False
theorem sim_extend : SimM K rExtend dExtend := fun Z as F H μ v d vs ds Q Q' M r rs z k => by
  unfold dExtend at z
  split at z
  · rename_i n y
    cases r with
    | ob q =>
      rename_i a
      match vs, rs with
      | _, .cons ry .nil =>
        cases e : μ[n]? with
        | none => rw [e] at z; exact z.elim
        | some m =>
          rw [e] at z
          obtain ⟨b, hb, w⟩ := M.at_ n m e
          obtain rfl := Option.some.inj (q.symm.trans hb)
          cases m with
          | lst xs =>
            obtain ⟨us, e1, e2⟩ := w
            cases ey : viewT μ y with
            | lst ys =>
              rw [ey] at z
              obtain ⟨c, ws, rfl, e3, e4⟩ := viewT_lst M ry ey
              refine ⟨a, c, us, ws, rfl, rfl, e1, e3, by rw [e2.len, e4.len]; exact z.1, ?_⟩
              exact k _ _ _ as F _ Gr.refl (M.put (m := .lst (xs ++ ys)) q ⟨_, upd_same, e2.append e4⟩) .non z.2
            | _ => rw [ey] at z; exact z.elim
          | _ => exact z.elim
  · exact z.elim
/-- the first place of y -/
def dindex (ds : List D) (y : D) : Option Nat := ds.findIdx? fun e => deqv e y
def dIndex : DM := fun x ds μ Q => match view μ x, ds with
  | .lst xs, [y] => (dflat y && xs.all dflat) = true ∧ (match dindex xs y with
    | some j => Q (.int (j : Nat)) μ
    | none => False)
  | _, _ => False
theorem mt_indexA {X : Cx} (hK : X.K = K) : MtR X "list.index" (rIndex K) := hK ▸ mt_index
theorem sim_index : SimM K (rIndex K) dIndex := fun Z as F H μ v d vs ds Q Q' M r rs z k => by
  unfold dIndex at z
  split at z
  · rename_i xs y e
    obtain ⟨a, us, rfl, q, x⟩ := view_lst M r e
    match vs, rs with
    | _, .cons (v := vy) ry .nil =>
      obtain ⟨fl, z⟩ := z
      rw [Bool.and_eq_true] at fl
      have lay := fl.2
      cases hj : dindex xs y with
      | none => rw [hj] at z; exact z.elim
      | some j =>
        rw [hj] at z
        unfold dindex at hj
        rw [List.findIdx?_eq_some_iff_getElem] at hj
        obtain ⟨h1, h2, h3⟩ := hj
        obtain ⟨w, w1, w2⟩ := x.get (List.getElem?_eq_getElem h1)
        have fx : ∀ {i : Nat} {d : D}, xs[i]? = some d → dflat d = true := fun {i d} h => List.all_eq_true.mp lay d (List.mem_of_getElem? h)
        refine ⟨a, us, vy, j, w, rfl, rfl, q, flat_rep ry fl.1, flat_all x fl.2, w1, ?_, fun m w' hm hw' => ?_, k _ _ μ as F H Gr.refl M (.int _) z⟩
        · rw [flat_eqV w2 ry (fx (List.getElem?_eq_getElem h1)) fl.1]
          exact h2
        · obtain ⟨d', d1, d2⟩ := x.get' hw'
          rw [flat_eqV d2 ry (fx d1) fl.1]
          have hlt : m < xs.length := (List.getElem?_eq_some_iff.mp d1).1
          have := h3 m hm
          rw [List.getElem?_eq_getElem hlt] at d1
          cases d1
          simpa using this
  · exact z.elim
/-! ### methods of texts -/
def uM1 (dm : DM) (uo ue : DTE) : DTE := fun ρ μ Q E => uo ρ μ (fun x μ1 => (match x with | .str _ => True | _ => False) ∧ ue ρ μ1 (fun y μ2 => dm x [y] μ2 Q) E) E
theorem sim_m1 {r : V → List V → Hp → VK → Prop} {dm : DM} {to te : TE} {uo ue : DTE} (s : SimM K r dm) (o : Sim K Ex to uo) (a : Sim K Ex te ue) : Sim K Ex (tM1 r to te) (uM1 dm uo ue) := fun Z as F H σ ρ μ Q E Q' R X h k =>
  o Z as F H σ ρ μ _ E _ R X h fun v d μ1 as1 F1 H1 g1 R1 r1 h1 => ⟨(by cases r1 <;> first | exact ⟨_, rfl⟩ | exact h1.1.elim), a Z as1 F1 H1 σ ρ μ1 _ E _ R1 (X.up g1) h1.2 fun v2 d2 μ2 as2 F2 H2 g2 R2 r2 h2 =>
    s Z as2 F2 H2 μ2 v d [v2] [d2] Q Q' R2.mm (r1.up g2) (.cons r2 .nil) h2 fun v d' μ' as' F' H' g3 M3 r3 q => k v d' μ' as' F' H' ((g1.trans g2).trans g3) (R2.up g3 M3) r3 q⟩
def rSplit : V → List V → Hp → VK → Prop := fun x xs H Q => ∃ a b, x = .str a ∧ xs = [.str b] ∧ (b.length == 0) = false ∧ a.length + 2 ≤ sizeLine ∧ rNewStrs (Txt.split a b) H Q
def dSplit : DM := fun x ds μ Q => match x, ds with
  | .str a, [.str b] => (b.length == 0) = false ∧ a.length + 2 ≤ sizeLine ∧ Q (.lst ((Txt.split a b).map .str)) μ
  | _, _ => False
theorem sim_split : SimM K rSplit dSplit := fun Z as F H μ v d vs ds Q Q' M r rs z k => by
  unfold dSplit at z
  split at z
  · rename_i wa wb
    cases r
    match vs, rs with
    | _, .cons (.str _) .nil =>
      refine ⟨_, _, rfl, rfl, z.1, z.2.1, fun p np => ?_⟩
      have g := Gr.upd (as := as) (o := .lst ((Txt.split wa wb).map V.str)) (M.newF np)
      exact k _ _ μ as _ _ g (M.addF np) (.lst upd_same (rep_strs _)) z.2.2
  · exact z.elim
def rJoin (K : PySem.W.Frag) : V → List V → Hp → VK → Prop := fun x xs H Q => ∃ a p, ∃ ys : List Str, x = .str a ∧ xs = [.ref p] ∧ (SqL K H p (ys.map V.str) ∨ SqT K H p (ys.map V.str)) ∧ (ys.map (·.length)).sum + ys.length * a.length ≤ 16777216 ∧ Q (.str (Txt.join a ys)) H
def dJoin : DM := fun x ds μ Q => match x, ds with
  | .str a, [y] => ∃ ys : List Str, (view μ y = .lst (ys.map .str) ∨ view μ y = .tup (ys.map .str)) ∧ (ys.map (·.length)).sum + ys.length * a.length ≤ 16777216 ∧ Q (.str (Txt.join a ys)) μ
  | _, _ => False
theorem mt_joinA {X : Cx} (hK : X.K = K) : MtR X "str.join" (rJoin K) := hK ▸ mt_join
theorem sim_join : SimM K (rJoin K) dJoin := fun Z as F H μ v d vs ds Q Q' M r rs z k => by
  unfold dJoin at z
  split at z
  · cases r
    obtain ⟨ys, e, hz, z⟩ := z
    match vs, rs with
    | _, .cons ry .nil =>
      rcases e with e | e
      · obtain ⟨a, us, rfl, q, x⟩ := view_lst M ry e
        cases strs_rep x
        exact ⟨_, a, ys, rfl, rfl, .inl q, hz, k _ _ μ as F H Gr.refl M (.str _) z⟩
      · obtain ⟨a, us, rfl, q, x⟩ := view_tup M ry e
        cases strs_rep x
        exact ⟨_, a, ys, rfl, rfl, .inr q, hz, k _ _ μ as F H Gr.refl M (.str _) z⟩
  · exact z.elim
end
end DX
set_option Elab.async false
set_option linter.all false
set_option maxRecDepth 100000
set_option maxHeartbeats 4000000
namespace DX
open PySem PySem.Spec PyProof.Rows L2
/-! ### what was made within is frozen at the end -/
mutual
/-- names no object from n on -/
def cld (n : Nat) : D → Bool
  | .lst xs => cldL n xs
  | .tup xs => cldL n xs
  | .kt xs => cldL n xs
  | .kl xs => cldL n xs
  | .ins _ fs => cldF n fs
  | .exc _ _ _ fs => cldF n fs
  | .ob k => decide (k < n)
  | _ => true
def cldL (n : Nat) : List D → Bool
  | [] => true
  | x :: xs => cld n x && cldL n xs
def cldF (n : Nat) : List (Str × D) → Bool
  | [] => true
  | (_, x) :: xs => cld n x && cldF n xs
end
def cldK (n : Nat) : List (Key × D) → Bool
  | [] => true
  | (_, x) :: xs => cld n x && cldK n xs
def cldM (n : Nat) : M → Bool
  | .lst xs => cldL n xs
  | .ins _ fs => cldF n fs
  | .dic kvs => cldK n kvs
section
variable {K : PySem.W.Frag} {Z : Hp} {as as' as1 : List Addr} {F F' F1 H H' H1 : Hp}
mutual
theorem Rep.cut {bs : List Addr} {n : Nat} (hb : ∀ (k : Nat) (a : Addr), k < n → as[k]? = some a → bs[k]? = some a) : ∀ {v : V} {d : D}, Rep K as F v d → cld n d = true → Rep K bs F v d
  | _, _, .non, _ => .non
  | _, _, .bl b, _ => .bl b
  | _, _, .int b, _ => .int b
  | _, _, .str b, _ => .str b
  | _, _, .byt b, _ => .byt b
  | _, _, .lst h r, c => .lst h (RepL.cut hb r c)
  | _, _, .tup h r, c => .tup h (RepL.cut hb r c)
  | _, _, .kt h r, c => .kt h (RepL.cut hb r c)
  | _, _, .kl h r, c => .kl h (RepL.cut hb r c)
  | _, _, .ins h r, c => .ins h (RepF.cut hb r c)
  | _, _, .val v, _ => .val v
  | _, _, .ob h, c => .ob (hb _ _ (of_decide_eq_true c) h)
  | _, _, .exc0, _ => .exc0
  | _, _, .exc h r, c => .exc h (RepF.cut hb r c)
theorem RepL.cut {bs : List Addr} {n : Nat} (hb : ∀ (k : Nat) (a : Addr), k < n → as[k]? = some a → bs[k]? = some a) : ∀ {vs : List V} {ds : List D}, RepL K as F vs ds → cldL n ds = true → RepL K bs F vs ds
  | _, _, .nil, _ => .nil
  | _, _, .cons (d := d) (ds := ds) h r, c => by
    have c : (cld n d && cldL n ds) = true := c
    rw [Bool.and_eq_true] at c
    exact .cons (Rep.cut hb h c.1) (RepL.cut hb r c.2)
theorem RepF.cut {bs : List Addr} {n : Nat} (hb : ∀ (k : Nat) (a : Addr), k < n → as[k]? = some a → bs[k]? = some a) : ∀ {vs : List (Str × V)} {ds : List (Str × D)}, RepF K as F vs ds → cldF n ds = true → RepF K bs F vs ds
  | _, _, .nil, _ => .nil
  | _, _, .cons (d := d) (ds := ds) h r, c => by
    have c : (cld n d && cldF n ds) = true := c
    rw [Bool.and_eq_true] at c
    exact .cons (Rep.cut hb h c.1) (RepF.cut hb r c.2)
end
theorem RepK.cut {bs : List Addr} {n : Nat} (hb : ∀ (k : Nat) (a : Addr), k < n → as[k]? = some a → bs[k]? = some a) : ∀ {vs : List (Key × V)} {ds : List (Key × D)}, RepK K as F vs ds → cldK n ds = true → RepK K bs F vs ds
  | _, _, .nil, _ => .nil
  | _, _, .cons (d := d) (ds := ds) h r, c => by
    have c : (cld n d && cldK n ds) = true := c
    rw [Bool.and_eq_true] at c
    exact .cons (Rep.cut hb h c.1) (RepK.cut hb r c.2)
mutual
theorem Rep.cld {v : V} : ∀ {d : D}, Rep K as F v d → cld as.length d = true
  | _, .non => rfl
  | _, .bl b => rfl
  | _, .int b => rfl
  | _, .str b => rfl
  | _, .byt b => rfl
  | _, .lst h r => RepL.cld r
  | _, .tup h r => RepL.cld r
  | _, .kt h r => RepL.cld r
  | _, .kl h r => RepL.cld r
  | _, .ins h r => RepF.cld r
  | _, .val v => rfl
  | _, .ob h => decide_eq_true (List.getElem?_eq_some_iff.mp h).1
  | _, .exc0 => rfl
  | _, .exc h r => RepF.cld r
theorem RepL.cld : ∀ {vs : List V} {ds : List D}, RepL K as F vs ds → cldL as.length ds = true
  | _, _, .nil => rfl
  | _, _, .cons (d := d) (ds := ds) h r => by
    show (DX.cld as.length d && cldL as.length ds) = true
    rw [Rep.cld h, RepL.cld r]; rfl
theorem RepF.cld : ∀ {vs : List (Str × V)} {ds : List (Str × D)}, RepF K as F vs ds → cldF as.length ds = true
  | _, _, .nil => rfl
  | _, _, .cons (d := d) (ds := ds) h r => by
    show (DX.cld as.length d && cldF as.length ds) = true
    rw [Rep.cld h, RepF.cld r]; rfl
end
theorem RepK.cld : ∀ {vs : List (Key × V)} {ds : List (Key × D)}, RepK K as F vs ds → cldK as.length ds = true
  | _, _, .nil => rfl
  | _, _, .cons (d := d) (ds := ds) h r => by
    show (DX.cld as.length d && cldK as.length ds) = true
    rw [Rep.cld h, RepK.cld r]; rfl
theorem MAt.cld {a : Addr} {m : M} (h : MAt K as F H a m) : cldM as.length m = true := by
  cases m with
  | lst ds => obtain ⟨vs, e, r⟩ := h; exact r.cld
  | ins C gs => obtain ⟨dx, fs, e, r⟩ := h; exact r.cld
  | dic kvs => obtain ⟨ks, e, r⟩ := h; exact r.cld
theorem MAt.cut {bs : List Addr} {n : Nat} (hb : ∀ (k : Nat) (a : Addr), k < n → as[k]? = Option.some a → bs[k]? = Option.some a) {a : Addr} {m : M} (h : MAt K as F H a m) (c : cldM n m = true) : MAt K bs F H a m := by
  cases m with
  | lst ds => obtain ⟨vs, e, r⟩ := h; exact ⟨vs, e, r.cut hb c⟩
  | ins C gs => obtain ⟨dx, fs, e, r⟩ := h; exact ⟨dx, fs, e, r.cut hb c⟩
  | dic kvs => obtain ⟨ks, e, r⟩ := h; exact ⟨ks, e, r.cut hb c⟩
/-- each object below n: as it was, or naming none from n on -/
def stays (n : Nat) (μ0 μ : Mem) : Prop := n ≤ μ.length ∧ ∀ (k : Nat) (m : M), k < n → μ[k]? = some m → μ0[k]? = some m ∨ cldM n m = true
/-- the frozen heap with all objects from n on in it -/
def frz (F H : Hp) (bs : List Addr) : Hp := fun a => if a ∈ bs then H a else F a
theorem frz_in {bs : List Addr} {a : Addr} (h : a ∈ bs) : frz F H bs a = H a := if_pos h
theorem frz_out {bs : List Addr} {a : Addr} (h : a ∉ bs) : frz F H bs a = F a := if_neg h
/-- what was made from n on is frozen -/
theorem Mm.freeze {μ : Mem} (M : Mm K Z as F H μ) {n : Nat} (hn : n ≤ μ.length) (hc : ∀ (k : Nat) (m : DX.M), k < n → μ[k]? = some m → cldM n m = true) :
    Mm K Z (as.take n) (frz F H (as.drop n)) H (μ.take n) ∧ Same F (frz F H (as.drop n)) := by
  have sf : Same F (frz F H (as.drop n)) := fun b o e => by
    by_cases hb : b ∈ as.drop n
    · rw [M.fr b (List.mem_of_mem_drop hb)] at e; cases e
    · rw [frz_out hb]; exact e
  have nd := M.nd
  have split : as = as.take n ++ as.drop n := (List.take_append_drop n as).symm
  have ndd : (as.take n ++ as.drop n).Nodup := by rw [← split]; exact nd
  refine ⟨⟨fun b o e => ?_, by rw [List.length_take, List.length_take, M.len], nd.sublist (List.take_sublist _ _), fun a ha => ?_, fun k m e => ?_, fun a o e => ?_⟩, sf⟩
  · by_cases hb : b ∈ as.drop n
    · rw [frz_in hb] at e; exact e
    · rw [frz_out hb] at e; exact M.same _ _ e
  · have : a ∉ as.drop n := fun h => (List.nodup_append.mp ndd).2.2 a ha a h rfl
    rw [frz_out this]
    exact M.fr a (List.mem_of_mem_take ha)
  · have hk : k < n := by
      have := (List.getElem?_eq_some_iff.mp e).1
      rw [List.length_take] at this
      omega
    rw [List.getElem?_take_of_lt hk] at e
    obtain ⟨a, ha, x⟩ := M.at_ k m e
    have ha' : (as.take n)[k]? = some a := by rw [List.getElem?_take_of_lt hk]; exact ha
    refine ⟨a, ha', ?_⟩
    have y := x.up (as' := as) (F' := frz F H (as.drop n)) (H' := H) ⟨sf, fun _ _ e => e⟩ rfl
    exact y.cut (fun k a hk h => by rw [List.getElem?_take_of_lt hk]; exact h) (hc k m hk e)
  · obtain ⟨e1, e2, e3⟩ := M.hid a o e
    exact ⟨e1, by rw [frz_out fun h => e3 (List.mem_of_mem_drop h)]; exact e2, fun h => e3 (List.mem_of_mem_take h)⟩
/-- data with the objects from n on told by their content -/
def fz (μ : Mem) (n : Nat) : Nat → D → D
  | 0, d => d
  | f + 1, .ob k => if k < n then .ob k else match μ[k]? with
    | some (.lst ds) => .lst (ds.map (fz μ n f))
    | some (.ins C fs) => .ins C (fs.map fun p => (p.1, fz μ n f p.2))
    | _ => .ob k
  | f + 1, .lst ds => .lst (ds.map (fz μ n f))
  | f + 1, .tup ds => .tup (ds.map (fz μ n f))
  | _ + 1, d => d
theorem fz_rep {μ : Mem} (M : Mm K Z as F H μ) {n : Nat} (sf : Same F (frz F H (as.drop n))) : ∀ (f : Nat) {v : V} {d : D}, Rep K as F v d → Rep K as (frz F H (as.drop n)) v (fz μ n f d)
  | 0, v, d, r => r.up ⟨sf, fun _ _ e => e⟩
  | f + 1, v, d, r => by
    have up : Gr as F as (frz F H (as.drop n)) := ⟨sf, fun _ _ e => e⟩
    have all : ∀ {vs : List V} {ds : List D}, RepL K as F vs ds → RepL K as (frz F H (as.drop n)) vs (ds.map (fz μ n f)) := fun {vs ds} r => by
      induction ds generalizing vs with
      | nil => cases r; exact .nil
      | cons d ds ih => cases r with | cons h t => exact .cons (fz_rep M sf f h) (ih t)
    have allF : ∀ {vs : List (Str × V)} {ds : List (Str × D)}, RepF K as F vs ds → RepF K as (frz F H (as.drop n)) vs (ds.map fun p => (p.1, fz μ n f p.2)) := fun {vs ds} r => by
      induction ds generalizing vs with
      | nil => cases r; exact .nil
      | cons d ds ih => cases r with | cons h t => exact .cons (fz_rep M sf f h) (ih t)
    cases r with
    | lst e r => exact .lst (sf _ _ e) (all r)
    | tup e r => exact .tup (sf _ _ e) (all r)
    | ob q =>
      rename_i k a
      show Rep K as (frz F H (as.drop n)) (.ref a) (if k < n then .ob k else match μ[k]? with
        | some (.lst ds) => .lst (ds.map (fz μ n f))
        | some (.ins C fs) => .ins C (fs.map fun p => (p.1, fz μ n f p.2))
        | _ => .ob k)
      by_cases hk : k < n
      · rw [if_pos hk]; exact .ob q
      · rw [if_neg hk]
        have hin : a ∈ as.drop n := by
          refine List.mem_of_getElem? (i := k - n) ?_
          rw [List.getElem?_drop]
          rw [show n + (k - n) = k by omega]
          exact q
        cases z : μ[k]? with
        | none => exact .ob q
        | some m =>
          obtain ⟨b, hb, y⟩ := M.at_ k m z
          obtain rfl := Option.some.inj (q.symm.trans hb)
          cases m with
          | lst ds => obtain ⟨vs, e1, e2⟩ := y; exact .lst (by rw [frz_in hin]; exact e1) (all e2)
          | ins C fs => obtain ⟨dx, vs, e1, e2⟩ := y; exact .ins (by rw [frz_in hin]; exact e1) (allF e2)
          | dic kv => exact .ob q
    | non => exact .non
    | bl b => exact .bl b
    | int b => exact .int b
    | str b => exact .str b
    | byt b => exact .byt b
    | kl e r => exact Rep.up up (.kl e r)
    | kt e r => exact Rep.up up (.kt e r)
    | ins e r => exact Rep.up up (.ins e r)
    | val v => exact .val v
    | exc0 => exact .exc0
    | exc e r => exact Rep.up up (.exc e r)
end
end DX
set_option Elab.async false
set_option linter.all false
set_option maxRecDepth 100000
set_option maxHeartbeats 2000000
/-! own operators, static methods, an own class called with a star -/
namespace Vx
open PySem PySem.Spec PyProof.Rows L2
section
variable {P : Program} {w : World} {K : PySem.W.Frag} {mg : Str → Option Value} {base : Heap} {CX : CXT} {k : Nat} {f : Addr} {fd : FuncData} {ps : List Str} {sp : Sp}
theorem fnR (F : FnOk P w K mg base CX k f fd ps sp) (hb : L2.Binds K fd ps []) : FnR P w K mg base CX k f sp := by
  intro A outer s H us vs Q E hr e0 r hsp
  have hl := F.len _ _ _ _ hsp
  have KX : K.In s.heap := e0.mod.kin.keeps fun b o e => (e0.bs b o e).1
  refine F.run A outer s H ⟨us, []⟩ us vs Q E hr e0 ?_ r hsp
  have := hb s us KX (by rw [List.append_nil, ← r.length]; exact hl)
  simpa using this
end
section
variable {X : Cx} {CX : CXT} {k : Nat} {C f : Addr} {sp : Sp} {E : XK} {pins : List (Addr × Obj)} {σ : L2.St} {H : Hp} {s : Shared} {Q : VK}
theorem cmpBack_of {v : Value} {s' : Shared} (h : EP X pins σ Q v s') : PySem.W.CmpBack (EP X pins σ Q) v s' := by
  cases v with
  | notImplemented =>
    obtain ⟨v', H', I', r, q⟩ := h
    cases v' with
    | int i => obtain ⟨t, e⟩ := r; cases e
    | str i => obtain ⟨t, e⟩ := r; cases e
    | byt i => obtain ⟨t, e⟩ := r; cases e
    | flt i => obtain ⟨t, e⟩ := r; cases e
    | non => cases r
    | bl b => cases r
    | ref a => cases r
    | ty n => cases r
  | _ => exact h
theorem call_cmp {us : List Value} {vs : List V} (F : FnR X.prog X.w X.K X.mg X.base CX k f sp) (hr : Room k X.A) (hx : Passes CX X E) (I : L2.Inv X pins σ H s) (r : Vals vs us) (h : sp vs H Q E) :
    wpAny (model X.prog X.w) X.A (call (.ref f) us) (PySem.W.CmpBack (EP X pins σ Q)) X.xe s :=
  wpAny_mono (wpAny_call (run_fnR F hr hx I r h)) (fun _ _ z => cmpBack_of z) fun _ _ z => z
/-- o op y by the own method of o's class; y of the same class, or an int -/
def rOwn (C : Addr) (sp : Sp) (E : XK) : R2 := fun x y H Q => (∃ a dx fs, x = .ref a ∧ H a = some (.ins C dx fs)) ∧ ((∃ b dy gs, y = .ref b ∧ H b = some (.ins C dy gs)) ∨ ∃ i, y = .int i) ∧ sp [x, y] H Q E
/-- what the text says of an operator of the class at C -/
structure OpF (K : PySem.W.Frag) (C f : Addr) (op : Operator) : Prop where
  sf : PySem.W.selfFirst K C = true
  at_ : PySem.W.findIn K (.ref C) (PySem.dunder op.info.2) = some (some (.ref f))
  fn : PySem.W.isFn K (.ref f) = true
  rf : ∃ rc, PySem.W.findIn K (.ref C) (PySem.dunderR op.info.2) = some rc ∧ (rc = none ∨ ∃ g : Addr, rc = some (.ref g))
  i1 : ∃ fo, PySem.W.findIn K (.type "int") (PySem.dunder op.info.2) = some fo
  i2 : ∃ ro, PySem.W.findIn K (.type "int") (PySem.dunderR op.info.2) = some ro
  sub : PySem.W.subIn K (.type "int") (.ref C) = some false
theorem op_own {op : Operator} (O : OpF X.K C f op) (F : FnR X.prog X.w X.K X.mg X.base CX k f sp) (hr : Room k X.A) (hx : Passes CX X E) : OpR X (binaryOp op) (rOwn C sp E) := by
  intro pins s σ H x y v u Q I rx ry hq
  obtain ⟨⟨a, dx, fs, rfl, ha⟩, hy, hsp⟩ := hq
  have ev : v = Value.ref a := rx
  have cl := call_cmp F hr hx I (us := [v, u]) (vs := [V.ref a, y]) (.cons rx (.cons ry .nil)) hsp
  subst ev
  obtain ⟨mA, J, _⟩ := ins_get I.hok ha
  obtain ⟨od, J, _⟩ := J.look
  obtain ⟨m, hF⟩ := I.fr
  rcases hy with ⟨b, dy, gs, rfl, hb⟩ | ⟨i, rfl⟩
  · have eu : u = Value.ref b := ry
    subst eu
    obtain ⟨mB, J', _⟩ := ins_get I.hok hb
    obtain ⟨od', J', _⟩ := J'.look
    exact PySem.W.binop_K hF I.ok.mod.kin J J'.type O.sf O.at_ O.fn cl
  · obtain ⟨t, rfl⟩ := ry
    obtain ⟨rc, r1, r2⟩ := O.rf
    obtain ⟨fo, i1⟩ := O.i1
    obtain ⟨ro, i2⟩ := O.i2
    exact PySem.W.ksp_binT (T := "int") hF I.ok.mod.kin J rfl O.sf O.at_ O.fn r1 r2 i1 i2 O.sub cl
/-- o cmp y by the own method, y of the same class -/
def rCmp (C : Addr) (sp : Sp) (E : XK) : R2 := fun x y H Q => (∃ a dx fs, x = .ref a ∧ H a = some (.ins C dx fs)) ∧ (∃ b dy gs, y = .ref b ∧ H b = some (.ins C dy gs)) ∧ sp [x, y] H Q E
theorem op_cmpOwn {op : CmpOp} (hc : ∀ v u, compareOp op v u = richCompare op v u) (nf : PySem.W.notFirst X.K C (.ref C) = true) (at_ : PySem.W.findIn X.K (.ref C) (cmpInfo op).2.1 = some (some (.ref f))) (fn : PySem.W.isFn X.K (.ref f) = true)
    (F : FnR X.prog X.w X.K X.mg X.base CX k f sp) (hr : Room k X.A) (hx : Passes CX X E) : OpR X (compareOp op) (rCmp C sp E) := by
  intro pins s σ H x y v u Q I rx ry hq
  obtain ⟨⟨a, dx, fs, rfl, ha⟩, ⟨b, dy, gs, rfl, hb⟩, hsp⟩ := hq
  have ev : v = Value.ref a := rx
  have eu : u = Value.ref b := ry
  have cl := call_cmp F hr hx I (us := [v, u]) (vs := [V.ref a, V.ref b]) (.cons rx (.cons ry .nil)) hsp
  subst ev eu
  obtain ⟨mA, J, _⟩ := ins_get I.hok ha
  obtain ⟨od, J, _⟩ := J.look
  obtain ⟨mB, J', _⟩ := ins_get I.hok hb
  obtain ⟨od', J', _⟩ := J'.look
  obtain ⟨m, hF⟩ := I.fr
  rw [hc]
  exact PySem.W.cmp_K hr.units0 hF I.ok.mod.kin J J'.type nf at_ fn cl
/-- x in o by the own method -/
def rInOwn (C : Addr) (sp : Sp) (E : XK) (neg : Bool) : R2 := fun x y H Q => (∃ a dx fs, y = .ref a ∧ H a = some (.ins C dx fs)) ∧ sp [y, x] H (fun v H' => ∃ b, v = .bl b ∧ Q (.bl (if neg then !b else b)) H') E
theorem op_inOwn (at_ : PySem.W.findIn X.K (.ref C) "__contains__" = some (some (.ref f))) (fn : PySem.W.isFn X.K (.ref f) = true)
    (F : FnR X.prog X.w X.K X.mg X.base CX k f sp) (hr : Room k X.A) (hx : Passes CX X E) : OpR X (compareOp .In) (rInOwn C sp E false) := by
  intro pins s σ H x y v u Q I rx ry hq
  obtain ⟨⟨a, dx, fs, rfl, ha⟩, hsp⟩ := hq
  have eu : u = Value.ref a := ry
  have cl := wpAny_call (run_fnR (us := [u, v]) (vs := [V.ref a, x]) F hr hx I (.cons ry (.cons rx .nil)) hsp)
  subst eu
  obtain ⟨mA, J, _⟩ := ins_get I.hok ha
  obtain ⟨od, J, _⟩ := J.look
  obtain ⟨m, hF⟩ := I.fr
  refine PySem.W.in_K hF I.ok.mod.kin J at_ fn (wpAny_mono cl (fun r s' z => ?_) fun _ _ z => z)
  obtain ⟨v', H', I', rv, b, rfl, q⟩ := z
  have er : r = Value.bool b := rv
  subst er
  exact wpAny_truthy_bool ⟨.bl b, H', I', rfl, q⟩
end
/-! static methods -/
structure SMet (K : PySem.W.Frag) (C : Addr) (mc : Value) (m : Str) (p g : Addr) : Prop where
  at_ : PySem.W.findCls K (.ref C) mc m = some (.get (.builtin "staticmethod.__get__") (.ref p) .none (.ref C))
  rc : ∃ rest, PySem.W.recIn K p "staticmethod" = some (.ref g :: rest)
  kp : PySem.W.keepIn K (.ref g) = true
def tSMeth (C : Addr) (sp : Sp) (E : XK) (ta : TE) (t : TA) : TE := fun σ H Q => ta σ H fun x H1 => x = .ref C ∧ t σ H1 fun vs H2 => sp vs H2 Q E
section
variable {X : Cx} {CX : CXT} {k : Nat} {C p g : Addr} {mc : Value} {sp : Sp} {E : XK} {o e : Expr} {es : List Expr} {m : Str} {pos apos : Pos} {ta : TE} {t : TA} {pl : Sem Bool}
theorem pe_smeth (he : PE X o ta) (r : ClX.CRead X.K C mc) (c : SMet X.K C mc m p g) (F : FnR X.prog X.w X.K X.mg X.base CX k g sp) (hr : Room k X.A) (hx : Passes CX X E) (ha : PA X (e :: es) t)
    (hst : starEach (e :: es) X.env = (false, eval e X.env) :: starEach es X.env := by rfl) (hpl : (backTo pos (starEach es X.env)).any (·.1) = false := by rfl)
    (ht : eval (.Call (.Attribute o m apos) (e :: es) [] pos) X.env = (do
      let ov ← eval o X.env
      standAt apos.atName
      let (f, first) ← holding [ov] (getMethod ov m pl)
      callWith pos f first (backTo pos (starEach (e :: es) X.env)) (backToKw pos (keywordEach [] X.env))) := by rfl) :
    PE X (.Call (.Attribute o m apos) (e :: es) [] pos) (tSMeth C sp E ta t) := by
  refine ⟨fun pins s σ H Q I h => ?_⟩
  refine PySem.W.methodCall_KW (pl := pl) (thn (he.run pins s σ H _ I h) fun u s1 ⟨x, H1, I1, rx, ex, q⟩ => ?_) ht
  subst ex
  obtain rfl : u = Value.ref C := rx
  obtain ⟨rest, hp⟩ := c.rc
  refine PySem.W.method_cls I1.kIn r.ga (PySem.W.cls_bind I1.kIn r.rd c.at_ (wpAny_call (PySem.W.sm_get (s := { s1 with toks := s1.toks + 1 }) I1.kIn hp (PySem.W.handed_on rfl ?_))))
  have I2 : L2.Inv X pins σ H1 { s1 with toks := s1.toks + 1 } := I1.tok _
  refine PySem.W.callWith_K (h₀ := X.base) I2.ok.mod.kin c.kp (thn (ha.run pos pins _ σ H1 _ I2 q) fun us s3 ⟨vs, H2, I3, rv, q2⟩ => ⟨I3.kIn, ?_⟩) hst hpl
  exact wpAny_call (run_fnR F hr hx I3 rv q2)
end
/-! C(*xs) -/
section
variable {X : Cx} {CX : CXT} {k : Nat} {f C : Addr} {sp : Sp} {E : XK} {x : Str} {e : Expr} {te : TE} {p pos sp_ : Pos}
def tMakeS (K : PySem.W.Frag) (C : Addr) (sp : Sp) (E : XK) (te : TE) : TE := fun σ H Q => te σ H fun y H1 => ∃ a xs, y = V.ref a ∧ (SqT K H1 a xs ∨ SqL K H1 a xs) ∧ ∀ x dx, H1 x = Option.none → H1 dx = Option.none → dx ≠ x →
  sp (V.ref x :: xs) (upd (upd H1 dx (.own x)) x (.ins C dx [])) (fun v H2 => v = .non ∧ Q (.ref x) H2) E
theorem pe_makeS (M : Mk X.K C f) (F : FnR X.prog X.w X.K X.mg X.base CX k f sp) (hr : Room (k + 1) X.A) (hg : Gl X x) (hm : X.mg x = some (.ref C)) (hx : Passes CX X E) (he : PE X e te) (hd : (x == ("__debug__" : Str)) = false := by decide)
    (hst : starEach [.Starred e sp_] X.env = [(true, eval e X.env)] := by rfl) :
    PE X (.Call (.Name x p) [.Starred e sp_] [] pos) (tMakeS X.K C sp E te) := by
  refine ⟨fun pins s σ H Q I h => ?_⟩
  refine wpAny_Call_Name_kw (ld_glob I hg hm ?_ hd)
  refine PySem.W.callWith_S (h₀ := X.base) I.ok.mod.kin M.kp (thn (he.run pins s σ H _ I h) fun v s1 ⟨y, H1, I1, ry, a, xs, ey, hxs, q⟩ => ?_) hst
  subst ey
  obtain rfl : v = Value.ref a := ry
  exact StX.star_any I1 hxs fun us s2 I2 rv => ⟨I2.kIn, StX.run_makeR M F hr hx I2 rv q⟩
def tMakeZ (C : Addr) (sp : Sp) (E : XK) : TE := fun _ H Q => ∀ x dx, H x = Option.none → H dx = Option.none → dx ≠ x →
  sp [V.ref x] (upd (upd H dx (.own x)) x (.ins C dx [])) (fun v H2 => v = .non ∧ Q (.ref x) H2) E
end
end Vx
set_option Elab.async false
set_option linter.all false
set_option maxRecDepth 100000
set_option maxHeartbeats 2000000
/-! own errors: a base's __init__ said by the base's name; isinstance of what was caught; makings that may raise, within a try -/
namespace Vx
open PySem PySem.Spec PyProof.Rows L2
/-- the class at D, above an own error, whose __init__ is ValueError's -/
structure UpC (K : PySem.W.Frag) (D : Addr) (mc : Value) : Prop where
  rd : ClX.CRead K D mc
  ini : PySem.W.findCls K (.ref D) mc "__init__" = some (.val (.builtin "ValueError.__init__"))
def tUp (K : PySem.W.Frag) (D : Addr) (ta : TE) (t : TA) : TE := fun σ H Q => ta σ H fun x H1 => x = .ref D ∧ tVeI K t σ H1 Q
section
variable {X : Cx} {D : Addr} {mc : Value} {o e : Expr} {es : List Expr} {pos apos : Pos} {ta : TE} {t : TA} {pl : Sem Bool}
theorem pe_up (hO : PE X o ta) (U : UpC X.K D mc) (hA : PA X (e :: es) t) (h1 : starEach (e :: es) X.env = (false, eval e X.env) :: starEach es X.env := by rfl) (h2 : (backTo pos (starEach es X.env)).any (·.1) = false := by rfl)
    (hW : eval (.Call (.Attribute o "__init__" apos) (e :: es) [] pos) X.env = (do
      let ov ← eval o X.env
      standAt apos.atName
      let (f, first) ← holding [ov] (getMethod ov "__init__" pl)
      callWith pos f first (backTo pos (starEach (e :: es) X.env)) (backToKw pos (keywordEach [] X.env))) := by rfl) : PE X (.Call (.Attribute o "__init__" apos) (e :: es) [] pos) (tUp X.K D ta t) := by
  refine ⟨fun pn s σ H Q I h => PySem.W.methodCall_KW (pl := pl) (thn (hO.run pn s σ H _ I h) fun u s1 hh => ?_) hW⟩
  obtain ⟨x, H1, I1, rx, ex, q⟩ := hh
  subst ex
  obtain rfl : u = Value.ref D := rx
  refine PySem.W.method_cls I1.kIn U.rd.ga (PySem.W.cls_value I1.kIn U.rd.rd U.ini rfl ?_)
  refine PyProof.Rows.callWith_method1 (thn (hA.run pos pn _ σ H1 _ (I1.tok _) q) fun us s2 hh => ?_) h1 h2
  obtain ⟨vs, H2, I2, r2, a, C, ws, ev, hl, T, ea, q2⟩ := hh
  subst ev
  cases r2 with
  | @cons _ u0 _ ur ra rb =>
    obtain rfl : u0 = Value.ref a := ra
    exact oinit_ok T I2 ea (by rw [← Paired.length rb, sizeLine_eq]; omega) fun s3 J => ⟨.non, H2, J, rfl, q2⟩
end
/-! isinstance(e, c), e a caught error with its dict -/
structure ExcX (K : PySem.W.Frag) (C : Addr) : Prop where
  cl : (PySem.W.clsIn K C).isSome = true
  ga : PySem.W.findIn K (.ref C) "__getattribute__" = some (some (.builtin "BaseException.__getattribute__"))
  gt : PySem.W.findIn K (.ref C) "__getattr__" = some none
  sb : PySem.W.subIn K (.ref C) (.type "BaseException") = some true
  ac : PySem.W.findIn K (.ref C) "__class__" = some (some (.builtin "object.__class__"))
  gn : PySem.W.specialIn K (.builtin "object.__class__") "__get__" = some (some (.builtin "getset_descriptor.__get__"))
  tk : PySem.W.takesIn K (.builtin "object.__class__") = some true
  mo : PySem.W.mroIn K C (.type "object") = some true
def rIsX (K : PySem.W.Frag) (C a : Addr) (cls : Value) (d : Option Addr) : List V → Hp → VK → Prop := fun xs H Q => cls = .ref C ∧ ∃ (dd : Addr) (fs : List (Str × V)) (c : V) (cv : Value) (b : Bool), d = some dd ∧ H dd = some (.xd fs) ∧ xs = [.ref a, c] ∧ (∀ u, RelV c u → u = cv) ∧ PySem.W.kitOne K (.ref C) cv = some b ∧ Q (.bl b) H
theorem call_isX {X : Cx} {a C : Addr} {oe : Obj} {cls : Value} {d : Option Addr} {pn : List (Addr × Obj)} (T : ExcX X.K C) (hz : Zc cls d oe) (hf : ∃ vs, oe.data = .fields vs) : CallR (X.suite a ((a, oe) :: pn)) (.builtin "isinstance") (rIsX X.K C a cls d) := by
  intro pins s σ H xs us Q I r h
  obtain ⟨ec, dd, fs, c, cv, b, ed, hd, ex, hcv, e, q⟩ := h
  subst ec ed ex
  cases r with
  | cons rx rr =>
    cases rr with
    | cons rt rn =>
      cases rn
      cases rx
      obtain rfl := hcv _ rt
      obtain ⟨hget, _⟩ := I.pin (a, oe) (List.mem_append.mpr (.inl List.mem_cons_self))
      obtain ⟨vs, hv⟩ := hf
      have hx : ObjOk X.prog X.w H s.heap dd (.xd fs) := I.hok dd _ hd
      obtain ⟨mA, hns, _⟩ := hx
      obtain ⟨od, ho, _⟩ := lookIn_ns hns
      have J : PySem.W.InstAt s.heap a oe C (some od) := ⟨hget, hz.1, by unfold PySem.W.notCls; rw [hv] <;> rfl, by rw [hz.2]; exact ho⟩
      exact PySem.W.kia_one (PySem.W.kitx_exc T.cl T.ga T.gt T.sb T.ac T.gn T.tk T.mo) I.kIn J e (fun z => nomatch z) fun tk => ⟨.bl b, H, I.kept (t' := tk) fun _ _ z => z, rfl, q⟩
/-! makings and static calls that may raise, the wish at the caller's slots -/
section
variable {X : Cx} {CX : CXT} {k n : Nat} {f C : Addr} {fd : FuncData} {ps ks : List Str} {sp : Sp} {E : L2.St → XK} {x : Str} {p pos : Pos} {e : Expr} {es : List Expr} {kws : List Keyword} {t tk : TA} {g : List Value → List Value → List Value} {gV : List V → List V → List V}
def tMakeNS (C : Addr) (n m : Nat) (sp : Sp) (gV : List V → List V → List V) (E : L2.St → XK) (t tk : TA) : TE := fun σ H Q => t σ H fun vs H1 => tk σ H1 fun zs H2 => vs.length = n ∧ zs.length = m ∧
  ∀ y dy, H2 y = none → H2 dy = none → dy ≠ y → sp (gV (.ref y :: vs) zs) (upd (upd H2 dy (.own y)) y (.ins C dy [])) (fun v H3 => v = .non ∧ Q (.ref y) H3) (E σ)
theorem run_makeNS {pn : List (Addr × Obj)} {σ : L2.St} {H : Hp} {s : Shared} {Q : VK} {us ws : List Value} {vs zs : List V} (M : Mk X.K C f) (F : FnOk X.prog X.w X.K X.mg X.base CX k f fd ps sp) (hr : Room (k + 1) X.A) (hb : KBn X.K fd ps (n + 1) ks g gV)
    (hx : PassesAt CX X σ (E σ)) (I : L2.Inv X pn σ H s) (ru : Vals vs us) (rw_ : Vals zs ws) (e1 : vs.length = n) (e2 : zs.length = ks.length)
    (h : ∀ y dy, H y = none → H dy = none → dy ≠ y → sp (gV (.ref y :: vs) zs) (upd (upd H dy (.own y)) y (.ins C dy [])) (fun v H3 => v = .non ∧ Q (.ref y) H3) (E σ)) : wpAny (model X.prog X.w) X.A (call (.ref C) us (ks.zip ws)) (EP X pn σ Q) X.xe s := by
  have J : L2.Inv X pn σ _ _ := L2.Inv.made (C := C) I
  have r1 : Vals (V.ref (s.heap.objs.size + 1) :: vs) (Value.ref (s.heap.objs.size + 1) :: us) := Paired.cons rfl ru
  have z1 : (Value.ref (s.heap.objs.size + 1) :: us).length = n + 1 := r1.length.symm.trans (congrArg (· + 1) e1)
  have z2 : ws.length = ks.length := rw_.length.symm.trans e2
  have hq := h (s.heap.objs.size + 1) s.heap.objs.size (I.hok.fresh (Nat.le_succ _)) (I.hok.fresh Nat.le.refl) (Nat.ne_of_lt (Nat.lt_succ_self _))
  have run := F.run _ X.stack _ _ ⟨Value.ref (s.heap.objs.size + 1) :: us, ks.zip ws⟩ (g (Value.ref (s.heap.objs.size + 1) :: us) ws) _ _ (E σ) (hr.make C us (ks.zip ws)) (J.env0.make C us (ks.zip ws)) (hb.to _ _ ws J.kIn z1 z2) (hb.rel r1 rw_) hq
  refine wpAny_call (make_map (f := f) I.kIn M.makes M.init (beq_iff_eq.mp M.fn) (codeAny_mono run fun r s2 z => ?_))
  match r, z with
  | .error er, z => exact hx pn _ _ er s2 J z
  | .ok (.ret u), z =>
    obtain ⟨v, H3, J3, rv, ev, q⟩ := J.after z
    subst ev
    exact ⟨rv, .ref (s.heap.objs.size + 1), H3, J3, rfl, q⟩
theorem pe_makeNS (M : Mk X.K C f) (F : FnOk X.prog X.w X.K X.mg X.base CX k f fd ps sp) (hr : Room (k + 1) X.A) (hg : Gl X x) (hm : X.mg x = some (.ref C)) (hb : KBn X.K fd ps (n + 1) ks g gV) (hx : ∀ σ, PassesAt CX X σ (E σ)) (hA : PA X (e :: es) t) (hK : PK X kws tk)
    (h1 : (backToKw pos (keywordEach kws X.env)).all (·.1.isSome) = true := by rfl) (h2 : (backToKw pos (keywordEach kws X.env)).filterMap (·.1) = ks := by rfl) (h3 : (x == ("__debug__" : Str)) = false := by decide)
    (h4 : starEach (e :: es) X.env = (false, eval e X.env) :: starEach es X.env := by rfl) (h5 : ((backTo pos (starEach (e :: es) X.env)).any (·.1) || (backToKw pos (keywordEach kws X.env)).any (·.1.isNone)) = false := by rfl) :
    PE X (.Call (.Name x p) (e :: es) kws pos) (tMakeNS C n ks.length sp gV E t tk) := by
  refine ⟨fun pn s σ H Q I h => wpAny_Call_Name_kw (ld_glob I hg hm ?_ h3)⟩
  refine PySem.W.callWith_KW (h₀ := X.base) I.ok.mod.kin M.kp h1 (thn (hA.run pos pn s σ H _ I h) fun us s1 hh => ?_) h5 h4
  obtain ⟨vs, H1, I1, r1, q⟩ := hh
  refine thn (hK.run pos pn s1 σ H1 _ I1 q) fun ws s2 hh => ?_
  obtain ⟨zs, H2, I2, r2, l1, l2, q2⟩ := hh
  refine ⟨I2.kIn, ?_⟩
  rw [h2]
  exact run_makeNS M F hr hb (hx σ) I2 r1 r2 l1 l2 q2
end
section
variable {X : Cx} {CX : CXT} {k : Nat} {f C : Addr} {sp : Sp} {E : L2.St → XK}
theorem run_fnRS {pn : List (Addr × Obj)} {σ : L2.St} {H : Hp} {s : Shared} {Q : VK} {us : List Value} {vs : List V} (F : FnR X.prog X.w X.K X.mg X.base CX k f sp) (hr : Room k X.A) (hx : PassesAt CX X σ (E σ)) (I : L2.Inv X pn σ H s) (r : Vals vs us) (h : sp vs H Q (E σ)) :
    wpAny (model X.prog X.w) X.A (call (.ref f) us) (EP X pn σ Q) X.xe s := by
  refine wpAny_call (codeAny_mono (F X.A X.stack s H us vs Q (E σ) hr I.env0 r h) fun z s2 y => ?_)
  match z, y with
  | .error er, y => exact hx pn H s er s2 I y
  | .ok (.ret u), y => exact I.after y
theorem run_makeRS {pn : List (Addr × Obj)} {σ : L2.St} {H : Hp} {s : Shared} {Q : VK} {us : List Value} {vs : List V} (M : Mk X.K C f) (F : FnR X.prog X.w X.K X.mg X.base CX k f sp) (hr : Room (k + 1) X.A) (hx : PassesAt CX X σ (E σ)) (I : L2.Inv X pn σ H s) (r : Vals vs us)
    (h : ∀ y dy, H y = Option.none → H dy = Option.none → dy ≠ y → sp (V.ref y :: vs) (upd (upd H dy (.own y)) y (.ins C dy [])) (fun v H2 => v = .non ∧ Q (.ref y) H2) (E σ)) : wpAny (model X.prog X.w) X.A (call (.ref C) us) (EP X pn σ Q) X.xe s := by
  have J : L2.Inv X pn σ _ _ := L2.Inv.made (C := C) I
  have r1 : Vals (V.ref (s.heap.objs.size + 1) :: vs) (Value.ref (s.heap.objs.size + 1) :: us) := Paired.cons rfl r
  have hq := h (s.heap.objs.size + 1) s.heap.objs.size (I.hok.fresh (Nat.le_succ _)) (I.hok.fresh Nat.le.refl) (Nat.ne_of_lt (Nat.lt_succ_self _))
  refine wpAny_call (make_map (f := f) I.kIn M.makes M.init (beq_iff_eq.mp M.fn) (codeAny_mono (F _ X.stack _ _ (Value.ref (s.heap.objs.size + 1) :: us) _ _ (E σ) (hr.make C us []) (J.env0.make C us []) r1 hq) fun z s2 y => ?_))
  match z, y with
  | .error er, y => exact hx pn _ _ er s2 J y
  | .ok (.ret u), y =>
    obtain ⟨v, H3, J3, rv, ev, q⟩ := J.after y
    subst ev
    exact ⟨rv, .ref (s.heap.objs.size + 1), H3, J3, rfl, q⟩
def tMethE (C : Addr) (m : Str) (sp : Sp) (E : L2.St → XK) (ta : TE) (t : TA) : TE := fun σ H Q => ta σ H fun x H1 => ∃ a dx fs, x = .ref a ∧ H1 a = some (.ins C dx fs) ∧ fs.lookup m = Option.none ∧ t σ H1 fun vs H2 => sp (.ref a :: vs) H2 Q (E σ)
theorem pe_methE {o e : Expr} {es : List Expr} {m : Str} {pos apos : Pos} {ta : TE} {t : TA} {pl : Sem Bool} (hO : PE X o ta) (c : Cls X.K C) (hm : Meth X.K C m f) (F : FnR X.prog X.w X.K X.mg X.base CX k f sp) (hr : Room k X.A) (hx : ∀ σ, PassesAt CX X σ (E σ)) (hA : PA X (e :: es) t)
    (h1 : starEach (e :: es) X.env = (false, eval e X.env) :: starEach es X.env := by rfl) (h2 : (backTo pos (starEach es X.env)).any (·.1) = false := by rfl)
    (hW : eval (.Call (.Attribute o m apos) (e :: es) [] pos) X.env = (do
      let ov ← eval o X.env
      standAt apos.atName
      let (f, first) ← holding [ov] (getMethod ov m pl)
      callWith pos f first (backTo pos (starEach (e :: es) X.env)) (backToKw pos (keywordEach [] X.env))) := by rfl) : PE X (.Call (.Attribute o m apos) (e :: es) [] pos) (tMethE C m sp E ta t) := by
  refine ⟨fun pn s σ H Q I h => PySem.W.methodCall_KW (pl := pl) (thn (hO.run pn s σ H _ I h) fun u s1 hh => ?_) hW⟩
  obtain ⟨x, H1, I1, rx, a, dx, fs, ex, ea, l, q⟩ := hh
  subst ex
  obtain rfl : u = Value.ref a := rx
  refine getmeth_ok I1 ea c hm l (PySem.W.callWith_K (first := [.ref a]) (h₀ := X.base) I.ok.mod.kin hm.kp (thn (hA.run pos pn s1 σ H1 _ I1 q) fun us s2 hh => ?_) h1 h2)
  obtain ⟨vs, H2, I2, r, q2⟩ := hh
  exact ⟨I2.kIn, run_fnRS (us := .ref a :: us) (vs := .ref a :: vs) F hr (hx σ) I2 (.cons rfl r) q2⟩
def tSMethE (C : Addr) (sp : Sp) (E : L2.St → XK) (ta : TE) (t : TA) : TE := fun σ H Q => ta σ H fun x H1 => x = .ref C ∧ t σ H1 fun vs H2 => sp vs H2 Q (E σ)
theorem pe_smethE {o e : Expr} {es : List Expr} {m : Str} {g q : Addr} {mc : Value} {pos apos : Pos} {ta : TE} {t : TA} {pl : Sem Bool} (hO : PE X o ta) (cr : ClX.CRead X.K C mc) (c : SMet X.K C mc m q g) (F : FnR X.prog X.w X.K X.mg X.base CX k g sp) (hr : Room k X.A) (hx : ∀ σ, PassesAt CX X σ (E σ)) (hA : PA X (e :: es) t)
    (h1 : starEach (e :: es) X.env = (false, eval e X.env) :: starEach es X.env := by rfl) (h2 : (backTo pos (starEach es X.env)).any (·.1) = false := by rfl)
    (hW : eval (.Call (.Attribute o m apos) (e :: es) [] pos) X.env = (do
      let ov ← eval o X.env
      standAt apos.atName
      let (f, first) ← holding [ov] (getMethod ov m pl)
      callWith pos f first (backTo pos (starEach (e :: es) X.env)) (backToKw pos (keywordEach [] X.env))) := by rfl) : PE X (.Call (.Attribute o m apos) (e :: es) [] pos) (tSMethE C sp E ta t) := by
  refine ⟨fun pn s σ H Q I h => PySem.W.methodCall_KW (pl := pl) (thn (hO.run pn s σ H _ I h) fun u s1 hh => ?_) hW⟩
  obtain ⟨x, H1, I1, rx, ex, y⟩ := hh
  subst ex
  obtain rfl : u = Value.ref C := rx
  obtain ⟨rest, hp⟩ := c.rc
  refine PySem.W.method_cls I1.kIn cr.ga (PySem.W.cls_bind I1.kIn cr.rd c.at_ (wpAny_call (PySem.W.sm_get (s := { s1 with toks := s1.toks + 1 }) I1.kIn hp (PySem.W.handed_on rfl ?_))))
  have I2 : L2.Inv X pn σ H1 { s1 with toks := s1.toks + 1 } := I1.tok _
  refine PySem.W.callWith_K (h₀ := X.base) I2.ok.mod.kin c.kp (thn (hA.run pos pn _ σ H1 _ I2 y) fun us s3 hh => ?_) h1 h2
  obtain ⟨vs, H2, I3, rv, q2⟩ := hh
  exact ⟨I3.kIn, run_fnRS F hr (hx σ) I3 rv q2⟩
end
end Vx
set_option Elab.async false
set_option linter.all false
set_option maxRecDepth 100000
set_option maxHeartbeats 4000000
namespace DX
open PySem PySem.Spec PyProof.Rows L2
/-! ### defs of one's own, by data -/
abbrev DSp := List D → Mem → (D → Mem → Prop) → (Addr → List (Str × D) → Mem → Prop) → Prop
def toSp (K : PySem.W.Frag) (S : DSp) : Sp := fun vs H Q' E' => ∃ Z as F ds μ Q E, RepL K as F vs ds ∧ Mm K Z as F H μ ∧ S ds μ Q E ∧
  (∀ v d μ' as' F' H', Gr as F as' F' → Mm K Z as' F' H' μ' → Rep K as' F' v d → Q d μ' → Q' v H') ∧
  (∀ C gs dx μ' as' F' H', Gr as F as' F' → Mm K Z as' F' H' μ' → ExcR K as' F' dx gs → E C gs μ' → E' (.ref C) dx H')
/-- the def at f keeps S (where no repr is under way) -/
abbrev FnD (P : Program) (w : World) (K : PySem.W.Frag) (mg : Str → Option Value) (base : Heap) (k : Nat) (f : Addr) (S : DSp) : Prop := Gd.FnG P w K mg base (L2.CX P w) k f (toSp K S)
/-- what the context takes of exceptions -/
abbrev Tk (X : Cx) (Ex : L2.St → XK) : Prop := Takes X (fun cls d σ H => Ex σ cls d H)
theorem tk_pass {X : Cx} {Ex : L2.St → XK} (tk : Tk X Ex) (σ : L2.St) : PassesAt (L2.CX X.prog X.w) X σ (Ex σ) := passAt tk σ
section
variable {X : Cx} {CX : CXT} {k : Nat} {f C : Addr} {sp : Sp} {E : L2.St → XK}
theorem run_g {A : Around} {pn : List (Addr × Obj)} {σ : L2.St} {H : Hp} {s : Shared} {Q : VK} {us : List Value} {vs : List V} (F : Gd.FnG X.prog X.w X.K X.mg X.base CX k f sp) (g : Gd.Calm0 A) (hr : Room k A) (e0 : Env0 X.prog X.w X.K X.mg X.base A X.stack s H) (hx : PassesAt CX X σ (E σ)) (I : L2.Inv X pn σ H s) (r : Vals vs us) (h : sp vs H Q (E σ)) :
    codeAny (model X.prog X.w) A (.call (.ref f) ⟨us, []⟩) (fun r s' => match r with | .ok (.ret v) => EP X pn σ Q v s' | .ok _ => False | .error e => X.xe e s') s := by
  refine codeAny_mono (F A X.stack s H us vs Q (E σ) g hr e0 r h) fun z s2 y => ?_
  match z, y with
  | .error er, y => exact hx pn H s er s2 I y
  | .ok (.ret u), y => exact I.after y
theorem run_gW {pn : List (Addr × Obj)} {σ : L2.St} {H : Hp} {s : Shared} {Q : VK} {us : List Value} {vs : List V} (F : Gd.FnG X.prog X.w X.K X.mg X.base CX k f sp) (g : Gd.Calm0 X.A) (hr : Room k X.A) (hx : PassesAt CX X σ (E σ)) (I : L2.Inv X pn σ H s) (r : Vals vs us) (h : sp vs H Q (E σ)) :
    wpAny (model X.prog X.w) X.A (call (.ref f) us) (EP X pn σ Q) X.xe s := wpAny_call (run_g F g hr I.env0 hx I r h)
theorem make_calm {A : Around} {C : Addr} {us : List Value} {kw : List (Str × Value)} (g : Gd.Calm0 A) : Gd.Calm0 (A.under (.builtin "type.__call__" ⟨.ref C :: us, kw⟩)) := by
  first | exact g | simpa [Gd.Calm0, Around.under, Code.isGuard, guardIds] using g
theorem run_makeG {pn : List (Addr × Obj)} {σ : L2.St} {H : Hp} {s : Shared} {Q : VK} {us : List Value} {vs : List V} (M : Mk X.K C f) (F : Gd.FnG X.prog X.w X.K X.mg X.base CX k f sp) (g : Gd.Calm0 X.A) (hr : Room (k + 1) X.A) (hx : PassesAt CX X σ (E σ)) (I : L2.Inv X pn σ H s) (r : Vals vs us)
    (h : ∀ y dy, H y = Option.none → H dy = Option.none → dy ≠ y → sp (V.ref y :: vs) (upd (upd H dy (.own y)) y (.ins C dy [])) (fun v H2 => v = .non ∧ Q (.ref y) H2) (E σ)) : wpAny (model X.prog X.w) X.A (call (.ref C) us) (EP X pn σ Q) X.xe s := by
  have J : L2.Inv X pn σ _ _ := L2.Inv.made (C := C) I
  have r1 : Vals (V.ref (s.heap.objs.size + 1) :: vs) (Value.ref (s.heap.objs.size + 1) :: us) := Paired.cons rfl r
  have hq := h (s.heap.objs.size + 1) s.heap.objs.size (I.hok.fresh (Nat.le_succ _)) (I.hok.fresh Nat.le.refl) (Nat.ne_of_lt (Nat.lt_succ_self _))
  refine wpAny_call (make_map (f := f) I.kIn M.makes M.init (beq_iff_eq.mp M.fn) (codeAny_mono (F _ X.stack _ _ (Value.ref (s.heap.objs.size + 1) :: us) _ _ (E σ) (make_calm g) (hr.make C us []) (J.env0.make C us []) r1 hq) fun z s2 y => ?_))
  match z, y with
  | .error er, y => exact hx pn _ _ er s2 J y
  | .ok (.ret u), y =>
    obtain ⟨v, H3, J3, rv, ev, q⟩ := J.after y
    subst ev
    exact ⟨rv, .ref (s.heap.objs.size + 1), H3, J3, rfl, q⟩
end
/-! calls by the name -/
def tCallQ (sp : Sp) (E : L2.St → XK) (t : TA) : TE := fun σ H Q => t σ H fun vs H1 => sp vs H1 Q (E σ)
def uCall (S : DSp) (u : DTA) : DTE := fun ρ μ Q E => u ρ μ (fun ds μ1 => S ds μ1 Q (E ρ)) E
section
variable {X : Cx} {k : Nat} {f : Addr} {sp : Sp} {Ex : L2.St → XK} {x : Str} {p pos : Pos} {e : Expr} {es : List Expr} {t : TA}
theorem pe_callQ (F : Gd.FnG X.prog X.w X.K X.mg X.base (L2.CX X.prog X.w) k f sp) (g : Gd.Calm0 X.A) (hr : Room k X.A) (hg : Gl X x) (hm : X.mg x = some (.ref f)) (hk : PySem.W.keepIn X.K (.ref f) = true) (tk : Tk X Ex)
    (ha : PA X (e :: es) t) (hdb : (x == ("__debug__" : Str)) = false := by decide) (he : starEach (e :: es) X.env = (false, eval e X.env) :: starEach es X.env := by rfl) (hpl : (backTo pos (starEach es X.env)).any (·.1) = false := by rfl) :
    PE X (.Call (.Name x p) (e :: es) [] pos) (tCallQ sp Ex t) := by
  refine ⟨fun pins s σ H Q I h => ?_⟩
  refine wpAny_Call_Name_kw (ld_glob I hg hm ?_ hdb)
  exact PySem.W.callWith_K (h₀ := X.base) I.ok.mod.kin hk (thn (ha.run pos pins s σ H _ I h) fun us s1 ⟨vs, H1, I1, r, q⟩ => ⟨I1.kIn, run_gW F g hr (tk_pass tk σ) I1 r q⟩) he hpl
theorem pe_callQ0 (F : Gd.FnG X.prog X.w X.K X.mg X.base (L2.CX X.prog X.w) k f sp) (g : Gd.Calm0 X.A) (hr : Room k X.A) (hg : Gl X x) (hm : X.mg x = some (.ref f)) (hk : PySem.W.keepIn X.K (.ref f) = true) (tk : Tk X Ex)
    (hdb : (x == ("__debug__" : Str)) = false := by decide) : PE X (.Call (.Name x p) [] [] pos) (tCallQ sp Ex tNil) := by
  refine ⟨fun pins s σ H Q I h => ?_⟩
  refine wpAny_Call_Name_kw (ld_glob I hg hm ?_ hdb)
  exact PySem.W.callWith_K0 I.kIn hk (run_gW (us := []) F g hr (tk_pass tk σ) I .nil h)
end
section
variable {K : PySem.W.Frag} {Z : Hp} {as as' as1 : List Addr} {F F' F1 H H' H1 : Hp} {Ex : L2.St → XK}
/-- a promise at work -/
theorem sp_use {S : DSp} {σ : L2.St} {ρ : Rho} {μ : Mem} {vs : List V} {ds : List D} {Q : D → Mem → Prop} {E : XD} {Q' : VK} (R : Rp K Z as F H σ ρ μ) (X : XL K Ex Z as F E) (r : RepL K as F vs ds) (h : S ds μ Q (E ρ))
    (k : ∀ v d μ' as' F' H', Gr as F as' F' → Mm K Z as' F' H' μ' → Rep K as' F' v d → Q d μ' → Q' v H') : toSp K S vs H Q' (Ex σ) :=
  ⟨Z, as, F, ds, μ, Q, E ρ, r, R.mm, h, k, fun C gs dx μ' as' F' H' g M er q => X σ ρ μ' as' F' H' C gs dx g (R.up g M) er q⟩
theorem sim_call {S : DSp} {t : TA} {u : DTA} (a : SimA K Ex t u) : Sim K Ex (tCallQ (toSp K S) Ex t) (uCall S u) := fun Z as F H σ ρ μ Q E Q' R X h k =>
  a Z as F H σ ρ μ _ E _ R X h fun vs ds μ1 as1 F1 H1 g1 R1 r1 h1 => sp_use R1 (X.up g1) r1 h1 fun v d μ' as' F' H' g M r q => k v d μ' as' F' H' (g1.trans g) (R1.up g M) r q
/-! methods -/
def tMethQ (C : Addr) (m : Str) (sp : Sp) (E : L2.St → XK) (ta : TE) (t : TA) : TE := fun σ H Q => ta σ H fun x H1 => ∃ a dx fs, x = .ref a ∧ H1 a = some (.ins C dx fs) ∧ fs.lookup m = Option.none ∧ t σ H1 fun vs H2 => sp (.ref a :: vs) H2 Q (E σ)
def insAt (C : Addr) (m : Str) (μ : Mem) (x : D) : Prop := match view μ x with
  | .ins C' gs => C' = C ∧ gs.lookup m = none
  | _ => False
def uMeth (C : Addr) (m : Str) (S : DSp) (uo : DTE) (u : DTA) : DTE := fun ρ μ Q E => uo ρ μ (fun x μ1 => insAt C m μ1 x ∧ u ρ μ1 (fun ds μ2 => S (x :: ds) μ2 Q (E ρ)) E) E
theorem ins_at {C : Addr} {m : Str} {μ : Mem} (M : Mm K Z as F H μ) {v : V} {d : D} (r : Rep K as F v d) (h : insAt C m μ d) : ∃ a dx fs, v = .ref a ∧ H a = some (.ins C dx fs) ∧ fs.lookup m = Option.none := by
  unfold insAt at h
  cases e : view μ d with
  | ins C' gs =>
    rw [e] at h
    obtain ⟨hc, l⟩ := h
    subst hc
    obtain ⟨a, dx, fs, rfl, q, x⟩ := view_ins M r e
    exact ⟨a, dx, fs, rfl, q, x.lookN l⟩
  | _ => rw [e] at h; exact h.elim
theorem sim_meth {C : Addr} {m : Str} {S : DSp} {to : TE} {uo : DTE} {t : TA} {u : DTA} (o : Sim K Ex to uo) (a : SimA K Ex t u) : Sim K Ex (tMethQ C m (toSp K S) Ex to t) (uMeth C m S uo u) := fun Z as F H σ ρ μ Q E Q' R X h k =>
  o Z as F H σ ρ μ _ E _ R X h fun v d μ1 as1 F1 H1 g1 R1 r1 h1 => by
    obtain ⟨p, dx, fs, rfl, q, l⟩ := ins_at R1.mm r1 h1.1
    exact ⟨p, dx, fs, rfl, q, l, a Z as1 F1 H1 σ ρ μ1 _ E _ R1 (X.up g1) h1.2 fun vs ds μ2 as2 F2 H2 g2 R2 r2 h2 =>
      sp_use R2 (X.up (g1.trans g2)) (.cons (r1.up g2) r2) h2 fun v d μ' as' F' H' g M r q => k v d μ' as' F' H' ((g1.trans g2).trans g) (R2.up g M) r q⟩
end
section
variable {X : Cx} {k : Nat} {f C : Addr} {sp : Sp} {Ex : L2.St → XK} {m : Str} {pos apos : Pos} {o e : Expr} {es : List Expr} {ta : TE} {t : TA} {pl : Sem Bool}
theorem pe_methQ (hO : PE X o ta) (c : Cls X.K C) (hm : Meth X.K C m f) (F : Gd.FnG X.prog X.w X.K X.mg X.base (L2.CX X.prog X.w) k f sp) (g : Gd.Calm0 X.A) (hr : Room k X.A) (tk : Tk X Ex) (hA : PA X (e :: es) t)
    (h1 : starEach (e :: es) X.env = (false, eval e X.env) :: starEach es X.env := by rfl) (h2 : (backTo pos (starEach es X.env)).any (·.1) = false := by rfl)
    (hW : eval (.Call (.Attribute o m apos) (e :: es) [] pos) X.env = (do
      let ov ← eval o X.env
      standAt apos.atName
      let (f, first) ← holding [ov] (getMethod ov m pl)
      callWith pos f first (backTo pos (starEach (e :: es) X.env)) (backToKw pos (keywordEach [] X.env))) := by rfl) : PE X (.Call (.Attribute o m apos) (e :: es) [] pos) (tMethQ C m sp Ex ta t) := by
  refine ⟨fun pn s σ H Q I h => PySem.W.methodCall_KW (pl := pl) (thn (hO.run pn s σ H _ I h) fun u s1 hh => ?_) hW⟩
  obtain ⟨x, H1, I1, rx, a, dx, fs, ex, ea, l, q⟩ := hh
  subst ex
  obtain rfl : u = Value.ref a := rx
  refine getmeth_ok I1 ea c hm l (PySem.W.callWith_K (first := [.ref a]) (h₀ := X.base) I.ok.mod.kin hm.kp (thn (hA.run pos pn s1 σ H1 _ I1 q) fun us s2 hh => ?_) h1 h2)
  obtain ⟨vs, H2, I2, r, q2⟩ := hh
  exact ⟨I2.kIn, run_gW (us := .ref a :: us) (vs := .ref a :: vs) F g hr (tk_pass tk σ) I2 (.cons rfl r) q2⟩
theorem pe_methQ0 (hO : PE X o ta) (c : Cls X.K C) (hm : Meth X.K C m f) (F : Gd.FnG X.prog X.w X.K X.mg X.base (L2.CX X.prog X.w) k f sp) (g : Gd.Calm0 X.A) (hr : Room k X.A) (tk : Tk X Ex)
    (hW : eval (.Call (.Attribute o m apos) [] [] pos) X.env = (do
      let ov ← eval o X.env
      standAt apos.atName
      let (f, first) ← holding [ov] (getMethod ov m pl)
      callWith pos f first (backTo pos (starEach [] X.env)) (backToKw pos (keywordEach [] X.env))) := by rfl) : PE X (.Call (.Attribute o m apos) [] [] pos) (tMethQ C m sp Ex ta tNil) := by
  refine ⟨fun pn s σ H Q I h => PySem.W.methodCall_KW (pl := pl) (thn (hO.run pn s σ H _ I h) fun u s1 hh => ?_) hW⟩
  obtain ⟨x, H1, I1, rx, a, dx, fs, ex, ea, l, q⟩ := hh
  subst ex
  obtain rfl : u = Value.ref a := rx
  refine getmeth_ok I1 ea c hm l ?_
  exact PySem.W.callWith_K0 (first := [.ref a]) I1.kIn hm.kp (run_gW (us := [.ref a]) (vs := [.ref a]) F g hr (tk_pass tk σ) I1 (.cons rfl .nil) q)
end
end DX
set_option Elab.async false
set_option linter.all false
set_option maxRecDepth 100000
set_option maxHeartbeats 4000000
namespace DX
open PySem PySem.Spec PyProof.Rows L2
/-! ### C(..) -/
def tMakeQ (C : Addr) (sp : Sp) (E : L2.St → XK) (t : TA) : TE := fun σ H Q => t σ H fun vs H1 => ∀ y dy, H1 y = none → H1 dy = none → dy ≠ y → sp (.ref y :: vs) (upd (upd H1 dy (.own y)) y (.ins C dy [])) (fun v H2 => v = .non ∧ Q (.ref y) H2) (E σ)
section
variable {X : Cx} {k : Nat} {f C : Addr} {sp : Sp} {Ex : L2.St → XK} {x : Str} {p pos sp_ : Pos} {e : Expr} {es : List Expr} {t : TA} {te : TE}
theorem pe_makeQ (M : Mk X.K C f) (F : Gd.FnG X.prog X.w X.K X.mg X.base (L2.CX X.prog X.w) k f sp) (g : Gd.Calm0 X.A) (hr : Room (k + 1) X.A) (hg : Gl X x) (hm : X.mg x = some (.ref C)) (tk : Tk X Ex)
    (ha : PA X (e :: es) t) (hdb : (x == ("__debug__" : Str)) = false := by decide) (he : starEach (e :: es) X.env = (false, eval e X.env) :: starEach es X.env := by rfl) (hpl : (backTo pos (starEach es X.env)).any (·.1) = false := by rfl) :
    PE X (.Call (.Name x p) (e :: es) [] pos) (tMakeQ C sp Ex t) := by
  refine ⟨fun pins s σ H Q I h => ?_⟩
  refine wpAny_Call_Name_kw (ld_glob I hg hm ?_ hdb)
  refine PySem.W.callWith_K (h₀ := X.base) I.ok.mod.kin M.kp (thn (ha.run pos pins s σ H _ I h) fun us s1 ⟨vs, H1, I1, r, q⟩ => ⟨I1.kIn, ?_⟩) he hpl
  exact run_makeG M F g hr (tk_pass tk σ) I1 r q
theorem pe_makeQ0 (M : Mk X.K C f) (F : Gd.FnG X.prog X.w X.K X.mg X.base (L2.CX X.prog X.w) k f sp) (g : Gd.Calm0 X.A) (hr : Room (k + 1) X.A) (hg : Gl X x) (hm : X.mg x = some (.ref C)) (tk : Tk X Ex) (hdb : (x == ("__debug__" : Str)) = false := by decide) :
    PE X (.Call (.Name x p) [] [] pos) (tMakeQ C sp Ex tNil) := by
  refine ⟨fun pins s σ H Q I h => ?_⟩
  refine wpAny_Call_Name_kw (ld_glob I hg hm ?_ hdb)
  exact PySem.W.callWith_K0 I.kIn M.kp (run_makeG (us := []) M F g hr (tk_pass tk σ) I .nil h)
/-- C(*xs) -/
def tMakeSQ (K : PySem.W.Frag) (C : Addr) (sp : Sp) (E : L2.St → XK) (te : TE) : TE := fun σ H Q => te σ H fun y H1 => ∃ a xs, y = V.ref a ∧ (SqT K H1 a xs ∨ SqL K H1 a xs) ∧ ∀ x dx, H1 x = Option.none → H1 dx = Option.none → dx ≠ x →
  sp (V.ref x :: xs) (upd (upd H1 dx (.own x)) x (.ins C dx [])) (fun v H2 => v = .non ∧ Q (.ref x) H2) (E σ)
theorem pe_makeSQ (M : Mk X.K C f) (F : Gd.FnG X.prog X.w X.K X.mg X.base (L2.CX X.prog X.w) k f sp) (g : Gd.Calm0 X.A) (hr : Room (k + 1) X.A) (hg : Gl X x) (hm : X.mg x = some (.ref C)) (tk : Tk X Ex) (he : PE X e te) (hd : (x == ("__debug__" : Str)) = false := by decide)
    (hst : starEach [.Starred e sp_] X.env = [(true, eval e X.env)] := by rfl) :
    PE X (.Call (.Name x p) [.Starred e sp_] [] pos) (tMakeSQ X.K C sp Ex te) := by
  refine ⟨fun pins s σ H Q I h => ?_⟩
  refine wpAny_Call_Name_kw (ld_glob I hg hm ?_ hd)
  refine PySem.W.callWith_S (h₀ := X.base) I.ok.mod.kin M.kp (thn (he.run pins s σ H _ I h) fun v s1 ⟨y, H1, I1, ry, a, xs, ey, hxs, q⟩ => ?_) hst
  subst ey
  obtain rfl : v = Value.ref a := ry
  exact StX.star_any I1 hxs fun us s2 I2 rv => ⟨I2.kIn, run_makeG M F g hr (tk_pass tk σ) I2 rv q⟩
end
section
variable {K : PySem.W.Frag} {Z : Hp} {as as' as1 : List Addr} {F F' F1 H H' H1 : Hp} {Ex : L2.St → XK}
/-- an error leaves a making: the new object is forgotten -/
def xMake (n : Nat) (μ1 : Mem) (E : Addr → List (Str × D) → Mem → Prop) : Addr → List (Str × D) → Mem → Prop := fun C gs μ2 => cldF n gs = true ∧ stays n μ1 μ2 ∧ E C gs (μ2.take n)
def dMakeM (C : Addr) (S : DSp) : List D → Mem → (D → Mem → Prop) → (Addr → List (Str × D) → Mem → Prop) → Prop := fun ds μ1 Q E =>
  S (.ob μ1.length :: ds) (μ1 ++ [.ins C []]) (fun r μ2 => r = .non ∧ Q (.ob μ1.length) μ2) (xMake μ1.length μ1 E)
def dMakeF (C : Addr) (S : DSp) : List D → Mem → (D → Mem → Prop) → (Addr → List (Str × D) → Mem → Prop) → Prop := fun ds μ1 Q E =>
  S (.ob μ1.length :: ds) (μ1 ++ [.ins C []]) (fun r μ2 => r = .non ∧ ∃ fs, μ2 = μ1 ++ [.ins C fs] ∧ cldF μ1.length fs = true ∧ Q (.ins C fs) μ1) (xMake μ1.length μ1 E)
theorem Mm.closed {μ : Mem} (M : Mm K Z as F H μ) {k : Nat} {m : DX.M} (e : μ[k]? = some m) : cldM μ.length m = true := by
  obtain ⟨a, ha, x⟩ := M.at_ k m e
  rw [← M.len]
  exact x.cld
theorem Gr.take {n : Nat} (g : Gr as F as' F') (hn : as.length ≤ n) {F2 : Hp} (s : Same F' F2) : Gr as F (as'.take n) F2 := ⟨g.f.trans s, fun k a e => by
  have hk := (List.getElem?_eq_some_iff.mp e).1
  rw [List.getElem?_take_of_lt (by omega)]
  exact g.p k a e⟩
theorem excR_cut {bs : List Addr} {n : Nat} (hb : ∀ (k : Nat) (a : Addr), k < n → as[k]? = some a → bs[k]? = some a) {dx : Option Addr} {gs : List (Str × D)} (h : ExcR K as F dx gs) (c : cldF n gs = true) (s : Same F F') : ExcR K bs F' dx gs := by
  rcases h with h | ⟨dd, fs, e1, e2, r⟩
  · exact .inl h
  · exact .inr ⟨dd, fs, e1, s _ _ e2, (r.cut hb c).up ⟨s, fun _ _ e => e⟩⟩
theorem take_get {n : Nat} : ∀ (k : Nat) (a : Addr), k < n → as[k]? = some a → (as.take n)[k]? = some a := fun k a hk h => by rw [List.getElem?_take_of_lt hk]; exact h
theorem stays_closed {n : Nat} {μ1 μ2 : Mem} (M1 : Mm K Z as F H μ1) (hn : n = μ1.length) (h : stays n μ1 μ2) : ∀ (k : Nat) (m : DX.M), k < n → μ2[k]? = some m → cldM n m = true := fun k m hk e => by
  rcases h.2 k m hk e with z | z
  · rw [hn]; exact M1.closed z
  · exact z
theorem mm_made {μ1 : Mem} (M1 : Mm K Z as1 F1 H1 μ1) {C y dy : Addr} (ny : H1 y = none) (nd : H1 dy = none) (ne : dy ≠ y) : Mm K Z (as1 ++ [y]) F1 (upd (upd H1 dy (.own y)) y (.ins C dy [])) (μ1 ++ [.ins C []]) :=
  (M1.ext (same_upd nd)).addM (m := .ins C []) (by rw [upd_ne ne.symm]; exact ny) ⟨dy, [], upd_same, .nil⟩
theorem made_xl {E : XD} {σ : L2.St} {ρ : Rho} {μ1 : Mem} {y : Addr} (R1 : Rp K Z as1 F1 H1 σ ρ μ1) (X : XL K Ex Z as1 F1 E) : ∀ C gs dx μ' as' F' H', Gr (as1 ++ [y]) F1 as' F' → Mm K Z as' F' H' μ' → ExcR K as' F' dx gs → xMake μ1.length μ1 (E ρ) C gs μ' → Ex σ (.ref C) dx H' := fun C gs dx μ' as' F' H' g M er q => by
  obtain ⟨c, st, q⟩ := q
  obtain ⟨M2, sf⟩ := M.freeze st.1 (stays_closed R1.mm rfl st)
  have g1 : Gr as1 F1 as' F' := Gr.add.trans g
  have g2 := g1.take (n := μ1.length) (Nat.le_of_eq R1.mm.len) sf
  exact X σ ρ _ _ _ H' C gs dx g2 (R1.up g2 M2) (excR_cut take_get er c sf) q
theorem sim_makeV {C : Addr} {S : DSp} {σ : L2.St} {ρ : Rho} {μ1 : Mem} {vs : List V} {ds : List D} {Q : D → Mem → Prop} {E : XD} {Q' : VK} (R1 : Rp K Z as1 F1 H1 σ ρ μ1) (X : XL K Ex Z as1 F1 E) (r1 : RepL K as1 F1 vs ds) (m : Bool) (h : if m = true then dMakeM C S ds μ1 Q (E ρ) else dMakeF C S ds μ1 Q (E ρ))
    (k : ∀ v d μ' as' F' H', Gr as1 F1 as' F' → Rp K Z as' F' H' σ ρ μ' → Rep K as' F' v d → Q d μ' → Q' v H') {y dy : Addr} (ny : H1 y = none) (nd : H1 dy = none) (ne : dy ≠ y) :
    toSp K S (.ref y :: vs) (upd (upd H1 dy (.own y)) y (.ins C dy [])) (fun v H2 => v = .non ∧ Q' (.ref y) H2) (Ex σ) := by
  have M2 := mm_made (C := C) R1.mm ny nd ne
  have ro : Rep K (as1 ++ [y]) F1 (.ref y) (.ob μ1.length) := rep_ob R1.mm.len
  cases m with
  | true =>
    rw [if_pos rfl] at h
    refine ⟨_, _, _, _, _, _, _, .cons ro (r1.up Gr.add), M2, h, fun v d μ' as' F' H' g M r q => ?_, made_xl R1 X⟩
    obtain ⟨rfl, q⟩ := q
    cases r
    exact ⟨rfl, k _ _ μ' as' F' H' (Gr.add.trans g) (R1.up (Gr.add.trans g) M) (ro.up g) q⟩
  | false =>
    rw [if_neg Bool.false_ne_true] at h
    refine ⟨_, _, _, _, _, _, _, .cons ro (r1.up Gr.add), M2, h, fun v d μ' as' F' H' g M r q => ?_, made_xl R1 X⟩
    obtain ⟨rfl, fs, rfl, c, q⟩ := q
    cases r
    refine ⟨rfl, ?_⟩
    have hn : μ1.length ≤ (μ1 ++ [DX.M.ins C fs]).length := by rw [List.length_append]; exact Nat.le_add_right _ _
    have cl : ∀ (k : Nat) (m : DX.M), k < μ1.length → (μ1 ++ [DX.M.ins C fs])[k]? = some m → cldM μ1.length m = true := fun k m hk e => by
      rw [List.getElem?_append_left hk] at e
      exact R1.mm.closed e
    obtain ⟨M3, sf⟩ := M.freeze hn cl
    have g1 : Gr as1 F1 as' F' := Gr.add.trans g
    have g2 := g1.take (n := μ1.length) (Nat.le_of_eq R1.mm.len) sf
    have z := fz_rep M sf 1 (ro.up g)
    have e : fz (μ1 ++ [DX.M.ins C fs]) μ1.length 1 (.ob μ1.length) = .ins C fs := by
      show (if μ1.length < μ1.length then D.ob μ1.length else match (μ1 ++ [DX.M.ins C fs])[μ1.length]? with
        | some (.lst ds) => .lst (ds.map (fz _ _ 0))
        | some (.ins C fs) => .ins C (fs.map fun p => (p.1, fz _ _ 0 p.2))
        | _ => .ob μ1.length) = _
      rw [if_neg (Nat.lt_irrefl _), List.getElem?_append_right (Nat.le_refl _), Nat.sub_self]
      show D.ins C (fs.map fun p => (p.1, p.2)) = _
      simp
    rw [e] at z
    rw [List.take_left' rfl] at M3
    exact k _ _ μ1 _ _ H' g2 (R1.up g2 M3) (z.cut take_get c) q
def uMakeM (C : Addr) (S : DSp) (u : DTA) : DTE := fun ρ μ Q E => u ρ μ (fun ds μ1 => dMakeM C S ds μ1 Q (E ρ)) E
def uMakeF (C : Addr) (S : DSp) (u : DTA) : DTE := fun ρ μ Q E => u ρ μ (fun ds μ1 => dMakeF C S ds μ1 Q (E ρ)) E
theorem sim_makeM {C : Addr} {S : DSp} {t : TA} {u : DTA} (a : SimA K Ex t u) : Sim K Ex (tMakeQ C (toSp K S) Ex t) (uMakeM C S u) := fun Z as F H σ ρ μ Q E Q' R X h k =>
  a Z as F H σ ρ μ _ E _ R X h fun vs ds μ1 as1 F1 H1 g1 R1 r1 h1 y dy ny nd ne => sim_makeV R1 (X.up g1) r1 true (by rw [if_pos rfl]; exact h1) (fun v d μ' as' F' H' g M r q => k v d μ' as' F' H' (g1.trans g) M r q) ny nd ne
theorem sim_makeF {C : Addr} {S : DSp} {t : TA} {u : DTA} (a : SimA K Ex t u) : Sim K Ex (tMakeQ C (toSp K S) Ex t) (uMakeF C S u) := fun Z as F H σ ρ μ Q E Q' R X h k =>
  a Z as F H σ ρ μ _ E _ R X h fun vs ds μ1 as1 F1 H1 g1 R1 r1 h1 y dy ny nd ne => sim_makeV R1 (X.up g1) r1 false (by rw [if_neg Bool.false_ne_true]; exact h1) (fun v d μ' as' F' H' g M r q => k v d μ' as' F' H' (g1.trans g) M r q) ny nd ne
/-- C(*xs), frozen -/
def uMakeSF (C : Addr) (S : DSp) (u : DTE) : DTE := fun ρ μ Q E => u ρ μ (fun x μ1 => match view μ1 x with
  | .lst ds => dMakeF C S ds μ1 Q (E ρ)
  | .tup ds => dMakeF C S ds μ1 Q (E ρ)
  | _ => False) E
theorem sim_makeSF {C : Addr} {S : DSp} {t : TE} {u : DTE} (a : Sim K Ex t u) : Sim K Ex (tMakeSQ K C (toSp K S) Ex t) (uMakeSF C S u) := fun Z as F H σ ρ μ Q E Q' R X h k =>
  a Z as F H σ ρ μ _ E _ R X h fun v d μ1 as1 F1 H1 g1 R1 r1 h1 => by
    have h1 : (match view μ1 d with | .lst ds => dMakeF C S ds μ1 Q (E ρ) | .tup ds => dMakeF C S ds μ1 Q (E ρ) | _ => False) := h1
    cases e : view μ1 d with
    | lst ds =>
      rw [e] at h1
      obtain ⟨p, vs, rfl, q, x⟩ := view_lst R1.mm r1 e
      exact ⟨p, vs, rfl, .inr q, fun y dy ny nd ne => sim_makeV R1 (X.up g1) x false (by rw [if_neg Bool.false_ne_true]; exact h1) (fun v d μ' as' F' H' g M r q => k v d μ' as' F' H' (g1.trans g) M r q) ny nd ne⟩
    | tup ds =>
      rw [e] at h1
      obtain ⟨p, vs, rfl, q, x⟩ := view_tup R1.mm r1 e
      exact ⟨p, vs, rfl, .inl q, fun y dy ny nd ne => sim_makeV R1 (X.up g1) x false (by rw [if_neg Bool.false_ne_true]; exact h1) (fun v d μ' as' F' H' g M r q => k v d μ' as' F' H' (g1.trans g) M r q) ny nd ne⟩
    | _ => rw [e] at h1; exact h1.elim
/-! ### properties -/
def tPropQ (C : Addr) (sp : Sp) (ta : TE) : TE := fun σ H Q => ta σ H fun x H1 => ∃ a dx fs, x = .ref a ∧ H1 a = some (.ins C dx fs) ∧ sp [.ref a] H1 Q E0
def isIns (C : Addr) (μ : Mem) (x : D) : Prop := match view μ x with
  | .ins C' _ => C' = C
  | _ => False
theorem isIns_at {C : Addr} {μ : Mem} (M : Mm K Z as F H μ) {v : V} {d : D} (r : Rep K as F v d) (h : isIns C μ d) : ∃ a dx fs, v = .ref a ∧ H a = some (.ins C dx fs) := by
  unfold isIns at h
  cases e : view μ d with
  | ins C' gs =>
    rw [e] at h
    have h : C' = C := h
    subst h
    obtain ⟨a, dx, fs, rfl, q, x⟩ := view_ins M r e
    exact ⟨a, dx, fs, rfl, q⟩
  | _ => rw [e] at h; exact h.elim
def uProp (C : Addr) (S : DSp) (uo : DTE) : DTE := fun ρ μ Q E => uo ρ μ (fun x μ1 => isIns C μ1 x ∧ S [x] μ1 Q (XN ρ)) E
theorem sim_prop {C : Addr} {S : DSp} {to : TE} {uo : DTE} (o : Sim K Ex to uo) : Sim K Ex (tPropQ C (toSp K S) to) (uProp C S uo) := fun Z as F H σ ρ μ Q E Q' R X h k =>
  o Z as F H σ ρ μ _ E _ R X h fun v d μ1 as1 F1 H1 g1 R1 r1 h1 => by
    obtain ⟨p, dx, fs, rfl, q⟩ := isIns_at R1.mm r1 h1.1
    exact ⟨p, dx, fs, rfl, q, sp_use (Ex := X0) (E := XN) R1 XL.no (.cons r1 .nil) h1.2 fun v d μ' as' F' H' g M r q => k v d μ' as' F' H' (g1.trans g) (R1.up g M) r q⟩
end
section
variable {X : Cx} {k : Nat} {f C p g : Addr} {sp : Sp} {Ex : L2.St → XK} {x n : Str} {pos : Pos} {e : Expr} {ta : TE}
theorem pe_propQ (he : PE X e ta) (c : Cls X.K C) (hp : PropOf X.K C n p g) (F : Gd.FnG X.prog X.w X.K X.mg X.base (L2.CX X.prog X.w) k g sp) (gd : Gd.Calm0 X.A) (hr : Room (k + 1) X.A)
    (hab : attributeBase e n X.env (eval e X.env) = eval e X.env) : PE X (.Attribute e n pos) (tPropQ C sp ta) := by
  refine ⟨fun pins s σ H Q I h => ?_⟩
  refine attr_of hab (thn (he.run pins s σ H _ I h) fun u s1 ⟨x, H1, I1, rx, a, dx, fs, ex, ea, q⟩ => ?_)
  subst ex
  obtain rfl : u = Value.ref a := rx
  obtain ⟨mA, O, _, _, _, _⟩ := ins_get I1.hok ea
  obtain ⟨od, J, _⟩ := O.look
  obtain ⟨rest, hrec⟩ := hp.rec_
  have I2 := I1.tok (s1.toks + 1)
  have hc : (PySem.W.clsIn X.K C).isSome = true := by
    obtain ⟨cd, hc, _⟩ := PySem.W.any_some c.hd
    rw [hc]
    rfl
  refine PySem.W.get_bind I1.kIn J (PySem.W.plainGet_of (c.get n)).1 (PySem.W.findObj_data hc hp.at_ hp.get hp.tak) (PySem.W.plainGet_of (c.get n)).2 (wpAny_call (PySem.W.prop_get (s := { s1 with toks := s1.toks + 1 }) I1.kIn hrec ?_))
  refine codeAny_mono (F X.A.in1 X.stack _ H1 [.ref a] [.ref a] Q E0 gd hr.in1 I2.env0.in1 (.cons rfl .nil) q) fun r s' hq => ?_
  match r, hq with
  | .error er, hq =>
    obtain ⟨_, _, _, _, _, _, _, _, _, _, _, _, z⟩ := hq
    exact z.elim
  | .ok (.ret u), hq =>
    obtain ⟨v, H', I3, rv, q3⟩ := I2.after hq
    show wpAny _ _ (handedOut u) _ _ _
    rw [PySem.W.handedOut_of (handed_of rv)]
    exact wpAny_pure ⟨v, H', I3, rv, q3⟩
end
end DX
set_option Elab.async false
set_option linter.all false
set_option maxRecDepth 100000
set_option maxHeartbeats 4000000
namespace DX
open PySem PySem.Spec PyProof.Rows L2
/-! ### statements -/
abbrev DTG := D → Rho → Mem → (Rho → Mem → Prop) → XD → Prop
abbrev DTGs := List D → Rho → Mem → (Rho → Mem → Prop) → XD → Prop
section
variable {K : PySem.W.Frag} {Z : Hp} {as as' as1 : List Addr} {F F' F1 H H' H1 : Hp} {Ex : L2.St → XK}
def SimG (K : PySem.W.Frag) (Ex : L2.St → XK) (t : TG) (u : DTG) : Prop :=
  ∀ (Z : Hp) (as : List Addr) (F H : Hp) (σ : L2.St) (ρ : Rho) (μ : Mem) (v : V) (d : D) (Q : Rho → Mem → Prop) (E : XD) (Q' : L2.St → Hp → Prop), Rp K Z as F H σ ρ μ → XL K Ex Z as F E → Rep K as F v d → u d ρ μ Q E →
    (∀ σ' ρ' μ' as' F' H', Gr as F as' F' → Rp K Z as' F' H' σ' ρ' μ' → Q ρ' μ' → Q' σ' H') → t v σ H Q'
def SimGs (K : PySem.W.Frag) (Ex : L2.St → XK) (t : TGs) (u : DTGs) : Prop :=
  ∀ (Z : Hp) (as : List Addr) (F H : Hp) (σ : L2.St) (ρ : Rho) (μ : Mem) (v : List V) (d : List D) (Q : Rho → Mem → Prop) (E : XD) (Q' : L2.St → Hp → Prop), Rp K Z as F H σ ρ μ → XL K Ex Z as F E → RepL K as F v d → u d ρ μ Q E →
    (∀ σ' ρ' μ' as' F' H', Gr as F as' F' → Rp K Z as' F' H' σ' ρ' μ' → Q ρ' μ' → Q' σ' H') → t v σ H Q'
def uGName (i : Nat) : DTG := fun d ρ μ Q _ => Q (ρ.set i (some d)) μ
theorem sim_gName (i : Nat) : SimG K Ex (gName i) (uGName i) := fun Z as F H σ ρ μ v d Q E Q' R X r h k => k _ _ μ as F H Gr.refl ⟨R.mm, R.env.set r i⟩ h
def uGNil : DTGs := fun ds ρ μ Q _ => match ds with
  | [] => Q ρ μ
  | _ => False
def uGCons (u : DTG) (w : DTGs) : DTGs := fun ds ρ μ Q E => match ds with
  | d :: r => u d ρ μ (fun ρ1 μ1 => w r ρ1 μ1 Q E) E
  | [] => False
theorem sim_gNil : SimGs K Ex gNil uGNil := fun Z as F H σ ρ μ v d Q E Q' R X r h k => by
  cases r with
  | nil => exact ⟨rfl, k σ ρ μ as F H Gr.refl R h⟩
  | cons _ _ => exact h.elim
theorem sim_gCons {t : TG} {u : DTG} {s : TGs} {w : DTGs} (a : SimG K Ex t u) (b : SimGs K Ex s w) : SimGs K Ex (gCons t s) (uGCons u w) := fun Z as F H σ ρ μ v d Q E Q' R X r h k => by
  cases r with
  | nil => exact h.elim
  | cons r1 r2 => exact ⟨_, _, rfl, a Z as F H σ ρ μ _ _ _ E _ R X r1 h fun σ1 ρ1 μ1 as1 F1 H1 g1 R1 h1 => b Z as1 F1 H1 σ1 ρ1 μ1 _ _ _ E _ R1 (X.up g1) (r2.up g1) h1 fun σ2 ρ2 μ2 as2 F2 H2 g2 => k σ2 ρ2 μ2 as2 F2 H2 (g1.trans g2)⟩
def uGTup (n : Nat) (w : DTGs) : DTG := fun d ρ μ Q E => match view μ d with
  | .tup ds => ds.length = n ∧ w ds ρ μ Q E
  | _ => False
theorem sim_gTup {n : Nat} {s : TGs} {w : DTGs} (b : SimGs K Ex s w) : SimG K Ex (gTup K n s) (uGTup n w) := fun Z as F H σ ρ μ v d Q E Q' R X r h k => by
  have h : (match view μ d with | .tup ds => ds.length = n ∧ w ds ρ μ Q E | _ => False) := h
  cases e : view μ d with
  | tup ds =>
    rw [e] at h
    obtain ⟨p, vs, rfl, q, x⟩ := view_tup R.mm r e
    exact ⟨p, vs, rfl, q, by rw [x.len]; exact h.1, b Z as F H σ ρ μ vs ds Q E Q' R X x h.2 k⟩
  | _ => rw [e] at h; exact h.elim
/-- xs[i] = .. -/
def uGSet (uo ui : DTE) : DTG := fun d ρ μ Q E => uo ρ μ (fun o μ1 => ui ρ μ1 (fun i μ2 => match o, i with
  | .ob k, .int j => match μ2[k]? with
    | some (.lst xs) => match ixN xs.length j with
      | some m => Q ρ (μ2.set k (.lst (xs.set m d)))
      | none => False
    | _ => False
  | _, _ => False) E) E
theorem sim_gSet {to ti : TE} {uo ui : DTE} (a : Sim K Ex to uo) (b : Sim K Ex ti ui) : SimG K Ex (gSub to ti rSetL) (uGSet uo ui) := fun Z as F H σ ρ μ v d Q E Q' R X r h k =>
  a Z as F H σ ρ μ _ E _ R X h fun v1 d1 μ1 as1 F1 H1 g1 R1 r1 h1 => b Z as1 F1 H1 σ ρ μ1 _ E _ R1 (X.up g1) h1 fun v2 d2 μ2 as2 F2 H2 g2 R2 r2 h2 => by
    have ro := r1.up g2
    cases ro <;> try exact h2.elim
    rename_i n a q
    cases r2 <;> try exact h2.elim
    rename_i j
    have h2 : (match μ2[n]? with | some (.lst xs) => (match ixN xs.length j with | some m => Q ρ (μ2.set n (.lst (xs.set m d))) | none => False) | _ => False) := h2
    cases z : μ2[n]? with
    | none => rw [z] at h2; exact h2.elim
    | some m =>
      rw [z] at h2
      obtain ⟨b, hb, y⟩ := R2.mm.at_ n m z
      obtain rfl := Option.some.inj (q.symm.trans hb)
      cases m with
      | lst xs =>
        obtain ⟨vs, e1, e2⟩ := y
        have h2 : (match ixN xs.length j with | some m => Q ρ (μ2.set n (.lst (xs.set m d))) | none => False) := h2
        cases w : ixN xs.length j with
        | none => rw [w] at h2; exact h2.elim
        | some m =>
          rw [w] at h2
          have rd := (r.up g1).up g2
          refine ⟨_, vs, _, m, rfl, rfl, e1, by rw [e2.len]; exact w, ?_⟩
          exact k σ ρ _ as2 F2 _ (g1.trans g2) ⟨R2.mm.put (m := .lst (xs.set m d)) q ⟨_, upd_same, e2.set rd m⟩, R2.env⟩ h2
      | ins C fs => exact h2.elim
      | dic kv => exact h2.elim
/-! small statements -/
def uAsg (u : DTE) (g : DTG) : DTS := fun De E ρ μ => u ρ μ (fun d μ1 => g d ρ μ1 De.nx E) E
theorem sim_asg {t : TE} {u : DTE} {g : TG} {w : DTG} (a : Sim K Ex t u) (b : SimG K Ex g w) : SimS K Ex (tAsg t g) (uAsg u w) := fun Z as F H σ ρ μ De E D' R X h kn kr kb kc =>
  a Z as F H σ ρ μ _ E _ R X h fun v d μ1 as1 F1 H1 g1 R1 r1 h1 => b Z as1 F1 H1 σ ρ μ1 v d _ E _ R1 (X.up g1) r1 h1 fun σ2 ρ2 μ2 as2 F2 H2 g2 => kn σ2 ρ2 μ2 as2 F2 H2 (g1.trans g2)
def uDrop (u : DTE) : DTS := fun De E ρ μ => u ρ μ (fun _ μ1 => De.nx ρ μ1) E
theorem sim_drop {t : TE} {u : DTE} (a : Sim K Ex t u) : SimS K Ex (tDrop t) (uDrop u) := fun Z as F H σ ρ μ De E D' R X h kn kr kb kc =>
  a Z as F H σ ρ μ _ E _ R X h fun v d μ1 as1 F1 H1 g1 R1 r1 h1 => kn σ ρ μ1 as1 F1 H1 g1 R1 h1
def uRet (u : DTE) : DTS := fun De E ρ μ => u ρ μ De.rt E
theorem sim_ret {t : TE} {u : DTE} (a : Sim K Ex t u) : SimS K Ex (tRet t) (uRet u) := fun Z as F H σ ρ μ De E D' R X h kn kr kb kc =>
  a Z as F H σ ρ μ _ E _ R X h fun v d μ1 as1 F1 H1 g1 R1 r1 h1 => kr v d μ1 as1 F1 H1 g1 R1.mm r1 h1
def uRetN : DTS := fun De _ _ μ => De.rt .non μ
theorem sim_retN : SimS K Ex tRetN uRetN := fun Z as F H σ ρ μ De E D' R X h kn kr kb kc => kr _ _ μ as F H Gr.refl R.mm .non h
def uNext : DTS := fun De _ ρ μ => De.nx ρ μ
def uBreak : DTS := fun De _ ρ μ => De.bk ρ μ
def uCont : DTS := fun De _ ρ μ => De.ct ρ μ
def uNever : DTS := fun _ _ _ _ => False
theorem sim_next : SimS K Ex tNext uNext := fun Z as F H σ ρ μ De E D' R X h kn kr kb kc => kn σ ρ μ as F H Gr.refl R h
theorem sim_break : SimS K Ex tBreak uBreak := fun Z as F H σ ρ μ De E D' R X h kn kr kb kc => kb σ ρ μ as F H Gr.refl R h
theorem sim_cont : SimS K Ex tCont uCont := fun Z as F H σ ρ μ De E D' R X h kn kr kb kc => kc σ ρ μ as F H Gr.refl R h
theorem sim_never : SimS K Ex tNever uNever := fun Z as F H σ ρ μ De E D' R X h kn kr kb kc => h.elim
def uSeq (t u : DTS) : DTS := fun De E ρ μ => t { De with nx := u De E } E ρ μ
theorem sim_seq {t s : TS} {u w : DTS} (a : SimS K Ex t u) (b : SimS K Ex s w) : SimS K Ex (tSeq t s) (uSeq u w) := fun Z as F H σ ρ μ De E D' R X h kn kr kb kc =>
  a Z as F H σ ρ μ { De with nx := w De E } E _ R X h (fun σ1 ρ1 μ1 as1 F1 H1 g1 R1 h1 => b Z as1 F1 H1 σ1 ρ1 μ1 De E D' R1 (X.up g1) h1 (fun σ2 ρ2 μ2 as2 F2 H2 g2 => kn σ2 ρ2 μ2 as2 F2 H2 (g1.trans g2))
    (fun v d μ2 as2 F2 H2 g2 => kr v d μ2 as2 F2 H2 (g1.trans g2)) (fun σ2 ρ2 μ2 as2 F2 H2 g2 => kb σ2 ρ2 μ2 as2 F2 H2 (g1.trans g2)) (fun σ2 ρ2 μ2 as2 F2 H2 g2 => kc σ2 ρ2 μ2 as2 F2 H2 (g1.trans g2))) kr kb kc
def uIfS (c : DTT) (t u : DTS) : DTS := fun De E ρ μ => c ρ μ (fun b μ1 => if b = true then t De E ρ μ1 else u De E ρ μ1) E
theorem sim_ifS {tc : TT} {uc : DTT} {t s : TS} {u w : DTS} (c : SimT K Ex tc uc) (a : SimS K Ex t u) (b : SimS K Ex s w) : SimS K Ex (tIfS tc t s) (uIfS uc u w) := fun Z as F H σ ρ μ De E D' R X h kn kr kb kc =>
  c Z as F H σ ρ μ _ E _ R X h fun d μ1 as1 F1 H1 g1 R1 h1 => by
    have go : ∀ {t : TS} {u : DTS}, SimS K Ex t u → u De E ρ μ1 → t D' σ H1 := fun a h => a Z as1 F1 H1 σ ρ μ1 De E D' R1 (X.up g1) h (fun σ2 ρ2 μ2 as2 F2 H2 g2 => kn σ2 ρ2 μ2 as2 F2 H2 (g1.trans g2))
      (fun v d μ2 as2 F2 H2 g2 => kr v d μ2 as2 F2 H2 (g1.trans g2)) (fun σ2 ρ2 μ2 as2 F2 H2 g2 => kb σ2 ρ2 μ2 as2 F2 H2 (g1.trans g2)) (fun σ2 ρ2 μ2 as2 F2 H2 g2 => kc σ2 ρ2 μ2 as2 F2 H2 (g1.trans g2))
    cases d with
    | true => rw [if_pos rfl] at h1 ⊢; exact go a h1
    | false => rw [if_neg Bool.false_ne_true] at h1 ⊢; exact go b h1
/-- the middle told -/
def uCut (t : DTS) : DTS := fun De E ρ μ => ∃ J : Rho → Mem → Prop, t { De with nx := J } E ρ μ ∧ ∀ ρ' μ', J ρ' μ' → De.nx ρ' μ'
theorem sim_cut {t : TS} {u : DTS} (a : SimS K Ex t u) : SimS K Ex t (uCut u) := fun Z as F H σ ρ μ De E D' R X h kn kr kb kc => by
  obtain ⟨J, h1, h2⟩ := h
  exact a Z as F H σ ρ μ { De with nx := J } E D' R X h1 (fun σ2 ρ2 μ2 as2 F2 H2 g2 R2 z => kn σ2 ρ2 μ2 as2 F2 H2 g2 R2 (h2 _ _ z)) kr kb kc
/-- x op= e -/
def uAug (i : Nat) (u : DTE) (dr : DR2) : DTS := fun De E ρ μ => match ρ[i]? with
  | some (some x) => u ρ μ (fun y μ1 => dr x y μ1 fun z μ2 => De.nx (ρ.set i (some z)) μ2) E
  | _ => False
theorem sim_aug {i : Nat} {t : TE} {u : DTE} {r : TIp} {dr : DR2} (a : Sim K Ex t u) (s : SimR K r dr) : SimS K Ex (tAug i t r) (uAug i u dr) := fun Z as F H σ ρ μ De E D' R X h kn kr kb kc => by
  have h : (match ρ[i]? with | some (some x) => u ρ μ (fun y μ1 => dr x y μ1 fun z μ2 => De.nx (ρ.set i (some z)) μ2) E | _ => False) := h
  cases e : ρ[i]? with
  | none => rw [e] at h; exact h.elim
  | some o =>
    rw [e] at h
    cases o with
    | none => exact h.elim
    | some d =>
      obtain ⟨v, h1, h2⟩ := R.env.get i d e
      refine ⟨v, h1, a Z as F H σ ρ μ _ E _ R X h fun v1 d1 μ1 as1 F1 H1 g1 R1 r1 q1 => ?_⟩
      exact s Z as1 F1 H1 μ1 v v1 d d1 _ _ R1.mm (h2.up g1) r1 q1 fun v2 d2 μ2 as2 F2 H2 g2 M2 r2 q2 => kn _ _ μ2 as2 F2 H2 (g1.trans g2) ⟨M2, ((R1.env.up g2).set r2 i)⟩ q2
/-- o.f = e -/
def uSetF (C : Addr) (f : Str) (uo ue : DTE) : DTS := fun De E ρ μ => ue ρ μ (fun d μ1 => uo ρ μ1 (fun x μ2 => match x with
  | .ob k => match μ2[k]? with
    | some (.ins C' gs) => C' = C ∧ gs.length < 1000 ∧ De.nx ρ (μ2.set k (.ins C (putD f d gs)))
    | _ => False
  | _ => False) E) E
theorem sim_setF {C : Addr} {f : Str} {to te : TE} {uo ue : DTE} (c : Cls K C) (n : NoAttr K C f) (o : Sim K Ex to uo) (e : Sim K Ex te ue) : SimS K Ex (sFld K to te f) (uSetF C f uo ue) := fun Z as F H σ ρ μ De E D' R X h kn kr kb kc =>
  e Z as F H σ ρ μ _ E _ R X h fun v d μ1 as1 F1 H1 g1 R1 r1 h1 => o Z as1 F1 H1 σ ρ μ1 _ E _ R1 (X.up g1) h1 fun v2 d2 μ2 as2 F2 H2 g2 R2 r2 h2 => by
    cases r2 <;> try exact h2.elim
    rename_i m a q
    have h2 : (match μ2[m]? with | some (.ins C' gs) => C' = C ∧ gs.length < 1000 ∧ De.nx ρ (μ2.set m (.ins C (putD f d gs))) | _ => False) := h2
    cases z : μ2[m]? with
    | none => rw [z] at h2; exact h2.elim
    | some w =>
      rw [z] at h2
      obtain ⟨b, hb, y⟩ := R2.mm.at_ m w z
      obtain rfl := Option.some.inj (q.symm.trans hb)
      cases w with
      | ins C' gs =>
        obtain ⟨hc, hl, h3⟩ := h2
        subst hc
        obtain ⟨dx, fs, e1, e2⟩ := y
        refine ⟨_, _, dx, fs, rfl, e1, c, n, by rw [e2.len]; exact hl, ?_⟩
        exact kn σ ρ _ as2 F2 _ (g1.trans g2) ⟨R2.mm.put (m := .ins C' (putD f d gs)) q ⟨dx, _, upd_same, e2.put (r1.up g2)⟩, R2.env⟩ h3
      | _ => exact h2.elim
/-! ### what a loop walks -/
end
section
variable {K : PySem.W.Frag} {as as' as1 : List Addr} {F F' F1 H H' H1 : Hp} {Ex : L2.St → XK}
structure ItD (K : PySem.W.Frag) (as : List Addr) (F : Hp) (J : It) (ds : List D) (chk : Mem → Prop) : Prop where
  go : ∀ Z i as' F' H' μ, Gr as F as' F' → Mm K Z as' F' H' μ → chk μ → i < ds.length → J.go i H'
  yld : ∀ Z i as' F' H' μ v H2 d, Gr as F as' F' → Mm K Z as' F' H' μ → chk μ → ds[i]? = some d → J.yld i H' v H2 → ∃ F2, Gr as' F' as' F2 ∧ Mm K Z as' F2 H2 μ ∧ Rep K as' F2 v d
  stop : ∀ Z i as' F' H' μ, Gr as F as' F' → Mm K Z as' F' H' μ → chk μ → ds.length ≤ i → J.stop i H'
abbrev DTI := Rho → Mem → (List D → (Mem → Prop) → Mem → Prop) → XD → Prop
def SimI (K : PySem.W.Frag) (Ex : L2.St → XK) (t : TI) (u : DTI) : Prop :=
  ∀ (Z : Hp) (as : List Addr) (F H : Hp) (σ : L2.St) (ρ : Rho) (μ : Mem) (R : List D → (Mem → Prop) → Mem → Prop) (E : XD) (R' : It → Hp → Prop), Rp K Z as F H σ ρ μ → XL K Ex Z as F E → u ρ μ R E →
    (∀ J ds chk μ' as' F' H', Gr as F as' F' → Rp K Z as' F' H' σ ρ μ' → ItD K as' F' J ds chk → R ds chk μ' → R' J H') → t σ H R'
/-- a list or a tuple, left as it is -/
def iSeq (K : PySem.W.Frag) (tl : TE) : TI := fun σ H R => tl σ H fun x H1 => ∃ a, x = .ref a ∧ (((∃ xs, SqL K H1 a xs) ∧ R (Itl K a) H1) ∨ ((∃ xs, SqT K H1 a xs) ∧ R (Itt K a) H1))
end
section
variable {X : Cx} {tg : Expr}
theorem pi_seq {l : Expr} {tl : TE} (hl : PE X l tl) : PI X tg l (iSeq X.K tl) := by
  refine ⟨fun pins s σ H R I h => ?_⟩
  refine thn (hl.run pins s σ H _ I h) fun v s1 ⟨x, H1, I1, r1, q1⟩ => ?_
  obtain ⟨a, e, ⟨⟨xs, hq⟩, q⟩ | ⟨⟨xs, hq⟩, q⟩⟩ := q1
  · subst e
    cases r1
    obtain ⟨its, rv, p, hz⟩ := I1.list hq
    refine wpAny_pyIter_list p.isList ?_
    refine ⟨s1.heap.objs.size, [s1.heap.objs.size], _, _, H1, rfl, I1.kept (t' := s1.toks) fun b o e => Heap.get?_push_of_some _ e, turn_list a _, ⟨_, Heap.get?_push_size _ rfl, rfl, rfl⟩, fun b hb => ?_, q⟩
    have e : b = s1.heap.objs.size := by simpa using hb
    subst e
    exact I1.fpOk (Nat.le_refl _) (I1.hok.fresh (Nat.le_refl _))
  · subst e
    cases r1
    obtain ⟨its, rv, p, hz⟩ := I1.tuple hq
    refine wpAny_pyIter_tuple (show s1.heap.IsTuple a its.toArray from p) ?_
    refine ⟨s1.heap.objs.size, [s1.heap.objs.size], _, _, H1, rfl, I1.kept (t' := s1.toks) fun b o e => Heap.get?_push_of_some _ e, turn_tuple a _, ⟨_, Heap.get?_push_size _ rfl, rfl, rfl⟩, fun b hb => ?_, q⟩
    have e : b = s1.heap.objs.size := by simpa using hb
    subst e
    exact I1.fpOk (Nat.le_refl _) (I1.hok.fresh (Nat.le_refl _))
end
section
variable {K : PySem.W.Frag} {Z : Hp} {as as' as1 : List Addr} {F F' F1 H H' H1 : Hp} {Ex : L2.St → XK}
def uISeq (u : DTE) : DTI := fun ρ μ R E => u ρ μ (fun x μ1 => match view μ1 x with
  | .lst ds => R ds (fun μ => view μ x = .lst ds) μ1
  | .tup ds => R ds (fun _ => True) μ1
  | _ => False) E
theorem view_tup_any {μ μ' : Mem} {d : D} {ds : List D} (h : view μ d = .tup ds) : view μ' d = .tup ds := by
  cases d with
  | ob k =>
    exfalso
    have h : (match μ[k]? with | some (M.lst ds) => D.lst ds | some (.ins C fs) => .ins C fs | _ => .ob k) = .tup ds := h
    split at h <;> cases h
  | _ => first | exact h | cases h
theorem itD_list {v : V} {d : D} {a : Addr} (ev : v = .ref a) (r : Rep K as F v d) {ds : List D} : ItD K as F (Itl K a) ds (fun μ => view μ d = .lst ds) := by
  subst ev
  have at_ : ∀ Z as' F' H' μ, Gr as F as' F' → Mm K Z as' F' H' μ → view μ d = .lst ds → ∃ vs, SqL K H' a vs ∧ RepL K as' F' vs ds := fun Z as' F' H' μ g M c => by
    obtain ⟨b, vs, e, q, x⟩ := view_lst M (r.up g) c
    cases e
    exact ⟨vs, q, x⟩
  refine ⟨fun Z i as' F' H' μ g M c hi => ?_, fun Z i as' F' H' μ v H2 d' g M c hd y => ?_, fun Z i as' F' H' μ g M c hi => ?_⟩
  · obtain ⟨vs, q, x⟩ := at_ Z as' F' H' μ g M c
    obtain ⟨w, w1, _⟩ := x.get (List.getElem?_eq_getElem hi)
    exact ⟨vs, w, q, w1⟩
  · obtain ⟨vs, q, x⟩ := at_ Z as' F' H' μ g M c
    obtain ⟨w, w1, w2⟩ := x.get hd
    obtain ⟨rfl, y⟩ := y
    obtain rfl := Option.some.inj (w1.symm.trans (y vs q))
    exact ⟨F', Gr.refl, M, w2⟩
  · obtain ⟨vs, q, x⟩ := at_ Z as' F' H' μ g M c
    exact ⟨vs, q, by rw [x.len]; exact hi⟩
theorem itD_tup {v : V} {d : D} {a : Addr} (ev : v = .ref a) (r : Rep K as F v d) {ds : List D} {μ0 : Mem} (e0 : view μ0 d = .tup ds) : ItD K as F (Itt K a) ds (fun _ => True) := by
  subst ev
  have at_ : ∀ Z as' F' H' μ, Gr as F as' F' → Mm K Z as' F' H' μ → ∃ vs, SqT K H' a vs ∧ RepL K as' F' vs ds := fun Z as' F' H' μ g M => by
    obtain ⟨b, vs, e, q, x⟩ := view_tup M (r.up g) (view_tup_any e0)
    cases e
    exact ⟨vs, q, x⟩
  refine ⟨fun Z i as' F' H' μ g M c hi => ?_, fun Z i as' F' H' μ v H2 d' g M c hd y => ?_, fun Z i as' F' H' μ g M c hi => ?_⟩
  · obtain ⟨vs, q, x⟩ := at_ Z as' F' H' μ g M
    obtain ⟨w, w1, _⟩ := x.get (List.getElem?_eq_getElem hi)
    exact ⟨vs, w, q, w1⟩
  · obtain ⟨vs, q, x⟩ := at_ Z as' F' H' μ g M
    obtain ⟨w, w1, w2⟩ := x.get hd
    obtain ⟨rfl, y⟩ := y
    obtain rfl := Option.some.inj (w1.symm.trans (y vs q))
    exact ⟨F', Gr.refl, M, w2⟩
  · obtain ⟨vs, q, x⟩ := at_ Z as' F' H' μ g M
    exact ⟨vs, q, by rw [x.len]; exact hi⟩
theorem sim_iSeq {t : TE} {u : DTE} (a : Sim K Ex t u) : SimI K Ex (iSeq K t) (uISeq u) := fun Z as F H σ ρ μ R E R' r X h k =>
  a Z as F H σ ρ μ _ E _ r X h fun v d μ1 as1 F1 H1 g1 R1 r1 h1 => by
    have h1 : (match view μ1 d with | .lst ds => R ds (fun μ => view μ d = .lst ds) μ1 | .tup ds => R ds (fun _ => True) μ1 | _ => False) := h1
    cases e : view μ1 d with
    | lst ds =>
      rw [e] at h1
      obtain ⟨p, vs, ev, q, x⟩ := view_lst R1.mm r1 e
      exact ⟨p, ev, .inl ⟨⟨vs, q⟩, k _ ds _ μ1 as1 F1 H1 g1 R1 (itD_list ev r1) h1⟩⟩
    | tup ds =>
      rw [e] at h1
      obtain ⟨p, vs, ev, q, x⟩ := view_tup R1.mm r1 e
      exact ⟨p, ev, .inr ⟨⟨vs, q⟩, k _ ds _ μ1 as1 F1 H1 g1 R1 (itD_tup ev r1 e) h1⟩⟩
    | _ => rw [e] at h1; exact h1.elim
/-! range -/
def dints (lo : Int) : Nat → List D
  | 0 => []
  | n + 1 => .int lo :: dints (lo + 1) n
theorem dints_len : ∀ (lo : Int) (n : Nat), (dints lo n).length = n
  | _, 0 => rfl
  | lo, n + 1 => congrArg Nat.succ (dints_len (lo + 1) n)
theorem dints_get : ∀ (lo : Int) (n i : Nat), i < n → (dints lo n)[i]? = some (.int (lo + i))
  | _, 0, _, h => absurd h (Nat.not_lt_zero _)
  | lo, n + 1, 0, _ => by show some (D.int lo) = _; simp
  | lo, n + 1, i + 1, h => by
    show (dints (lo + 1) n)[i]? = _
    rw [dints_get (lo + 1) n i (Nat.lt_of_succ_lt_succ h)]
    congr 2
    omega
theorem itD_rng {lo : Int} {n : Nat} : ItD K as F (Itr lo n) (dints lo n) (fun _ => True) := by
  refine ⟨fun Z i as' F' H' μ g M c hi => by rw [dints_len] at hi; exact hi, fun Z i as' F' H' μ v H2 d g M c hd y => ?_, fun Z i as' F' H' μ g M c hi => by rw [dints_len] at hi; exact hi⟩
  obtain ⟨rfl, rfl⟩ := y
  have hi : i < n := by
    have := (List.getElem?_eq_some_iff.mp hd).1
    rwa [dints_len] at this
  rw [dints_get lo n i hi] at hd
  cases hd
  exact ⟨F', Gr.refl, M, .int _⟩
def uIRng1 (u : DTA) : DTI := fun ρ μ R E => u ρ μ (fun ds μ1 => match ds with
  | [.int j] => (-(2 ^ 62) ≤ j ∧ j < 2 ^ 62) ∧ R (dints 0 j.toNat) (fun _ => True) μ1
  | _ => False) E
def uIRng2 (u : DTA) : DTI := fun ρ μ R E => u ρ μ (fun ds μ1 => match ds with
  | [.int i, .int j] => (-(2 ^ 62) ≤ i ∧ i < 2 ^ 62 ∧ -(2 ^ 62) ≤ j ∧ j < 2 ^ 62) ∧ R (dints i (j - i).toNat) (fun _ => True) μ1
  | _ => False) E
theorem sim_iRng1 {t : TA} {u : DTA} (a : SimA K Ex t u) : SimI K Ex (iRng1 t) (uIRng1 u) := fun Z as F H σ ρ μ R E R' r X h k =>
  a Z as F H σ ρ μ _ E _ r X h fun vs ds μ1 as1 F1 H1 g1 R1 r1 h1 => by
    have h1 : (match (generalizing := false) ds with | [.int j] => (-(2 ^ 62) ≤ j ∧ j < 2 ^ 62) ∧ R (dints 0 j.toNat) (fun _ => True) μ1 | _ => False) := h1
    split at h1
    · cases r1 with
      | cons ra rb =>
        cases ra
        cases rb
        exact ⟨_, rfl, h1.1.1, h1.1.2, k _ _ _ μ1 as1 F1 H1 g1 R1 itD_rng h1.2⟩
    · exact h1.elim
theorem sim_iRng2 {t : TA} {u : DTA} (a : SimA K Ex t u) : SimI K Ex (iRng2 t) (uIRng2 u) := fun Z as F H σ ρ μ R E R' r X h k =>
  a Z as F H σ ρ μ _ E _ r X h fun vs ds μ1 as1 F1 H1 g1 R1 r1 h1 => by
    have h1 : (match (generalizing := false) ds with | [.int i, .int j] => (-(2 ^ 62) ≤ i ∧ i < 2 ^ 62 ∧ -(2 ^ 62) ≤ j ∧ j < 2 ^ 62) ∧ R (dints i (j - i).toNat) (fun _ => True) μ1 | _ => False) := h1
    split at h1
    · cases r1 with
      | cons ra rb =>
        cases ra
        cases rb with
        | cons ra rb =>
          cases ra
          cases rb
          exact ⟨_, _, rfl, h1.1, k _ _ _ μ1 as1 F1 H1 g1 R1 itD_rng h1.2⟩
    · exact h1.elim
/-! ### for -/
def uForGo (ug : DTG) (ub : DTS) (chk : Mem → Prop) (De : DEnds) (E : XD) : List D → Rho → Mem → Prop
  | [], ρ, μ => chk μ ∧ De.nx ρ μ
  | d :: ds, ρ, μ => chk μ ∧ ug d ρ μ (fun ρ1 μ1 => ub { De with nx := uForGo ug ub chk De E ds, ct := uForGo ug ub chk De E ds, bk := De.nx } E ρ1 μ1) E
def uFor (ui : DTI) (ug : DTG) (ub : DTS) : DTS := fun De E ρ μ => ui ρ μ (fun ds chk μ1 => uForGo ug ub chk De E ds ρ μ1) E
theorem sim_for {wi : TI} {ui : DTI} {g : TG} {ug : DTG} {tb : TS} {ub : DTS} (i : SimI K Ex wi ui) (gs : SimG K Ex g ug) (b : SimS K Ex tb ub) : SimS K Ex (tFor wi g tb) (uFor ui ug ub) := fun Z as F H σ ρ μ De E D' R X h kn kr kb kc =>
  i Z as F H σ ρ μ _ E _ R X h fun J ds chk μ1 as1 F1 H1 g1 R1 it h1 => by
    refine ⟨fun i m σ' H' => m = ds.length - i ∧ i ≤ ds.length ∧ ∃ as' F' ρ' μ', Gr as1 F1 as' F' ∧ Rp K Z as' F' H' σ' ρ' μ' ∧ uForGo ug ub chk De E (ds.drop i) ρ' μ', ⟨ds.length, by simp, Nat.zero_le _, as1, F1, ρ, μ1, Gr.refl, R1, by rw [List.drop_zero]; exact h1⟩, ?_⟩
    rintro i m σ' H' ⟨rfl, hi, as', F', ρ', μ', g2, R2, q⟩
    by_cases hlt : i < ds.length
    · rw [List.drop_eq_getElem_cons hlt] at q
      obtain ⟨c, q⟩ := q
      refine .inr ⟨it.go Z i as' F' H' μ' g2 R2.mm c hlt, fun σ2 H2 => ∃ as3 F3 ρ3 μ3, Gr as1 F1 as3 F3 ∧ Rp K Z as3 F3 H2 σ2 ρ3 μ3 ∧ uForGo ug ub chk De E (ds.drop (i + 1)) ρ3 μ3, fun σ2 H2 n => ⟨ds.length - (i + 1), by omega, rfl, hlt, n⟩, fun x H2 y => ?_⟩
      obtain ⟨F2, g3, M3, r3⟩ := it.yld Z i as' F' H' μ' x H2 _ g2 R2.mm c (List.getElem?_eq_getElem hlt) y
      have R3 := R2.up g3 M3
      have g13 := g1.trans (g2.trans g3)
      refine gs Z as' F2 H2 σ' ρ' μ' x _ _ E _ R3 (X.up g13) r3 q fun σ4 ρ4 μ4 as4 F4 H4 g4 R4 q4 => ?_
      refine b Z as4 F4 H4 σ4 ρ4 μ4 _ E _ R4 (X.up (g13.trans g4)) q4 (fun σ5 ρ5 μ5 as5 F5 H5 g5 R5 q5 => ⟨as5, F5, ρ5, μ5, ((g2.trans g3).trans g4).trans g5, R5, q5⟩) (fun v d μ5 as5 F5 H5 g5 => kr v d μ5 as5 F5 H5 ((g13.trans g4).trans g5))
        (fun σ5 ρ5 μ5 as5 F5 H5 g5 R5 q5 => kn σ5 ρ5 μ5 as5 F5 H5 ((g13.trans g4).trans g5) R5 q5) (fun σ5 ρ5 μ5 as5 F5 H5 g5 R5 q5 => ⟨as5, F5, ρ5, μ5, ((g2.trans g3).trans g4).trans g5, R5, q5⟩)
    · have e : ds.drop i = [] := List.drop_eq_nil_of_le (by omega)
      rw [e] at q
      exact .inl ⟨it.stop Z i as' F' H' μ' g2 R2.mm q.1 (by omega), kn σ' ρ' μ' as' F' H' (g1.trans g2) R2 q.2⟩
/-! ### while -/
def uWhN (c : DTT) (b : DTS) (De : DEnds) (E : XD) : Nat → Rho → Mem → Prop
  | 0, _, _ => False
  | n + 1, ρ, μ => c ρ μ (fun t μ1 => if t = true then b { De with nx := uWhN c b De E n, ct := uWhN c b De E n, bk := De.nx } E ρ μ1 else De.nx ρ μ1) E
def uWhile (c : DTT) (b : DTS) : DTS := fun De E ρ μ => ∃ n, uWhN c b De E n ρ μ
theorem sim_while {tc : TT} {uc : DTT} {tb : TS} {ub : DTS} (c : SimT K Ex tc uc) (b : SimS K Ex tb ub) : SimS K Ex (tWhile tc tb) (uWhile uc ub) := fun Z as F H σ ρ μ De E D' R X h kn kr kb kc => by
  obtain ⟨n, h⟩ := h
  refine ⟨fun m σ' H' => ∃ as' F' ρ' μ', Gr as F as' F' ∧ Rp K Z as' F' H' σ' ρ' μ' ∧ uWhN uc ub De E m ρ' μ', ⟨n, as, F, ρ, μ, Gr.refl, R, h⟩, ?_⟩
  rintro m σ' H' ⟨as', F', ρ', μ', g, R2, q⟩
  cases m with
  | zero => exact q.elim
  | succ m =>
    refine c Z as' F' H' σ' ρ' μ' _ E _ R2 (X.up g) q fun t μ3 as3 F3 H3 g3 R3 q3 => ?_
    have gg := g.trans g3
    cases t with
    | true =>
      rw [if_pos rfl] at q3 ⊢
      refine ⟨fun σ4 H4 => ∃ as4 F4 ρ4 μ4, Gr as F as4 F4 ∧ Rp K Z as4 F4 H4 σ4 ρ4 μ4 ∧ uWhN uc ub De E m ρ4 μ4, fun σ4 H4 n4 => ⟨m, Nat.lt_succ_self _, n4⟩, ?_⟩
      exact b Z as3 F3 H3 σ' ρ' μ3 _ E _ R3 (X.up gg) q3 (fun σ5 ρ5 μ5 as5 F5 H5 g5 R5 q5 => ⟨as5, F5, ρ5, μ5, gg.trans g5, R5, q5⟩) (fun v d μ5 as5 F5 H5 g5 => kr v d μ5 as5 F5 H5 (gg.trans g5))
        (fun σ5 ρ5 μ5 as5 F5 H5 g5 R5 q5 => kn σ5 ρ5 μ5 as5 F5 H5 (gg.trans g5) R5 q5) (fun σ5 ρ5 μ5 as5 F5 H5 g5 R5 q5 => ⟨as5, F5, ρ5, μ5, gg.trans g5, R5, q5⟩)
    | false =>
      rw [if_neg Bool.false_ne_true] at q3 ⊢
      exact kn σ' ρ' μ3 as3 F3 H3 gg R3 q3
/-! ### comprehensions -/
theorem Mm.hide {μ : Mem} (M : Mm K Z as F H μ) {p : Addr} {o : HO} (n : H p = none) : Mm K (upd Z p o) as F (upd H p o) μ := by
  refine ⟨M.same.trans (same_upd n), M.len, M.nd, M.fr, fun k m e => ?_, fun a o' e => ?_⟩
  · obtain ⟨a, ha, x⟩ := M.at_ k m e
    exact ⟨a, ha, x.up Gr.refl (upd_ne (fun z : a = p => M.new n (by rw [← z]; exact List.mem_of_getElem? ha)))⟩
  · by_cases z : a = p
    · subst z
      rw [upd_same] at e ⊢
      exact ⟨e, M.newF n, M.new n⟩
    · rw [upd_ne z] at e ⊢
      exact M.hid a o' e
theorem Mm.rehide {μ : Mem} {p : Addr} {o o' : HO} (M : Mm K (upd Z p o) as F H μ) : Mm K (upd Z p o') as F (upd H p o') μ := by
  obtain ⟨e1, e2, e3⟩ := M.hid p o upd_same
  refine ⟨fun b u e => ?_, M.len, M.nd, M.fr, fun k m e => ?_, fun a u e => ?_⟩
  · rw [upd_ne (ne_of_none e e2)]; exact M.same _ _ e
  · obtain ⟨a, ha, x⟩ := M.at_ k m e
    exact ⟨a, ha, x.up Gr.refl (upd_ne (fun z : a = p => e3 (by rw [← z]; exact List.mem_of_getElem? ha)))⟩
  · by_cases z : a = p
    · subst z
      rw [upd_same] at e ⊢
      exact ⟨e, e2, e3⟩
    · rw [upd_ne z] at e ⊢
      exact M.hid a u (by rw [upd_ne z]; exact e)
theorem Mm.showF {μ : Mem} {p : Addr} {o : HO} (M : Mm K (upd Z p o) as F H μ) (nz : Z p = none) : Mm K Z as (upd F p o) H μ ∧ Gr as F as (upd F p o) := by
  obtain ⟨e1, e2, e3⟩ := M.hid p o upd_same
  refine ⟨⟨fun b u e => ?_, M.len, M.nd, fun a ha => ?_, fun k m e => ?_, fun a u e => ?_⟩, Gr.upd e2⟩
  · by_cases z : b = p
    · subst z; rw [upd_same] at e; rw [← e]; exact e1
    · rw [upd_ne z] at e; exact M.same _ _ e
  · rw [upd_ne (fun z : a = p => e3 (by rw [← z]; exact ha))]; exact M.fr a ha
  · obtain ⟨a, ha, x⟩ := M.at_ k m e
    exact ⟨a, ha, x.up (Gr.upd e2) rfl⟩
  · have ne : a ≠ p := ne_of_none e nz
    obtain ⟨h1, h2, h3⟩ := M.hid a u (by rw [upd_ne ne]; exact e)
    exact ⟨h1, by rw [upd_ne ne]; exact h2, h3⟩
theorem Mm.showM {μ : Mem} {p : Addr} {o : HO} {m : DX.M} (M : Mm K (upd Z p o) as F H μ) (nz : Z p = none) (x : MAt K (as ++ [p]) F H p m) : Mm K Z (as ++ [p]) F H (μ ++ [m]) := by
  obtain ⟨e1, e2, e3⟩ := M.hid p o upd_same
  refine ⟨M.same, by rw [List.length_append, List.length_append, M.len]; rfl, List.nodup_append.mpr ⟨M.nd, List.nodup_cons.mpr ⟨List.not_mem_nil, List.nodup_nil⟩, fun a ha b hb => ?_⟩, fun a ha => ?_, fun k m' e => ?_, fun a u e => ?_⟩
  · rw [List.mem_singleton.mp hb]
    exact fun z => e3 (by rw [← z]; exact ha)
  · rcases List.mem_append.mp ha with z | z
    · exact M.fr a z
    · rw [List.mem_singleton.mp z]; exact e2
  · by_cases hk : k < μ.length
    · rw [List.getElem?_append_left hk] at e
      obtain ⟨a, ha, y⟩ := M.at_ k m' e
      exact ⟨a, (Gr.add (F := F)).p k a ha, y.up Gr.add rfl⟩
    · rw [List.getElem?_append_right (by omega)] at e
      have hz : k - μ.length = 0 := by
        have := (List.getElem?_eq_some_iff.mp e).1
        simp at this
        omega
      rw [hz] at e
      cases e
      refine ⟨p, ?_, x⟩
      rw [List.getElem?_append_right (by have := M.len; omega), M.len, hz]
      rfl
  · have ne : a ≠ p := ne_of_none e nz
    obtain ⟨h1, h2, h3⟩ := M.hid a u (by rw [upd_ne ne]; exact e)
    exact ⟨h1, h2, fun z => (List.mem_append.mp z).elim h3 fun z => ne (List.mem_singleton.mp z)⟩
def wipeD (ρ : Rho) : List Nat → Rho
  | [] => ρ
  | v :: vs => (wipeD ρ vs).set v none
theorem EnvR.wipe {σ : L2.St} {ρ : Rho} (h : EnvR K as F σ ρ) : ∀ vs : List Nat, EnvR K as F (L2.wipe σ vs) (wipeD ρ vs)
  | [] => h
  | v :: vs => (EnvR.wipe h vs).unset v
/-- a target that stores within vs alone -/
def Wip (g : TG) (vs : List Nat) : Prop := ∀ v σ H Q, g v σ H Q → g v σ H (fun σ2 H2 => L2.wipe σ2 vs = L2.wipe σ vs ∧ Q σ2 H2)
def Wips (g : TGs) (vs : List Nat) : Prop := ∀ v σ H Q, g v σ H Q → g v σ H (fun σ2 H2 => L2.wipe σ2 vs = L2.wipe σ vs ∧ Q σ2 H2)
theorem wipe_in : ∀ {vs : List Nat} {σ : L2.St} {i : Nat}, i ∈ vs → i < σ.length → (L2.wipe σ vs)[i]? = some none
  | [], _, _, h, _ => absurd h List.not_mem_nil
  | v :: vs, σ, i, h, hl => by
    unfold L2.wipe
    by_cases e : v = i
    · subst e
      rw [List.getElem?_set_self (by rw [wipe_length]; exact hl)]
    · rw [List.getElem?_set_ne e]
      exact wipe_in ((List.mem_cons.mp h).resolve_left fun z => e z.symm) hl
theorem wipe_set {vs : List Nat} {i : Nat} {x : Option V} (hi : i ∈ vs) (σ : L2.St) : L2.wipe (σ.set i x) vs = L2.wipe σ vs := by
  refine List.ext_getElem? fun j => ?_
  by_cases hj : j ∈ vs
  · by_cases hl : j < σ.length
    · rw [wipe_in hj hl, wipe_in hj (by rw [List.length_set]; exact hl)]
    · rw [List.getElem?_eq_none (by rw [wipe_length, List.length_set]; omega), List.getElem?_eq_none (by rw [wipe_length]; omega)]
  · rw [wipe_out hj, wipe_out hj, List.getElem?_set_ne (fun z : i = j => hj (by rw [← z]; exact hi))]
theorem wip_name {i : Nat} {vs : List Nat} (h : i ∈ vs) : Wip (gName i) vs := fun v σ H Q q => ⟨wipe_set h σ, q⟩
theorem wip_nil {vs : List Nat} : Wips gNil vs := fun v σ H Q q => ⟨q.1, rfl, q.2⟩
theorem wip_cons {g : TG} {gs : TGs} {vs : List Nat} (mono : ∀ v σ H Q Q', (∀ σ H, Q σ H → Q' σ H) → g v σ H Q → g v σ H Q') (mono2 : ∀ v σ H Q Q', (∀ σ H, Q σ H → Q' σ H) → gs v σ H Q → gs v σ H Q') (a : Wip g vs) (b : Wips gs vs) : Wips (gCons g gs) vs := fun v σ H Q q => by
  obtain ⟨x, r, rfl, q⟩ := q
  refine ⟨x, r, rfl, mono _ _ _ _ _ (fun σ1 H1 ⟨e, z⟩ => ?_) (a _ _ _ _ q)⟩
  exact mono2 _ _ _ _ _ (fun σ2 H2 ⟨e2, z2⟩ => ⟨e2.trans e, z2⟩) (b _ _ _ _ z)
theorem wip_tup {gs : TGs} {vs : List Nat} {n : Nat} (b : Wips gs vs) : Wip (gTup K n gs) vs := fun v σ H Q q => by
  obtain ⟨a, xs, e, hq, hl, q⟩ := q
  exact ⟨a, xs, e, hq, hl, b _ _ _ _ q⟩
theorem mono_name {i : Nat} : ∀ v σ H Q Q', (∀ σ H, Q σ H → Q' σ H) → gName i v σ H Q → gName i v σ H Q' := fun v σ H Q Q' h q => h _ _ q
theorem mono_nil : ∀ v σ H Q Q', (∀ σ H, Q σ H → Q' σ H) → gNil v σ H Q → gNil v σ H Q' := fun v σ H Q Q' h q => ⟨q.1, h _ _ q.2⟩
theorem mono_cons {g : TG} {gs : TGs} (mono : ∀ v σ H Q Q', (∀ σ H, Q σ H → Q' σ H) → g v σ H Q → g v σ H Q') (mono2 : ∀ v σ H Q Q', (∀ σ H, Q σ H → Q' σ H) → gs v σ H Q → gs v σ H Q') : ∀ v σ H Q Q', (∀ σ H, Q σ H → Q' σ H) → gCons g gs v σ H Q → gCons g gs v σ H Q' := fun v σ H Q Q' h q => by
  obtain ⟨x, r, rfl, q⟩ := q
  exact ⟨x, r, rfl, mono _ _ _ _ _ (fun σ1 H1 z => mono2 _ _ _ _ _ h z) q⟩
theorem mono_tup {gs : TGs} {n : Nat} (mono2 : ∀ v σ H Q Q', (∀ σ H, Q σ H → Q' σ H) → gs v σ H Q → gs v σ H Q') : ∀ v σ H Q Q', (∀ σ H, Q σ H → Q' σ H) → gTup K n gs v σ H Q → gTup K n gs v σ H Q' := fun v σ H Q Q' h q => by
  obtain ⟨a, xs, e, hq, hl, q⟩ := q
  exact ⟨a, xs, e, hq, hl, mono2 _ _ _ _ _ h q⟩
def uLcGo (ug : DTG) (ut : DTT) (ue : DTE) (ρw : Rho) (chk : Mem → Prop) (fin : List D → Mem → Prop) : List D → List D → Mem → Prop
  | [], acc, μ => chk μ ∧ fin acc μ
  | d :: ds, acc, μ => chk μ ∧ ug d ρw μ (fun ρ1 μ1 => ut ρ1 μ1 (fun b μ2 => if b = true then ue ρ1 μ2 (fun y μ3 => acc.length < 1000000 ∧ uLcGo ug ut ue ρw chk fin ds (acc ++ [y]) μ3) XN else uLcGo ug ut ue ρw chk fin ds acc μ2) XN) XN
def uLc (m : Bool) (ui : DTI) (ug : DTG) (ut : DTT) (ue : DTE) (vs : List Nat) : DTE := fun ρ μ Q E => ui ρ μ (fun ds chk μ1 =>
  uLcGo ug ut ue (wipeD ρ vs) chk (fun acc μ2 => if m = true then Q (.ob μ2.length) (μ2 ++ [.lst acc]) else Q (.lst acc) μ2) ds [] μ1) E
def uYes : DTT := fun _ μ Q _ => Q true μ
theorem sim_yes : SimT K Ex tYes uYes := fun Z as F H σ ρ μ Q E Q' R X h k => k true μ as F H Gr.refl R h
theorem wipe_wipe (σ : L2.St) (vs : List Nat) : L2.wipe (L2.wipe σ vs) vs = L2.wipe σ vs := by
  refine List.ext_getElem? fun j => ?_
  by_cases hj : j ∈ vs
  · by_cases hl : j < σ.length
    · rw [wipe_in hj hl, wipe_in hj (by rw [wipe_length]; exact hl)]
    · rw [List.getElem?_eq_none (by rw [wipe_length, wipe_length]; omega), List.getElem?_eq_none (by rw [wipe_length]; omega)]
  · rw [wipe_out hj]
theorem sim_lc (m : Bool) {wi : TI} {ui : DTI} {g : TG} {ug : DTG} {tt : TT} {ut : DTT} {te : TE} {ue : DTE} {vs : List Nat} (i : SimI K Ex wi ui) (gs : SimG K X0 g ug) (ts : SimT K X0 tt ut) (es : Sim K X0 te ue) (wp : Wip g vs) (mono : ∀ v σ H Q Q', (∀ σ H, Q σ H → Q' σ H) → g v σ H Q → g v σ H Q') :
    Sim K Ex (tLc wi g tt te vs) (uLc m ui ug ut ue vs) := fun Z as F H σ ρ μ Q E Q' R X h k =>
  i Z as F H σ ρ μ _ E _ R X h fun J ds chk μ1 as1 F1 H1 g1 R1 it h1 => fun D nD => by
    have nZ : Z D = none := by
      cases e : Z D with
      | none => rfl
      | some o => have := (R1.mm.hid D o e).1; rw [nD] at this; cases this
    refine ⟨fun i n H' => n = ds.length - i ∧ i ≤ ds.length ∧ ∃ as' F' μ' av acc, Gr as1 F1 as' F' ∧ RepL K as' F' av acc ∧ Mm K (upd Z D (.lst av)) as' F' H' μ' ∧ uLcGo ug ut ue (wipeD ρ vs) chk (fun acc μ2 => if m = true then Q (.ob μ2.length) (μ2 ++ [.lst acc]) else Q (.lst acc) μ2) (ds.drop i) acc μ',
      ⟨ds.length, by simp, Nat.zero_le _, as1, F1, μ1, [], [], Gr.refl, .nil, R1.mm.hide nD, by rw [List.drop_zero]; exact h1⟩, ?_⟩
    rintro i n H' ⟨rfl, hi, as', F', μ', av, acc, g2, ra, M2, q⟩
    have ha := (M2.hid D _ upd_same).1
    by_cases hlt : i < ds.length
    · rw [List.drop_eq_getElem_cons hlt] at q
      obtain ⟨c, q⟩ := q
      refine .inr ⟨it.go _ i as' F' H' μ' g2 M2 c hlt, fun H3 => ∃ as3 F3 μ3 av acc, Gr as1 F1 as3 F3 ∧ RepL K as3 F3 av acc ∧ Mm K (upd Z D (.lst av)) as3 F3 H3 μ3 ∧ uLcGo ug ut ue (wipeD ρ vs) chk (fun acc μ2 => if m = true then Q (.ob μ2.length) (μ2 ++ [.lst acc]) else Q (.lst acc) μ2) (ds.drop (i + 1)) acc μ3,
        fun H3 z => ⟨ds.length - (i + 1), by omega, rfl, hlt, z⟩, fun x H2 y => ?_⟩
      obtain ⟨F2, g3, M3, r3⟩ := it.yld _ i as' F' H' μ' x H2 _ g2 M2 c (List.getElem?_eq_getElem hlt) y
      have gA := g2.trans g3
      have R3 : Rp K (upd Z D (.lst av)) as' F2 H2 (L2.wipe σ vs) (wipeD ρ vs) μ' := ⟨M3, (R1.env.up gA).wipe vs⟩
      refine mono _ _ _ _ _ (fun σ2 H2 z => ?_) (wp _ _ _ _ (gs _ as' F2 H2 (L2.wipe σ vs) (wipeD ρ vs) μ' x _ _ XN (fun σ4 H4 => tt σ4 H4 fun b H5 => if b = true then te σ4 H5 fun y H6 => ∃ a2, H6 D = some (.lst a2) ∧ a2.length < sizeLine ∧ (∃ as3 F3 μ3 av acc, Gr as1 F1 as3 F3 ∧ RepL K as3 F3 av acc ∧ Mm K (upd Z D (.lst av)) as3 F3 (upd H6 D (.lst (a2 ++ [y]))) μ3 ∧ uLcGo ug ut ue (wipeD ρ vs) chk (fun acc μ2 => if m = true then Q (.ob μ2.length) (μ2 ++ [.lst acc]) else Q (.lst acc) μ2) (ds.drop (i + 1)) acc μ3)
          else ∃ as3 F3 μ3 av acc, Gr as1 F1 as3 F3 ∧ RepL K as3 F3 av acc ∧ Mm K (upd Z D (.lst av)) as3 F3 H5 μ3 ∧ uLcGo ug ut ue (wipeD ρ vs) chk (fun acc μ2 => if m = true then Q (.ob μ2.length) (μ2 ++ [.lst acc]) else Q (.lst acc) μ2) (ds.drop (i + 1)) acc μ3) R3 XL.no r3 q fun σ4 ρ4 μ4 as4 F4 H4 g4 R4 q4 => ?_))
      · exact ⟨z.1.trans (wipe_wipe σ vs), z.2⟩
      · refine ts _ as4 F4 H4 σ4 ρ4 μ4 _ XN _ R4 XL.no q4 fun b μ5 as5 F5 H5 g5 R5 q5 => ?_
        have gB := (gA.trans g4).trans g5
        have rB := ((ra.up g3).up g4).up g5
        cases b with
        | false =>
          rw [if_neg Bool.false_ne_true] at q5 ⊢
          exact ⟨as5, F5, μ5, av, acc, gB, rB, R5.mm, q5⟩
        | true =>
          rw [if_pos rfl] at q5 ⊢
          refine es _ as5 F5 H5 σ4 ρ4 μ5 _ XN _ R5 XL.no q5 fun w d6 μ6 as6 F6 H6 g6 R6 r6 q6 => ?_
          have rC := rB.up g6
          refine ⟨av, (R6.mm.hid D _ upd_same).1, ?_, as6, F6, μ6, av ++ [w], acc ++ [d6], gB.trans g6, rC.append (.cons r6 .nil), R6.mm.rehide, q6.2⟩
          rw [rC.len]
          exact Nat.lt_of_lt_of_le q6.1 (by decide)
    · have e : ds.drop i = [] := List.drop_eq_nil_of_le (by omega)
      rw [e] at q
      obtain ⟨c, q⟩ := q
      refine .inl ⟨it.stop _ i as' F' H' μ' g2 M2 c (by omega), ?_⟩
      have gA := g1.trans g2
      cases m with
      | true =>
        have q : (if true = true then Q (.ob μ'.length) (μ' ++ [.lst acc]) else Q (.lst acc) μ') := q
        rw [if_pos rfl] at q
        have M4 := M2.showM (m := .lst acc) nZ ⟨av, ha, ra.up Gr.add⟩
        exact k _ _ _ _ F' H' (gA.trans Gr.add) ⟨M4, R1.env.up (g2.trans Gr.add)⟩ (rep_ob M2.len) q
      | false =>
        have q : (if false = true then Q (.ob μ'.length) (μ' ++ [.lst acc]) else Q (.lst acc) μ') := q
        rw [if_neg Bool.false_ne_true] at q
        obtain ⟨M4, g4⟩ := M2.showF nZ
        exact k _ _ μ' as' _ H' (gA.trans g4) ⟨M4, R1.env.up (g2.trans g4)⟩ (.lst upd_same (ra.up g4)) q
end
end DX
set_option Elab.async false
set_option linter.all false
set_option maxRecDepth 100000
set_option maxHeartbeats 4000000
namespace DX
open PySem PySem.Spec PyProof.Rows L2
/-! ### rules and readings in one -/
section
variable {X : Cx} {K : PySem.W.Frag} {Ex : L2.St → XK} {pos : Pos} {a b c e : Expr} {es : List Expr} {ta tb tc te : TE} {ua ub uc ue : DTE} {t : TA} {u : DTA} {r r' : R2} {dr dr' : DR2} {x : Str}
theorem d_var (i : Nat) {x : Str} {pos : Pos} (hN : X.N[i]? = some x := by rfl) (hv : Vis X.env.scope x := by first | exact Or.inl rfl | exact Or.inr (Or.inl rfl) | exact Or.inr (Or.inr rfl)) (hd : (x == ("__debug__" : Str)) = false := by decide)
    (hcd : (x == ("__classdict__" : Str)) = false := by decide) : PD X K Ex (.Name x pos) (tVar i) (uVar i) := ⟨pv i hN hv hd hcd, sim_var i⟩
theorem d_int {i j pos} : PD X K Ex (.Constant (.int i) j pos) (tC (.int i)) (uC (.int i)) := ⟨pe_int, sim_c fun _ _ => .int _⟩
theorem d_bl {b j pos} : PD X K Ex (.Constant (.bool b) j pos) (tC (.bl b)) (uC (.bl b)) := ⟨pe_bl, sim_c fun _ _ => .bl _⟩
theorem d_non {j pos} : PD X K Ex (.Constant .none j pos) (tC .non) (uC .non) := ⟨pe_non, sim_c fun _ _ => .non⟩
theorem d_str {x j pos} : PD X K Ex (.Constant (.str x) j pos) (tC (.str x)) (uC (.str x)) := ⟨pe_str, sim_c fun _ _ => .str _⟩
theorem d_glob {x : Str} {v : V} {d : D} {u : Value} {pos : Pos} (hm : X.mg x = some u) (r : RelV v u) (rep : ∀ as F, Rep K as F v d) (hg : Gl X x := by rfl) (hd : (x == ("__debug__" : Str)) = false := by decide) : PD X K Ex (.Name x pos) (tC v) (uC d) := ⟨pe_glob hg hm r hd, sim_c rep⟩
theorem a_nil : AD X K Ex [] tNil uNil := ⟨pa_nil, sim_nil⟩
theorem a_cons (h : PD X K Ex e te ue) (r : AD X K Ex es t u) (hs : starEach (e :: es) X.env = (false, eval e X.env) :: starEach es X.env := by rfl) : AD X K Ex (e :: es) (tCons te t) (uCons ue u) := ⟨pa_cons h.pe r.pe hs, sim_cons h.sim r.sim⟩
theorem d_tup {x1} (h : AD X K Ex es t u) : PD X K Ex (.Tuple es x1 pos) (tTup t) (uTup u) := ⟨pe_tup h.pe, sim_tup h.sim⟩
theorem d_lst (h : AD X K Ex es t u) : PD X K Ex (.List es pos) (tLst t) (uLst u) := ⟨pe_lst h.pe, sim_lst h.sim⟩
theorem d_lstM (h : AD X K Ex es t u) : PD X K Ex (.List es pos) (tLst t) (uLstM u) := ⟨pe_lst h.pe, sim_lstM h.sim⟩
theorem d_op {op : Operator} (ho : OpR X (binaryOp op) r) (s : SimR K r dr) (ha : PD X K Ex a ta ua) (hb : PD X K Ex b tb ub) : PD X K Ex (.BinOp a op b pos) (tOp r ta tb) (uOp dr ua ub) := ⟨pe_op ho ha.pe hb.pe, sim_op s ha.sim hb.sim⟩
theorem d_un {f : Int → Int} {op : UnaryOp} (ho : UnR X (unaryOp op) (rU fun i => .int (f i))) (ha : PD X K Ex a ta ua) : PD X K Ex (.UnaryOp op a pos) (tUn (rU fun i => .int (f i)) ta) (uUn (fun i => .int (f i)) ua) := ⟨pe_un ho ha.pe, sim_un ha.sim⟩
theorem d_cmp {op : CmpOp} (ho : OpR X (compareOp op) r) (s : SimR K r dr) (ha : PD X K Ex a ta ua) (hb : PD X K Ex b tb ub) (hm : behindInMarks op b = false) : PD X K Ex (.Compare a [op] [b] pos) (tOp r ta tb) (uOp dr ua ub) := ⟨pe_cmpR ho ha.pe hb.pe hm, sim_op s ha.sim hb.sim⟩
theorem t_cmp {op : CmpOp} (ho : OpR X (compareOp op) r) (s : SimR K r dr) (ha : PD X K Ex a ta ua) (hb : PD X K Ex b tb ub) (hm : behindInMarks op b = false) : TD X K Ex (.Compare a [op] [b] pos) (tTest (tOp r ta tb)) (uTest (uOp dr ua ub)) := ⟨pt_cmpR ho ha.pe hb.pe hm, sim_test (sim_op s ha.sim hb.sim)⟩
theorem d_isN {j pos2} (ha : PD X K Ex a ta ua) : PD X K Ex (.Compare a [.Is] [.Constant .none j pos2] pos) (tOp (fun x y H Q => y = .non ∧ Q (.bl (decide (x = .non))) H) ta (tC .non)) (uIsN false ua) := ⟨pe_cmpR op_isN ha.pe pe_non (nomark _), sim_isN ha.sim⟩
theorem d_notN {j pos2} (ha : PD X K Ex a ta ua) : PD X K Ex (.Compare a [.IsNot] [.Constant .none j pos2] pos) (tOp (fun x y H Q => y = .non ∧ Q (.bl (!decide (x = .non))) H) ta (tC .non)) (uIsN true ua) := ⟨pe_cmpR op_notN ha.pe pe_non (nomark _), sim_notN ha.sim⟩
theorem t_isN {j pos2} (ha : PD X K Ex a ta ua) : TD X K Ex (.Compare a [.Is] [.Constant .none j pos2] pos) (tTest (tOp (fun x y H Q => y = .non ∧ Q (.bl (decide (x = .non))) H) ta (tC .non))) (uTest (uIsN false ua)) := ⟨pt_cmpR op_isN ha.pe pe_non (nomark _), sim_test (sim_isN ha.sim)⟩
theorem t_notN {j pos2} (ha : PD X K Ex a ta ua) : TD X K Ex (.Compare a [.IsNot] [.Constant .none j pos2] pos) (tTest (tOp (fun x y H Q => y = .non ∧ Q (.bl (!decide (x = .non))) H) ta (tC .non))) (uTest (uIsN true ua)) := ⟨pt_cmpR op_notN ha.pe pe_non (nomark _), sim_test (sim_notN ha.sim)⟩
theorem d_chain {op op' : CmpOp} (ho : OpR X (compareOp op) r) (s : SimR K r dr) (ho' : OpR X (compareOp op') r') (s' : SimR K r' dr') (ha : PD X K Ex a ta ua) (hb : PD X K Ex b tb ub) (hc : PD X K Ex c tc uc) (hm : lastMarks [op, op'] [b, c] = false := by with_unfolding_all rfl) :
    PD X K Ex (.Compare a [op, op'] [b, c] pos) (tChain r r' ta tb tc) (uChain dr dr' ua ub uc) := ⟨pe_chain ho ho' ha.pe hb.pe hc.pe hm, sim_chain s s' ha.sim hb.sim hc.sim⟩
theorem t_chain {op op' : CmpOp} (ho : OpR X (compareOp op) r) (s : SimR K r dr) (ho' : OpR X (compareOp op') r') (s' : SimR K r' dr') (ha : PD X K Ex a ta ua) (hb : PD X K Ex b tb ub) (hc : PD X K Ex c tc uc) (hm : lastMarks [op, op'] [b, c] = false := by with_unfolding_all rfl) :
    TD X K Ex (.Compare a [op, op'] [b, c] pos) (tTest (tChain r r' ta tb tc)) (uTest (uChain dr dr' ua ub uc)) := ⟨pt_chain ho ho' ha.pe hb.pe hc.pe hm, sim_test (sim_chain s s' ha.sim hb.sim hc.sim)⟩
theorem t_val (h : PD X K Ex e te ue) (he : ∀ whole, isTrue e X.env whole = (do let v ← whole; standAt e.pos; holding [v] (truthy v)) := by intro _; rfl) : TD X K Ex e (tB te) (uTest ue) := ⟨pt_val h.pe he, sim_test h.sim⟩
theorem t_tru (h : PD X K Ex e te ue) (hK : X.K = K := by rfl) (he : ∀ whole, isTrue e X.env whole = (do let v ← whole; standAt e.pos; holding [v] (truthy v)) := by intro _; rfl) : TD X K Ex e (fun σ H Q => te σ H fun x H' => ∃ k, TruV K x H' k ∧ Q k H') (uTru ue) := by
  subst hK
  exact ⟨pt_truth h.pe he, sim_tru h.sim⟩
variable {tA tB' : TT} {uA uB : DTT} {rest : List Expr}
theorem w_and1 (h : TD X K Ex a tA uA) : WD X K Ex (.BoolOp .And [a] pos) tA uA := ⟨pw_and1 h.pe, h.sim⟩
theorem w_or1 (h : TD X K Ex a tA uA) : WD X K Ex (.BoolOp .Or [a] pos) tA uA := ⟨pw_or1 h.pe, h.sim⟩
theorem w_and (h : TD X K Ex a tA uA) (g : WD X K Ex (.BoolOp .And (b :: rest) pos) tB' uB) : WD X K Ex (.BoolOp .And (a :: b :: rest) pos) (tAnd tA tB') (uAndB uA uB) := ⟨pw_and h.pe g.pe, sim_andB h.sim g.sim⟩
theorem w_or (h : TD X K Ex a tA uA) (g : WD X K Ex (.BoolOp .Or (b :: rest) pos) tB' uB) : WD X K Ex (.BoolOp .Or (a :: b :: rest) pos) (tOr tA tB') (uOrB uA uB) := ⟨pw_or h.pe g.pe, sim_orB h.sim g.sim⟩
theorem WD.td (h : WD X K Ex e tA uA) : TD X K Ex e tA uA := ⟨PW.pt h.pe, h.sim⟩
theorem t_not (h : TD X K Ex a tA uA) : TD X K Ex (.UnaryOp .Not a pos) (tNot tA) (uNotB uA) := ⟨pt_not h.pe, sim_notB h.sim⟩
theorem d_one {op} (h : PD X K Ex a ta ua) : PD X K Ex (.BoolOp op [a] pos) ta ua := ⟨pe_one h.pe, h.sim⟩
theorem d_and (h : PD X K Ex a ta ua) (g : PD X K Ex (.BoolOp .And (b :: rest) pos) tb ub) (hK : X.K = K := by rfl) : PD X K Ex (.BoolOp .And (a :: b :: rest) pos) (tAndT K ta tb) (uAnd ua ub) := by
  subst hK
  exact ⟨pe_andT h.pe g.pe, sim_and h.sim g.sim⟩
theorem d_or (h : PD X K Ex a ta ua) (g : PD X K Ex (.BoolOp .Or (b :: rest) pos) tb ub) (hK : X.K = K := by rfl) : PD X K Ex (.BoolOp .Or (a :: b :: rest) pos) (tOrT K ta tb) (uOr ua ub) := by
  subst hK
  exact ⟨pe_orT h.pe g.pe, sim_or h.sim g.sim⟩
theorem d_not (h : PD X K Ex a ta ua) (hK : X.K = K := by rfl) : PD X K Ex (.UnaryOp .Not a pos) (tNotT K ta) (uNot ua) := by
  subst hK
  exact ⟨pe_notT h.pe, sim_not h.sim⟩
theorem d_ifExp (h : TD X K Ex c tA uA) (ha : PD X K Ex a ta ua) (hb : PD X K Ex b tb ub) : PD X K Ex (.IfExp c a b pos) (tIf tA ta tb) (uIf uA ua ub) := ⟨pe_ifExp h.pe ha.pe hb.pe, sim_if h.sim ha.sim hb.sim⟩
/-! subscripts, slices, fields -/
theorem d_ix (ha : PD X K Ex a ta ua) (hb : PD X K Ex b tb ub) (hK : X.K = K := by rfl) (hs : PlainIx b := by exact fun _ _ => rfl) : PD X K Ex (.Subscript a b pos) (tOp (rIx K) ta tb) (uOp dIx ua ub) := ⟨pe_ix (ix_A hK) ha.pe hb.pe hs, sim_op sim_ix ha.sim hb.sim⟩
structure OD (X : Cx) (K : PySem.W.Frag) (Ex : L2.St → XK) (e : Option Expr) (t : TO) (u : DTO) : Prop where
  pe : PO X e t
  sim : SimO K Ex t u
theorem o_none : OD X K Ex none tNoPart uNoPart := ⟨po_none, sim_noPart⟩
theorem o_some (h : PD X K Ex e te ue) : OD X K Ex (some e) (tPart te) (uPart ue) := ⟨po_some h.pe, sim_part h.sim⟩
theorem d_sl (m : Bool) {lo hi : Option Expr} {tl th : TO} {ul uh : DTO} {p2 : Pos} (ha : PD X K Ex a ta ua) (hl : OD X K Ex lo tl ul) (hh : OD X K Ex hi th uh) (hK : X.K = K := by rfl) : PD X K Ex (.Subscript a (.Slice lo hi none p2) pos) (tSl (rSlAll K) ta tl th) (uSl m ua ul uh) := ⟨pe_slice (sl_A hK) ha.pe hl.pe hh.pe, sim_sl m ha.sim hl.sim hh.sim⟩
theorem d_fld {C : Addr} {f : Str} (cl : Cls K C) (n : NoAttr K C f) (h : PD X K Ex e te ue) (hK : X.K = K := by rfl) (hb : attributeBase e f X.env (eval e X.env) = eval e X.env := by rfl) : PD X K Ex (.Attribute e f pos) (tFld K te f) (uFld C f ue) := by
  subst hK
  exact ⟨pe_fld h.pe hb, sim_fld cl n h.sim⟩
/-! built-in calls -/
variable {rc : List V → Hp → VK → Prop} {dc : DC} {id T : String} {p : Pos}
theorem d_callB (hc : CallR X (.builtin id) rc) (s : SimC K rc dc) (hm : X.mg x = none) (ha : AD X K Ex (e :: es) t u) (hg : Gl X x := by rfl) (hv : bootBuiltins x = some (.builtin id) := by decide +kernel) (hn : x ≠ "__name__" := by decide) (hdb : (x == ("__debug__" : Str)) = false := by decide)
    (he : starEach (e :: es) X.env = (false, eval e X.env) :: starEach es X.env := by rfl) (hpl : (backTo pos (starEach es X.env)).any (·.1) = false := by rfl) : PD X K Ex (.Call (.Name x p) (e :: es) [] pos) (tCB rc t) (uCB dc u) := ⟨pe_callB hc hg hm hv ha.pe hn hdb he hpl, sim_cb s ha.sim⟩
theorem d_callTy (hc : CallR X (.type T) rc) (s : SimC K rc dc) (hm : X.mg x = none) (ha : AD X K Ex (e :: es) t u) (hg : Gl X x := by rfl) (hv : bootBuiltins x = some (.type T) := by decide +kernel) (hn : x ≠ "__name__" := by decide) (hdb : (x == ("__debug__" : Str)) = false := by decide)
    (he : starEach (e :: es) X.env = (false, eval e X.env) :: starEach es X.env := by rfl) (hpl : (backTo pos (starEach es X.env)).any (·.1) = false := by rfl) : PD X K Ex (.Call (.Name x p) (e :: es) [] pos) (tCB rc t) (uCB dc u) := ⟨pe_callTy hc hg hm hv ha.pe hn hdb he hpl, sim_cb s ha.sim⟩
theorem d_isB {n : Str} {Tn : String} {p1 p2 : Pos} (Tt : Ty) (hT : ∀ C, Tt ≠ .own C) (eT : tyVal Tt = .type Tn) (hm : X.mg "isinstance" = none) (hm2 : X.mg n = none) (ha : PD X K Ex e te ue) (hv : bootBuiltins n = some (.type Tn) := by decide +kernel) (hg : Gl X "isinstance" := by rfl) (hg2 : Gl X n := by rfl) (hK : X.K = K := by rfl)
    (hn : n ≠ "__name__" := by decide) (hd : (n == ("__debug__" : Str)) = false := by decide) (he : starEach [e, .Name n p1] X.env = (false, eval e X.env) :: starEach [.Name n p1] X.env := by rfl) (he2 : starEach [.Name n p1] X.env = (false, eval (.Name n p1) X.env) :: starEach [] X.env := by rfl) (hpl : (backTo pos (starEach [.Name n p1] X.env)).any (·.1) = false := by rfl) :
    PD X K Ex (.Call (.Name "isinstance" p2) [e, .Name n p1] [] pos) (tCB (rIsi K) (tCons te (tCons (tC (.ty Tn)) tNil))) (uIs (dIsB K Tt) ue) :=
  ⟨pe_callB (call_isiA hK) hg hm (by decide +kernel) (pa_cons ha.pe (pa_cons (pe_bltn (v := .ty Tn) hg2 hm2 hv rfl hn hd) pa_nil he2) he) (by decide) (by decide) he hpl, sim_isB hT eT ha.sim⟩
theorem d_isO {n : Str} {C : Addr} {p1 p2 : Pos} (kt : KitO K C) (hm : X.mg "isinstance" = none) (hm2 : X.mg n = some (.ref C)) (ha : PD X K Ex e te ue) (hg : Gl X "isinstance" := by rfl) (hg2 : Gl X n := by rfl) (hK : X.K = K := by rfl)
    (hd : (n == ("__debug__" : Str)) = false := by decide) (he : starEach [e, .Name n p1] X.env = (false, eval e X.env) :: starEach [.Name n p1] X.env := by rfl) (he2 : starEach [.Name n p1] X.env = (false, eval (.Name n p1) X.env) :: starEach [] X.env := by rfl) (hpl : (backTo pos (starEach [.Name n p1] X.env)).any (·.1) = false := by rfl) :
    PD X K Ex (.Call (.Name "isinstance" p2) [e, .Name n p1] [] pos) (tCB (rIsi K) (tCons te (tCons (tC (.ref C)) tNil))) (uIs (dIsO K C) ue) :=
  ⟨pe_callB (call_isiA hK) hg hm (by decide +kernel) (pa_cons ha.pe (pa_cons (pe_glob (v := .ref C) hg2 hm2 rfl hd) pa_nil he2) he) (by decide) (by decide) he hpl, sim_isO kt ha.sim⟩
/-! methods of lists and texts -/
variable {rm : V → List V → Hp → VK → Prop} {dm : DM} {o : Expr} {to : TE} {uo : DTE} {name : Str} {apos : Pos}
theorem d_bm (slot : Slot "list" name id) (hty : typeOf (.builtin id) = pure (.type "method_descriptor")) (hm : MtR X id rm) (s : SimM K rm dm) (ho : PD X K Ex o to uo) (ha : AD X K Ex (e :: es) t u) (hK : X.K = K := by rfl)
    (hbase : attributeBase o name X.env (eval o X.env) = eval o X.env := by rfl)
    (hfew : ((backTo pos (starEach (e :: es) X.env)).all (fun x => !x.1) && (backToKw pos (keywordEach [] X.env)).all (fun x => x.1.isSome)
      && decide ((e :: es).length + ([] : List Keyword).length + (if ([] : List Keyword).isEmpty then 0 else 1) < 30)) = true := by rfl) (hline : (apos.endLine == pos.line) = true := by rfl)
    (hs : starEach (e :: es) X.env = (false, eval e X.env) :: starEach es X.env := by rfl) (hplain : (backTo pos (starEach es X.env)).any (·.1) = false := by rfl) :
    PD X K Ex (.Call (.Attribute o name apos) (e :: es) [] pos) (tBM K "list" rm to t) (uBM dm uo u) := by
  subst hK
  exact ⟨pe_bm PySem.F.plainAttrs_list slot hty hm ho.pe ha.pe hbase hfew hline hs hplain, sim_bm s ho.sim ha.sim⟩
theorem d_bm0 (slot : Slot "list" name id) (hty : typeOf (.builtin id) = pure (.type "method_descriptor")) (hm : MtR X id rm) (s : SimM K rm dm) (ho : PD X K Ex o to uo) (hK : X.K = K := by rfl)
    (hbase : attributeBase o name X.env (eval o X.env) = eval o X.env := by rfl) (hline : (apos.endLine == pos.line) = true := by rfl) :
    PD X K Ex (.Call (.Attribute o name apos) [] [] pos) (tBM0 K "list" rm to) (uBM dm uo uNil) := by
  subst hK
  exact ⟨pe_bm0 PySem.F.plainAttrs_list slot hty hm ho.pe hbase hline, sim_bm0 s ho.sim⟩
theorem d_m1 (slot : Slot "str" name id) (ty : typeOf (.builtin id) = pure (.type "method_descriptor")) (hm : MtR X id rm) (s : SimM K rm dm) (ho : PD X K Ex o to uo) (he : PD X K Ex e te ue)
    (hs : starEach [e] X.env = [(false, eval e X.env)] := by rfl) (hbase : attributeBase o name X.env (eval o X.env) = eval o X.env := by rfl) (hline : (apos.endLine == pos.line) = true := by rfl) :
    PD X K Ex (.Call (.Attribute o name apos) [e] [] pos) (tM1 rm to te) (uM1 dm uo ue) := ⟨pe_m1 slot ty hm ho.pe he.pe hs hbase hline, sim_m1 s ho.sim he.sim⟩
end
/-! own calls -/
section
variable {X : Cx} {K : PySem.W.Frag} {Ex : L2.St → XK} {pos : Pos} {e o : Expr} {es : List Expr} {te to : TE} {ue uo : DTE} {t : TA} {u : DTA} {x m : Str} {k : Nat} {f C p g : Addr} {S : DSp} {apos ps sp_ : Pos} {pl : Sem Bool}
theorem d_call (F : FnD X.prog X.w K X.mg X.base k f S) (hm : X.mg x = some (.ref f)) (hk : PySem.W.keepIn K (.ref f) = true) (gd : Gd.Calm0 X.A) (hr : Room k X.A) (tk : Tk X Ex) (ha : AD X K Ex (e :: es) t u) (hK : X.K = K := by rfl) (hg : Gl X x := by rfl)
    (hdb : (x == ("__debug__" : Str)) = false := by decide) (he : starEach (e :: es) X.env = (false, eval e X.env) :: starEach es X.env := by rfl) (hpl : (backTo pos (starEach es X.env)).any (·.1) = false := by rfl) :
    PD X K Ex (.Call (.Name x ps) (e :: es) [] pos) (tCallQ (toSp K S) Ex t) (uCall S u) := by
  subst hK
  exact ⟨pe_callQ F gd hr hg hm hk tk ha.pe hdb he hpl, sim_call ha.sim⟩
theorem d_call0 (F : FnD X.prog X.w K X.mg X.base k f S) (hm : X.mg x = some (.ref f)) (hk : PySem.W.keepIn K (.ref f) = true) (gd : Gd.Calm0 X.A) (hr : Room k X.A) (tk : Tk X Ex) (hK : X.K = K := by rfl) (hg : Gl X x := by rfl)
    (hdb : (x == ("__debug__" : Str)) = false := by decide) : PD X K Ex (.Call (.Name x ps) [] [] pos) (tCallQ (toSp K S) Ex tNil) (uCall S uNil) := by
  subst hK
  exact ⟨pe_callQ0 F gd hr hg hm hk tk hdb, sim_call sim_nil⟩
theorem d_meth (c : Cls K C) (hm : Meth K C m f) (F : FnD X.prog X.w K X.mg X.base k f S) (gd : Gd.Calm0 X.A) (hr : Room k X.A) (tk : Tk X Ex) (ho : PD X K Ex o to uo) (ha : AD X K Ex (e :: es) t u) (hK : X.K = K := by rfl)
    (h1 : starEach (e :: es) X.env = (false, eval e X.env) :: starEach es X.env := by rfl) (h2 : (backTo pos (starEach es X.env)).any (·.1) = false := by rfl)
    (hW : eval (.Call (.Attribute o m apos) (e :: es) [] pos) X.env = (do
      let ov ← eval o X.env
      standAt apos.atName
      let (f, first) ← holding [ov] (getMethod ov m pl)
      callWith pos f first (backTo pos (starEach (e :: es) X.env)) (backToKw pos (keywordEach [] X.env))) := by rfl) : PD X K Ex (.Call (.Attribute o m apos) (e :: es) [] pos) (tMethQ C m (toSp K S) Ex to t) (uMeth C m S uo u) := by
  subst hK
  exact ⟨pe_methQ ho.pe c hm F gd hr tk ha.pe h1 h2 hW, sim_meth ho.sim ha.sim⟩
theorem d_meth0 (c : Cls K C) (hm : Meth K C m f) (F : FnD X.prog X.w K X.mg X.base k f S) (gd : Gd.Calm0 X.A) (hr : Room k X.A) (tk : Tk X Ex) (ho : PD X K Ex o to uo) (hK : X.K = K := by rfl)
    (hW : eval (.Call (.Attribute o m apos) [] [] pos) X.env = (do
      let ov ← eval o X.env
      standAt apos.atName
      let (f, first) ← holding [ov] (getMethod ov m pl)
      callWith pos f first (backTo pos (starEach [] X.env)) (backToKw pos (keywordEach [] X.env))) := by rfl) : PD X K Ex (.Call (.Attribute o m apos) [] [] pos) (tMethQ C m (toSp K S) Ex to tNil) (uMeth C m S uo uNil) := by
  subst hK
  exact ⟨pe_methQ0 ho.pe c hm F gd hr tk hW, sim_meth ho.sim sim_nil⟩
theorem d_makeM (M : Mk K C f) (F : FnD X.prog X.w K X.mg X.base k f S) (hm : X.mg x = some (.ref C)) (gd : Gd.Calm0 X.A) (hr : Room (k + 1) X.A) (tk : Tk X Ex) (ha : AD X K Ex (e :: es) t u) (hK : X.K = K := by rfl) (hg : Gl X x := by rfl)
    (hdb : (x == ("__debug__" : Str)) = false := by decide) (he : starEach (e :: es) X.env = (false, eval e X.env) :: starEach es X.env := by rfl) (hpl : (backTo pos (starEach es X.env)).any (·.1) = false := by rfl) :
    PD X K Ex (.Call (.Name x ps) (e :: es) [] pos) (tMakeQ C (toSp K S) Ex t) (uMakeM C S u) := by
  subst hK
  exact ⟨pe_makeQ M F gd hr hg hm tk ha.pe hdb he hpl, sim_makeM ha.sim⟩
theorem d_makeF (M : Mk K C f) (F : FnD X.prog X.w K X.mg X.base k f S) (hm : X.mg x = some (.ref C)) (gd : Gd.Calm0 X.A) (hr : Room (k + 1) X.A) (tk : Tk X Ex) (ha : AD X K Ex (e :: es) t u) (hK : X.K = K := by rfl) (hg : Gl X x := by rfl)
    (hdb : (x == ("__debug__" : Str)) = false := by decide) (he : starEach (e :: es) X.env = (false, eval e X.env) :: starEach es X.env := by rfl) (hpl : (backTo pos (starEach es X.env)).any (·.1) = false := by rfl) :
    PD X K Ex (.Call (.Name x ps) (e :: es) [] pos) (tMakeQ C (toSp K S) Ex t) (uMakeF C S u) := by
  subst hK
  exact ⟨pe_makeQ M F gd hr hg hm tk ha.pe hdb he hpl, sim_makeF ha.sim⟩
theorem d_makeSF (M : Mk K C f) (F : FnD X.prog X.w K X.mg X.base k f S) (hm : X.mg x = some (.ref C)) (gd : Gd.Calm0 X.A) (hr : Room (k + 1) X.A) (tk : Tk X Ex) (ha : PD X K Ex e te ue) (hK : X.K = K := by rfl) (hg : Gl X x := by rfl)
    (hdb : (x == ("__debug__" : Str)) = false := by decide) (hst : starEach [.Starred e sp_] X.env = [(true, eval e X.env)] := by rfl) :
    PD X K Ex (.Call (.Name x ps) [.Starred e sp_] [] pos) (tMakeSQ K C (toSp K S) Ex te) (uMakeSF C S ue) := by
  subst hK
  exact ⟨pe_makeSQ M F gd hr hg hm tk ha.pe hdb hst, sim_makeSF ha.sim⟩
theorem d_prop {n : Str} (c : Cls K C) (hp : PropOf K C n p g) (F : FnD X.prog X.w K X.mg X.base k g S) (gd : Gd.Calm0 X.A) (hr : Room (k + 1) X.A) (he : PD X K Ex e te ue) (hK : X.K = K := by rfl)
    (hab : attributeBase e n X.env (eval e X.env) = eval e X.env := by rfl) : PD X K Ex (.Attribute e n pos) (tPropQ C (toSp K S) te) (uProp C S ue) := by
  subst hK
  exact ⟨pe_propQ he.pe c hp F gd hr hab, sim_prop he.sim⟩
end
/-! statements -/
structure GD (X : Cx) (K : PySem.W.Frag) (Ex : L2.St → XK) (e : Expr) (t : TG) (u : DTG) : Prop where
  pe : PG X e t
  sim : SimG K Ex t u
structure GsD (X : Cx) (K : PySem.W.Frag) (Ex : L2.St → XK) (e : List Expr) (t : TGs) (u : DTGs) : Prop where
  pe : PGs X e t
  sim : SimGs K Ex t u
structure ID (X : Cx) (K : PySem.W.Frag) (Ex : L2.St → XK) (tg e : Expr) (t : TI) (u : DTI) : Prop where
  pe : PI X tg e t
  sim : SimI K Ex t u
section
variable {X : Cx} {K : PySem.W.Frag} {Ex : L2.St → XK} {pos : Pos} {a b c e o : Expr} {es : List Expr} {te to ti : TE} {ue uo ui : DTE} {x : Str} {tg : Expr} {g : TG} {ug : DTG} {gs : TGs} {ugs : DTGs} {st : Stmt} {sts els : List Stmt} {t s : TS} {u w : DTS} {tc : TT} {uc : DTT}
theorem g_name (i : Nat) (hN : X.N.Nodup) (hx : Loc X.env.scope x := by first | exact Or.inl rfl | exact Or.inr rfl) (hi : X.N[i]? = some x := by rfl) (hf : X.fn x = true ∨ X.env.scope.names.lookup x = some .local := by first | exact .inl rfl | exact .inr rfl | assumption) : GD X K Ex (.Name x pos) (gName i) (uGName i) := ⟨pg_name hN hi hx hf, sim_gName i⟩
theorem gs_nil : GsD X K Ex [] gNil uGNil := ⟨pgs_nil, sim_gNil⟩
theorem gs_cons (h : GD X K Ex e g ug) (r : GsD X K Ex es gs ugs) (hs : (assignEach (e :: es) X.env).map (·.2) = assign e X.env :: (assignEach es X.env).map (·.2) := by rfl) : GsD X K Ex (e :: es) (gCons g gs) (uGCons ug ugs) := ⟨pgs_cons h.pe r.pe hs, sim_gCons h.sim r.sim⟩
theorem g_tup {k : Nat} (n : Nat) (h : GsD X K Ex es gs ugs) (hc : X.calm = true := by rfl) (hK : X.K = K := by rfl) (hn : (assignEach es X.env).length = n := by rfl) (hst : (assignEach es X.env).findIdx? (·.1) = none := by rfl) : GD X K Ex (.Tuple es k pos) (gTup K n gs) (uGTup n ugs) := by
  subst hK
  exact ⟨pg_tup hc h.pe hn hst, sim_gTup h.sim⟩
theorem g_set (ho : PD X K Ex o to uo) (hi : PD X K Ex a ti ui) (ha : ∀ v, assign (.Subscript o a pos) X.env v = (do
      let ov ← holding [v] (eval o X.env)
      let iv ← holding [v, ov] (eval a X.env)
      standAt pos
      holding [v, ov, iv] (setItem ov iv v)
      release [v, ov, iv] []) := by intro _; rfl) : GD X K Ex (.Subscript o a pos) (gSub to ti rSetL) (uGSet uo ui) := ⟨pg_sub ho.pe hi.pe set_list ha, sim_gSet ho.sim hi.sim⟩
theorem s_asg (h : PD X K Ex e te ue) (hg : GD X K Ex tg g ug) (hs : swapsWithSole [tg] e pos.line X.env = pure false := by rfl) (hw : swappedStores [tg] e X.env = pure none := by rfl) (h1 : (assignEach [tg] X.env).map (·.2) = [assign tg X.env] := by rfl) : SD X K Ex (.Assign [tg] e pos) (tAsg te g) (uAsg ue ug) := ⟨ps_asg h.pe hg.pe hs hw h1, sim_asg h.sim hg.sim⟩
theorem s_set (i : Nat) {pos' : Pos} (hN : X.N.Nodup) (h : PD X K Ex e te ue) (hx : Loc X.env.scope x := by first | exact Or.inl rfl | exact Or.inr rfl) (hi : X.N[i]? = some x := by rfl) (hs : swapsWith e (some (.Name x pos')) pos.line X.env = pure false := by rfl) (hf : X.fn x = true ∨ X.env.scope.names.lookup x = some .local := by first | exact .inl rfl | exact .inr rfl | assumption) :
    SD X K Ex (.Assign [.Name x pos'] e pos) (tAsg te (gName i)) (uAsg ue (uGName i)) := ⟨ps_set hN hi hx h.pe hs hf, sim_asg h.sim (sim_gName i)⟩
theorem s_expr (h : PD X K Ex e te ue) (hs : swapsWith e none pos.line X.env = pure false := by rfl) : SD X K Ex (.Expr e pos) (tDrop te) (uDrop ue) := ⟨ps_expr h.pe hs, sim_drop h.sim⟩
theorem s_doc {x j pos pos'} : SD X K Ex (.Expr (.Constant (.str x) j pos) pos') tNext uNext := ⟨ps_doc, sim_next⟩
theorem s_ret (h : PD X K Ex e te ue) : SD X K Ex (.Return (some e) pos) (tRet te) (uRet ue) := ⟨ps_ret h.pe, sim_ret h.sim⟩
theorem s_retN : SD X K Ex (.Return none pos) tRetN uRetN := ⟨ps_retN, sim_retN⟩
theorem s_pass : SD X K Ex (.Pass pos) tNext uNext := ⟨ps_pass, sim_next⟩
theorem s_break : SD X K Ex (.Break pos) tBreak uBreak := ⟨ps_break, sim_break⟩
theorem s_continue : SD X K Ex (.Continue pos) tCont uCont := ⟨ps_continue, sim_cont⟩
theorem s_never : SD X K Ex st tNever uNever := ⟨ps_never, sim_never⟩
theorem b_never : BD X K Ex sts tNever uNever := ⟨pss_never, sim_never⟩
theorem b_nil : BD X K Ex [] tNext uNext := ⟨pss_nil, sim_next⟩
theorem b_one (h : SD X K Ex st t u) : BD X K Ex [st] t u := ⟨pss_one h.pe, h.sim⟩
theorem b_cons (h : SD X K Ex st t u) (r : BD X K Ex sts s w) : BD X K Ex (st :: sts) (tSeq t s) (uSeq u w) := ⟨pss_cons h.pe r.pe, sim_seq h.sim r.sim⟩
theorem s_cut (h : SD X K Ex st t u) : SD X K Ex st t (uCut u) := ⟨h.pe, sim_cut h.sim⟩
theorem s_if (hc : TD X K Ex c tc uc) (ha : BD X K Ex sts t u) (hb : BD X K Ex els s w) : SD X K Ex (.If c sts els pos) (tIfS tc t s) (uIfS uc u w) := ⟨ps_if hc.pe ha.pe hb.pe, sim_ifS hc.sim ha.sim hb.sim⟩
theorem s_for {wi : TI} {uw : DTI} (hp : PassesOwn (model X.prog X.w) X.A X.env X.xe) (hi : ID X K Ex tg e wi uw) (hg : GD X K Ex tg g ug) (hb : BD X K Ex sts t u) (hc : X.calm = true := by rfl) (hs : ∀ x, foldedSetIterable e X.env x = pure x := by intro _; rfl) : SD X K Ex (.For tg e sts [] pos) (tFor wi g t) (uFor uw ug u) := ⟨ps_for hp hc hi.pe hg.pe hb.pe hs, sim_for hi.sim hg.sim hb.sim⟩
theorem s_while (hp : PassesOwn (model X.prog X.w) X.A X.env X.xe) (hc : TD X K Ex c tc uc) (hb : BD X K Ex sts t u) : SD X K Ex (.While c sts [] pos) (tWhile tc t) (uWhile uc u) := ⟨ps_while hp hc.pe hb.pe, sim_while hc.sim hb.sim⟩
theorem s_aug {i : Nat} {op : Operator} {r : TIp} {dr : DR2} {pos' : Pos} (hN : X.N.Nodup) (hi : X.N[i]? = some x) (h : PD X K Ex e te ue) (ho : PIp X op r) (sr : SimR K r dr) (hx : Loc X.env.scope x := by first | exact Or.inl rfl | exact Or.inr rfl) (hf : X.fn x = true ∨ X.env.scope.names.lookup x = some .local := by first | exact .inl rfl | exact .inr rfl | assumption) :
    SD X K Ex (.AugAssign (.Name x pos') op e pos) (tAug i te r) (uAug i ue dr) := ⟨ps_aug hN hi hx h.pe ho, sim_aug h.sim sr⟩
theorem s_fld {C : Addr} {f : Str} {pos' : Pos} (cl : Cls K C) (n : NoAttr K C f) (ho : PD X K Ex o to uo) (h : PD X K Ex e te ue) (hK : X.K = K := by rfl) (hs : swapsWith e (some (.Attribute o f pos')) pos.line X.env = pure false := by rfl) : SD X K Ex (.Assign [.Attribute o f pos'] e pos) (sFld K to te f) (uSetF C f uo ue) := by
  subst hK
  exact ⟨ps_fld ho.pe h.pe hs, sim_setF cl n ho.sim h.sim⟩
/-! what is walked -/
theorem i_seq (h : PD X K Ex e te ue) (hK : X.K = K := by rfl) : ID X K Ex tg e (iSeq K te) (uISeq ue) := by
  subst hK
  exact ⟨pi_seq h.pe, sim_iSeq h.sim⟩
theorem i_rng1 {ta : TA} {ua : DTA} {p : Pos} (hm : X.mg "range" = none) (h : AD X K Ex [a] ta ua) (hg : Gl X "range" := by rfl) (hs : starEach [a] X.env = [(false, eval a X.env)] := by rfl) : ID X K Ex tg (.Call (.Name "range" p) [a] [] pos) (iRng1 ta) (uIRng1 ua) := ⟨pi_range1 hg hm h.pe hs, sim_iRng1 h.sim⟩
theorem i_rng2 {ta : TA} {ua : DTA} {p : Pos} (hm : X.mg "range" = none) (h : AD X K Ex [a, b] ta ua) (hg : Gl X "range" := by rfl) (hs : starEach [a, b] X.env = [(false, eval a X.env), (false, eval b X.env)] := by rfl) (hs2 : starEach [b] X.env = [(false, eval b X.env)] := by rfl) : ID X K Ex tg (.Call (.Name "range" p) [a, b] [] pos) (iRng2 ta) (uIRng2 ua) := ⟨pi_range2 hg hm h.pe hs hs2, sim_iRng2 h.sim⟩
/-! comprehensions -/
structure TsD (X : Cx) (K : PySem.W.Frag) (Ex : L2.St → XK) (ifs : List Expr) (t : TT) (u : DTT) : Prop where
  pe : PTs X ifs t
  sim : SimT K Ex t u
theorem ts_nil : TsD X K Ex [] tYes uYes := ⟨pts_nil, sim_yes⟩
theorem ts_one (h : TD X K Ex c tc uc) : TsD X K Ex [c] tc uc := ⟨pts_one h.pe, h.sim⟩
abbrev Mono (g : TG) : Prop := ∀ v σ H Q Q', (∀ σ H, Q σ H → Q' σ H) → g v σ H Q → g v σ H Q'
theorem d_lc (m : Bool) {elt iter : Expr} {ifs : List Expr} {scope : Scope} (own : List (Str × Nat)) {wi : TI} {uw : DTI} {tt : TT} {ut : DTT} (hN : X.N.Nodup) (hi : ID X K Ex tg iter wi uw) (ok : BlkOk X.N X.env.scope scope own)
    (hg : ∀ (s : Shared) (H : Hp) (C : Addr) (cl : List (Str × Addr)) (fp : List Addr), GD (X.blk s H scope (compEnvC scope cl C X.env) fp) K X0 tg g ug) (ht : ∀ (s : Shared) (H : Hp) (C : Addr) (cl : List (Str × Addr)) (fp : List Addr), TsD (X.blk s H scope (compEnvC scope cl C X.env) fp) K X0 ifs tt ut)
    (he : ∀ (s : Shared) (H : Hp) (C : Addr) (cl : List (Str × Addr)) (fp : List Addr), PD (X.blk s H scope (compEnvC scope cl C X.env) fp) K X0 elt te ue) (wp : Wip g (own.map (·.2))) (mn : Mono g) (hc : X.calm = true := by rfl) (hs : ∀ x, foldedSetIterable iter X.env x = pure x := by intro _; rfl) :
    PD X K Ex (.ListComp elt [⟨tg, iter, ifs, 0⟩] scope pos) (tLc wi g tt te (own.map (·.2))) (uLc m uw ug ut ue (own.map (·.2))) :=
  ⟨pe_lc hc hN hi.pe ok (fun s H C cl fp => (hg s H C cl fp).pe) (fun s H C cl fp => (ht s H C cl fp).pe) (fun s H C cl fp => (he s H C cl fp).pe) hs, sim_lc m hi.sim (hg X.s_0 (fun _ => none) 0 [] []).sim (ht X.s_0 (fun _ => none) 0 [] []).sim (he X.s_0 (fun _ => none) 0 [] []).sim wp mn⟩
theorem s_setLc (m : Bool) (i : Nat) {y : Str} {py spos : Pos} {elt iter : Expr} {ifs : List Expr} {scope : Scope} (own : List (Str × Nat)) {wi : TI} {uw : DTI} {tt : TT} {ut : DTT} (hN : X.N.Nodup) (hi : ID X K Ex tg iter wi uw) (ok : BlkOk X.N X.env.scope scope own)
    (hg : ∀ (s : Shared) (H : Hp) (C : Addr) (cl : List (Str × Addr)) (fp : List Addr), GD (X.blk s H scope (compEnvC scope cl C X.env) fp) K X0 tg g ug) (ht : ∀ (s : Shared) (H : Hp) (C : Addr) (cl : List (Str × Addr)) (fp : List Addr), TsD (X.blk s H scope (compEnvC scope cl C X.env) fp) K X0 ifs tt ut)
    (he : ∀ (s : Shared) (H : Hp) (C : Addr) (cl : List (Str × Addr)) (fp : List Addr), PD (X.blk s H scope (compEnvC scope cl C X.env) fp) K X0 elt te ue) (wp : Wip g (own.map (·.2))) (mn : Mono g) (hsw : swapsWith (.ListComp elt [⟨tg, iter, ifs, 0⟩] scope pos) (some (.Name y py)) spos.line X.env = pure true)
    (hyl : X.env.scope.names.lookup y = some .local := by rfl) (hy : X.N[i]? = some y := by rfl) (hc : X.calm = true := by rfl) (hs : ∀ x, foldedSetIterable iter X.env x = pure x := by intro _; rfl) :
    SD X K Ex (.Assign [.Name y py] (.ListComp elt [⟨tg, iter, ifs, 0⟩] scope pos) spos) (tAsg (tLc wi g tt te (own.map (·.2))) (gName i)) (uAsg (uLc m uw ug ut ue (own.map (·.2))) (uGName i)) :=
  ⟨ps_setLc hc hN hy hyl hsw hi.pe ok (fun s H C cl fp => (hg s H C cl fp).pe) (fun s H C cl fp => (ht s H C cl fp).pe) (fun s H C cl fp => (he s H C cl fp).pe) hs, sim_asg (sim_lc m hi.sim (hg X.s_0 (fun _ => none) 0 [] []).sim (ht X.s_0 (fun _ => none) 0 [] []).sim (he X.s_0 (fun _ => none) 0 [] []).sim wp mn) (sim_gName i)⟩
end
end DX
set_option Elab.async false
set_option linter.all false
set_option maxRecDepth 100000
set_option maxHeartbeats 4000000
namespace DX
open PySem PySem.Spec PyProof.Rows L2
/-! ### a def by its body -/
section
variable {K : PySem.W.Frag} {Z : Hp} {as as' as1 : List Addr} {F F' F1 H H' H1 : Hp} {Ex : L2.St → XK}
def startD (N : List Str) (ds : List D) : Rho := ds.map some ++ List.replicate (N.length - ds.length) none
theorem env_start {N : List Str} {vs : List V} {ds : List D} (r : RepL K as F vs ds) : EnvR K as F (L2.start N vs) (startD N ds) := by
  refine ⟨by unfold L2.start startD; rw [List.length_append, List.length_append, List.length_map, List.length_map, List.length_replicate, List.length_replicate, r.len], fun i d e => ?_⟩
  unfold startD at e
  unfold L2.start
  by_cases hi : i < ds.length
  · rw [List.getElem?_append_left (by simpa using hi), List.getElem?_map] at e
    cases h : ds[i]? with
    | none => rw [h] at e; cases e
    | some d' =>
      rw [h] at e
      cases e
      obtain ⟨v, h1, h2⟩ := r.get h
      refine ⟨v, ?_, h2⟩
      rw [List.getElem?_append_left (by rw [List.length_map, r.len]; exact hi), List.getElem?_map, h1]
      rfl
  · rw [List.getElem?_append_right (by simpa using hi), List.getElem?_replicate] at e
    split at e <;> cases e
/-- the end of a def: what was made within may be frozen -/
def FZ (μ : Mem) (Q : D → Mem → Prop) (d : D) (μ' : Mem) : Prop := Q d μ' ∨ (stays μ.length μ μ' ∧ cld μ.length (fz μ' μ.length 6 d) = true ∧ Q (fz μ' μ.length 6 d) (μ'.take μ.length))
def FZE (μ : Mem) (E : Addr → List (Str × D) → Mem → Prop) : XD := fun _ C gs μ' => E C gs μ' ∨ (stays μ.length μ μ' ∧ cldF μ.length gs = true ∧ E C gs (μ'.take μ.length))
theorem fz_end {μ : Mem} (M : Mm K Z as F H μ) {Q : D → Mem → Prop} {Q' : VK} (kQ : ∀ v d μ' as' F' H', Gr as F as' F' → Mm K Z as' F' H' μ' → Rep K as' F' v d → Q d μ' → Q' v H')
    {v : V} {d : D} {μ' : Mem} (g : Gr as F as' F') (M' : Mm K Z as' F' H' μ') (r : Rep K as' F' v d) (q : FZ μ Q d μ') : Q' v H' := by
  rcases q with q | ⟨st, c, q⟩
  · exact kQ v d μ' as' F' H' g M' r q
  · obtain ⟨M2, sf⟩ := M'.freeze st.1 (stays_closed M rfl st)
    exact kQ v _ _ _ _ H' (g.take (Nat.le_of_eq M.len) sf) M2 ((fz_rep M' sf 6 r).cut take_get c) q
theorem fze_end {μ : Mem} (M : Mm K Z as F H μ) {E : Addr → List (Str × D) → Mem → Prop} {E' : XK} (kE : ∀ C gs dx μ' as' F' H', Gr as F as' F' → Mm K Z as' F' H' μ' → ExcR K as' F' dx gs → E C gs μ' → E' (.ref C) dx H') : XL K (fun _ => E') Z as F (FZE μ E) :=
  fun σ ρ μ' as' F' H' C gs dx g R er q => by
    rcases q with q | ⟨st, c, q⟩
    · exact kE C gs dx μ' as' F' H' g R.mm er q
    · obtain ⟨M2, sf⟩ := R.mm.freeze st.1 (stays_closed M rfl st)
      exact kE C gs dx _ _ _ H' (g.take (Nat.le_of_eq M.len) sf) M2 (excR_cut take_get er c sf) q
end
/-- the def at f, record fd, keeps S however its parameters are bound -/
structure FnB (P : Program) (w : World) (K : PySem.W.Frag) (mg : Str → Option Value) (base : Heap) (k : Nat) (f : Addr) (fd : FuncData) (ps : List Str) (S : DSp) : Prop where
  len : ∀ ds μ Q E, S ds μ Q E → ds.length = ps.length
  run : ∀ (A : Around) (outer : List Env) (s : Shared) (H : Hp) (args : Args) (us : List Value) (vs : List V) (Q : VK) (E : XK), Gd.Calm0 A → Room k A → Env0 P w K mg base A outer s H → BindsTo s fd args (ps.zip us) → Vals vs us → toSp K S vs H Q E →
    codeAny (model P w) A (.call (.ref f) args) (CR (L2.CX P w) outer P w H s Q E) s
section
variable {P : Program} {w : World} {K : PySem.W.Frag} {mg : Str → Option Value} {base : Heap} {k : Nat} {f : Addr} {fd : FuncData} {x qual : Str} {st : Stmt} {N ps : List Str} {S : DSp}
theorem sp_len {vs : List V} {H : Hp} {Q : VK} {E : XK} (len : ∀ ds μ Q E, S ds μ Q E → ds.length = ps.length) (h : toSp K S vs H Q E) : vs.length = ps.length := by
  obtain ⟨Z, as, F, ds, μ, Qd, Ed, r, M, hS, _⟩ := h
  rw [r.len]
  exact len _ _ _ _ hS
/-- a def's text, without defaults or with them -/
structure DefAt (K : PySem.W.Frag) (x qual : Str) (st : Stmt) (f : Addr) (fd : FuncData) : Prop where
  ex : ∃ (oc : Value) (od : Option Addr) (dV kV doc pm : Value) (an : Option Addr) (cdv ct : Value) (osl : Array (Option Value)),
    fd = PySem.W.fnOf x qual (defArgs st) (defBody st) (defScope st) dV kV doc pm an cdv ct ∧ K.lookup f = some ⟨oc, od, .func fd, osl⟩ ∧ PySem.W.codeIn K cdv qual = true
  kp : PySem.W.keepIn K (.ref f) = true
theorem okB (Fu : DefAt K x qual st f fd) (Sc : FnScope N ps (defScope st)) (len : ∀ ds μ Q E, S ds μ Q E → ds.length = ps.length) (u : DTS)
    (body : ∀ (cdv : Value) (A : Around) (outer : List Env) (s : Shared) (H : Hp) (E' : XK), Gd.Calm0 A → Room k (A.deeper (envOfC qual (defScope st) s.heap.objs.size f cdv)) →
      ∃ t, BD (cxOf (L2.CX P w) P w K mg base N qual (defScope st) f cdv A outer s H E') K (fun _ => E') (defBody st) t u)
    (read : ∀ ds μ Q E, S ds μ Q E → u { nx := fun _ μ' => FZ μ Q .non μ', rt := FZ μ Q } (FZE μ E) (startD N ds) μ) : FnB P w K mg base (k + 1) f fd ps S := by
  refine ⟨len, fun A outer s H args us vs Q E g hr e0 hb r hsp => ?_⟩
  obtain ⟨oc, od, dV, kV, doc, pm, an, cdv, ct, osl, rfl, lk, hcd⟩ := Fu.ex
  have hl := sp_len len hsp
  have KX : K.In s.heap := e0.mod.kin.keeps fun b o e => (e0.bs b o e).1
  have lim : s.heap.NoLimit := e0.mod.nolimit.keeps fun b o e => (e0.bs b o e).1
  have hkind : ∀ y ∈ ps.zip us, (defScope st).names.lookup y.1 = some .local ∨ ((defScope st).names.lookup y.1 = some .cell ∧ ((cellsFrom (s.heap.objs.size + 1) (defScope st).names []).lookup y.1).isSome = true) := fun ⟨n, v⟩ hy => by
    rcases Sc.par n (List.of_mem_zip hy).1 with q | q
    · exact .inl q
    · exact .inr ⟨q, PySem.W.cellsFrom_some _ _ _ (.inl q)⟩
  refine codeAny_call_function hr.depth (KX _ _ lk) rfl Sc.co Sc.gen rfl (PySem.W.codeRec_of KX hcd) (hb _ _ _ _ ?_)
  refine wpAny_newFunctionEnv_cells Sc.kind hkind fun env he s1 x => ?_
  subst he
  refine ⟨lim.keeps x.toInCall.keep, codeAny_func ?_⟩
  obtain ⟨t, ht⟩ := body cdv A outer s H E g (hr.deeper _)
  have I : L2.Inv (cxOf (L2.CX P w) P w K mg base N qual (defScope st) f cdv A outer s H E) [] (L2.start N vs) H s1 := inv_start Sc hr.hd e0 hl r x
  obtain ⟨Z, as, F, ds, μ, Qd, Ed, rr, M, hS, kQ, kE⟩ := hsp
  have hq : t { nx := fun _ H' => Q .non H', rt := Q } (L2.start N vs) H := ht.sim Z as F H (L2.start N vs) (startD N ds) μ _ _ _ ⟨M, env_start rr⟩ (fze_end M kE) (read ds μ Qd Ed hS)
    (fun σ' ρ' μ' as' F' H' g R q => fz_end M kQ g R.mm .non q) (fun v d μ' as' F' H' g M' r q => fz_end M kQ g M' r q) (fun _ _ _ _ _ _ _ _ z => z.elim) (fun _ _ _ _ _ _ _ _ z => z.elim)
  refine wpAny_mono (ht.pe.run [] s1 (L2.start N vs) H _ I hq) (fun fl s' hs => ?_) fun e s' hs => hs
  match fl, hs with
  | .ret u, ⟨v, σ', H', J, rv, q⟩ => exact ⟨v, H', J.os, J.bare, J.base, J.hok, rv, q⟩
  | .next, ⟨σ', H', J, q⟩ => exact ⟨V.non, H', J.os, J.bare, J.base, J.hok, rfl, q⟩
  | .brk, ⟨_, _, _, q⟩ => exact q.elim
  | .cont, ⟨_, _, _, q⟩ => exact q.elim
/-- called by position, the rest by defaults -/
theorem FnB.fn {S' : DSp} {dus : List Value} {dvs : List V} {dds : List D} (Fb : FnB P w K mg base k f fd ps S) (B : L2.Binds K fd ps dus) (hd : Vals dvs dus) (rd : ∀ as F, RepL K as F dvs dds) (hS : ∀ ds μ Q E, S' ds μ Q E → S (ds ++ dds) μ Q E) : FnD P w K mg base k f S' := by
  intro A outer s H us vs Q E g hr e0 r hsp
  obtain ⟨Z, as, F, ds, μ, Qd, Ed, rr, M, h, kQ, kE⟩ := hsp
  have r2 : Vals (vs ++ dvs) (us ++ dus) := r.append hd
  have sp2 : toSp K S (vs ++ dvs) H Q E := ⟨Z, as, F, ds ++ dds, μ, Qd, Ed, rr.append (rd as F), M, hS _ _ _ _ h, kQ, kE⟩
  have hl : (us ++ dus).length = ps.length := by rw [← r2.length]; exact sp_len Fb.len sp2
  exact Fb.run A outer s H ⟨us, []⟩ (us ++ dus) (vs ++ dvs) Q E g hr e0 (B s us (e0.mod.kin.keeps fun b o e => (e0.bs b o e).1) hl) r2 sp2
theorem FnB.fn0 (Fb : FnB P w K mg base k f fd ps S) (B : L2.Binds K fd ps []) : FnD P w K mg base k f S := Fb.fn B .nil (fun _ _ => .nil) fun ds μ Q E h => by rw [List.append_nil]; exact h
theorem FnD.mono {j : Nat} (h : FnD P w K mg base j f S) (hj : j ≤ k) : FnD P w K mg base k f S := fun A outer s H us vs Q E g hr => h A outer s H us vs Q E g (hr.mono hj)
theorem FnD.imp {S' : DSp} (h : FnD P w K mg base k f S) (hS : ∀ ds μ Q E, S' ds μ Q E → S ds μ Q E) : FnD P w K mg base k f S' := fun A outer s H us vs Q E g hr e0 r ⟨Z, as, F, ds, μ, Qd, Ed, rr, M, z, kQ, kE⟩ => h A outer s H us vs Q E g hr e0 r ⟨Z, as, F, ds, μ, Qd, Ed, rr, M, hS _ _ _ _ z, kQ, kE⟩
/-- the law itself -/
def SLaw : DSp := fun ds μ Q _ => ∃ ns : List Int, ds = [.kl (ns.map .int)] ∧ ns.length ≤ 63 ∧ ∀ μ', Q (.bl true) μ'
def spLaw (K : PySem.W.Frag) : Sp := fun vs H Q _ => ∃ (a : Addr) (ns : List Int), vs = [.ref a] ∧ SqL K H a (ns.map V.int) ∧ ns.length ≤ 63 ∧ ∀ H', Q (.bl true) H'
theorem rep_ints {as : List Addr} {F : Hp} : ∀ ns : List Int, RepL K as F (ns.map V.int) (ns.map D.int)
  | [] => .nil
  | _ :: r => .cons (.int _) (rep_ints r)
theorem lawG (h : FnD P w K mg base k f SLaw) : Gd.FnG P w K mg base CX0 k f (spLaw K) := by
  intro A outer s H us vs Q E g hr e0 r hsp
  obtain ⟨a, ns, rfl, hS, hl, q⟩ := hsp
  -- all that stands is left out but the script
  refine codeAny_mono (h A outer s H us _ Q E0 g hr e0 r ⟨fun _ => none, [], H, [.kl (ns.map .int)], [], (fun d _ => d = .bl true), fun _ _ _ => False, .cons (.kl hS (rep_ints ns)) .nil, ⟨Same.refl H, rfl, List.nodup_nil, fun _ z => (nomatch z), fun k m e => by simp at e, fun _ _ z => (nomatch z)⟩,
    ⟨ns, rfl, hl, fun μ' => rfl⟩, fun v d μ' as' F' H' g M r z => ?_, fun _ _ _ _ _ _ _ _ _ _ z => z.elim⟩) fun r s' hq => ?_
  · have z : d = .bl true := z
    subst z
    cases r
    exact q H'
  · match r, hq with
    | .error e, hq =>
      obtain ⟨_, _, _, _, _, _, _, _, _, _, _, _, z⟩ := hq
      exact z.elim
    | .ok (.ret u), hq => exact hq
end
end DX
set_option Elab.async false
set_option linter.all false
set_option maxRecDepth 100000
set_option maxHeartbeats 4000000
namespace DX
open PySem PySem.Spec PyProof.Rows L2
/-! ### own errors -/
def spErr (K : PySem.W.Frag) (f : Str) : Sp := fun vs H Q _ => ∃ (a C : Addr) (v : V), vs = [.ref a, v] ∧ OexC K C ∧ PySem.W.findIn K (.ref C) f = some none ∧ H a = some (exo a C none) ∧ ∀ d, H d = none → d ≠ a → Q .non (upd (upd H d (exd d [(f, v)])) a (exo a C (some d)))
theorem err_end {K : PySem.W.Frag} {f : Str} {C a : Addr} {v : V} {H : Hp} {E : XK} (T : OexC K C) (no : PySem.W.findIn K (.ref C) f = some none) (na : H a = none)
    (q : ∀ H' d, Same H H' → H d = none → H' d = some (.xd [(f, v)]) → E (.ref C) (some d) H') :
    spErr K f (.ref a :: ([v] ++ [])) (upd H a (exo a C none)) (fun u H2 => u = .non ∧ ∃ (d : Addr) (fs : List (Str × V)), H2 a = some (exo a C (some d)) ∧ H2 d = some (exd d fs) ∧ H d = none ∧ E (.ref C) (some d) (upd (del H2 a) d (.xd fs))) (fun _ _ _ => False) := by
  refine ⟨a, C, v, rfl, T, no, upd_same, fun d hd ne => ⟨rfl, d, _, upd_same, by rw [upd_ne ne]; exact upd_same, ?_, ?_⟩⟩
  · rw [upd_ne ne] at hd
    exact hd
  · rw [upd_ne ne] at hd
    refine q _ d (fun b o e => ?_) hd upd_same
    have nba : b ≠ a := ne_of_none e na
    have nbd : b ≠ d := ne_of_none e hd
    rw [upd_ne nbd, del_ne nba, upd_ne nba, upd_ne nbd, upd_ne nba]
    exact e
/-- an own error class: its attribute f, its __init__ -/
structure ErrD (P : Program) (w : World) (K : PySem.W.Frag) (mg : Str → Option Value) (base : Heap) (x f : Str) (C fI : Addr) (fd : FuncData) : Prop where
  T : OexC K C
  no : PySem.W.findIn K (.ref C) f = some none
  gC : mg x = some (.ref C)
  iC : PySem.W.findIn K (.ref C) "__init__" = some (some (.ref fI))
  tI : PySem.W.typeIn K (.ref fI) = some (.type "function")
  F : FnOk P w K mg base CX0 1 fI fd ["self", f] (spErr K f)
  b : L2.Binds K fd ["self", f] []
section
variable {K : PySem.W.Frag} {Z : Hp} {as as' as1 : List Addr} {F F' F1 H H' H1 : Hp} {Ex : L2.St → XK}
theorem Mm.known {μ : Mem} (M : Mm K Z as F H μ) {d : Addr} {o : HO} (e : H d = some o) (nF : F d = none) (na : d ∉ as) (nZ : Z d = none) : Mm K Z as (upd F d o) H μ := by
  refine ⟨fun b u h => ?_, M.len, M.nd, fun a ha => ?_, fun k m h => ?_, fun a u h => ?_⟩
  · by_cases z : b = d
    · subst z; rw [upd_same] at h; rw [← h]; exact e
    · rw [upd_ne z] at h; exact M.same _ _ h
  · rw [upd_ne (fun z : a = d => na (by rw [← z]; exact ha))]; exact M.fr a ha
  · obtain ⟨a, ha, x⟩ := M.at_ k m h
    exact ⟨a, ha, x.up (Gr.upd nF) rfl⟩
  · obtain ⟨h1, h2, h3⟩ := M.hid a u h
    exact ⟨h1, by rw [upd_ne (ne_of_none h nZ)]; exact h2, h3⟩
def uRaise (C : Addr) (f : Str) (u : DTA) : DTS := fun _ E ρ μ => u ρ μ (fun ds μ1 => match ds with
  | [d] => E ρ C [(f, d)] μ1
  | _ => False) E
theorem sim_raise {C : Addr} {f : Str} {t : TA} {u : DTA} (T : OexC K C) (no : PySem.W.findIn K (.ref C) f = some none) (a : SimA K Ex t u) : SimS K Ex (fun _ σ H => tMkO C (spErr K f) [] t σ H fun cls d H' => Ex σ cls d H') (uRaise C f u) := fun Z as F H σ ρ μ De E D' R X h kn kr kb kc =>
  a Z as F H σ ρ μ _ E _ R X h fun vs ds μ1 as1 F1 H1 g1 R1 r1 h1 => by
    have h1 : (match (generalizing := false) ds with | [d] => E ρ C [(f, d)] μ1 | _ => False) := h1
    split at h1
    · cases r1 with
      | @cons w _ _ _ ra rb =>
        cases rb
        refine ⟨Nat.le_of_ble_eq_true rfl, fun p np => err_end T no np fun H' d sm nd hd => ?_⟩
        have M2 := R1.mm.ext sm
        have nF := R1.mm.newF nd
        have nZ : Z d = none := by
          cases e : Z d with
          | none => rfl
          | some o => have := (R1.mm.hid d o e).1; rw [nd] at this; cases this
        have g2 := Gr.upd (as := as1) (o := .xd [(f, w)]) nF
        exact X σ ρ μ1 as1 _ H' C _ (some d) (g1.trans g2) (R1.up g2 (M2.known hd nF (R1.mm.new nd) nZ)) (.inr ⟨d, _, rfl, upd_same, .cons (ra.up g2) .nil⟩) h1
    · exact h1.elim
/-! ### try .. except C as n -/
def uTry (K : PySem.W.Frag) (c : Value) (i : Nat) (ub : DTS) (us : Addr → Value → Option Addr → DTS) : DTS := fun De E ρ μ =>
  ub De (fun ρ' C gs μ' => ∃ b, PySem.W.exmOne K (.ref C) c = some b ∧ (b = true → ∀ a d, us a (.ref C) d { nx := fun ρ2 μ2 => De.nx (ρ2.set i none) μ2, rt := De.rt, bk := fun ρ2 μ2 => De.bk (ρ2.set i none) μ2, ct := fun ρ2 μ2 => De.ct (ρ2.set i none) μ2 } XN (ρ'.set i (some (.exc a C d gs))) μ') ∧ (b = false → E ρ' C gs μ')) ρ μ
theorem exc_rep {a C : Addr} {dx : Option Addr} {gs : List (Str × D)} (h : ExcR K as F dx gs) : Rep K as F (.ref a) (.exc a C dx gs) := by
  rcases h with rfl | ⟨dd, fs, rfl, e, r⟩
  · exact .exc0
  · exact .exc e r
theorem Rp.unset {σ : L2.St} {ρ : Rho} {μ : Mem} (R : Rp K Z as F H σ ρ μ) (i : Nat) : Rp K Z as F H (σ.set i none) (ρ.set i none) μ := ⟨R.mm, R.env.unset i⟩
theorem sim_try {c : Value} {i : Nat} {tb : WX → TS} {ub : DTS} {ts : Addr → Value → Option Addr → TS} {us : Addr → Value → Option Addr → DTS} (b : ∀ W : WX, SimS K (WE W) (tb W) ub) (s : ∀ a cls d, SimS K X0 (ts a cls d) (us a cls d)) :
    SimS K Ex (fun D σ H => tb (wAs K c i ts (fun cls d σ H => Ex σ cls d H) D) D σ H) (uTry K c i ub us) := fun Z as F H σ ρ μ De E D' R X h kn kr kb kc => by
  refine b _ Z as F H σ ρ μ De _ D' R ?_ h kn kr kb kc
  intro σ1 ρ1 μ1 as1 F1 H1 C gs dx g R1 er q
  obtain ⟨bb, hb, q1, q2⟩ := q
  refine ⟨bb, hb, fun e a na => ?_, fun e => X σ1 ρ1 μ1 as1 F1 H1 C gs dx g R1 er (q2 e)⟩
  exact s a (.ref C) dx Z as1 F1 H1 (σ1.set i (some (.ref a))) (ρ1.set i (some (.exc a C dx gs))) μ1 _ XN _ ⟨R1.mm, R1.env.set (exc_rep er) i⟩ XL.no (q1 e a dx)
    (fun σ2 ρ2 μ2 as2 F2 H2 g2 R2 => kn _ _ μ2 as2 F2 H2 (g.trans g2) (R2.unset i)) (fun v d μ2 as2 F2 H2 g2 => kr v d μ2 as2 F2 H2 (g.trans g2))
    (fun σ2 ρ2 μ2 as2 F2 H2 g2 R2 => kb _ _ μ2 as2 F2 H2 (g.trans g2) (R2.unset i)) (fun σ2 ρ2 μ2 as2 F2 H2 g2 R2 => kc _ _ μ2 as2 F2 H2 (g.trans g2) (R2.unset i))
end
section
variable {X : Cx} {K : PySem.W.Frag} {Ex : L2.St → XK} {pos pos' np : Pos} {e : Expr} {es : List Expr} {t : TA} {u : DTA} {x n f : Str} {C fI : Addr} {fd : FuncData} {body suite : List Stmt} {b₀ : Stmt} {c : Value} {i : Nat} {tb : WX → TS} {ub : DTS} {ts : Addr → Value → Option Addr → TS} {us : Addr → Value → Option Addr → DTS}
theorem s_raise {p : Pos} (er : ErrD X.prog X.w K X.mg X.base x f C fI fd) (hr : Room 2 X.A) (tk : Tk X Ex) (ha : AD X K Ex (e :: es) t u) (hK : X.K = K := by rfl) (hc : X.calm = true := by rfl) (hg : Gl X x := by rfl)
    (hdb : (x == ("__debug__" : Str)) = false := by decide) (he : starEach (e :: es) X.env = (false, eval e X.env) :: starEach es X.env := by rfl) (hpl : (backTo pos (starEach es X.env)).any (·.1) = false := by rfl) :
    SD X K Ex (.Raise (some (.Call (.Name x p) (e :: es) [] pos)) none pos') (fun _ σ H => tMkO C (spErr K f) [] t σ H fun cls d H' => Ex σ cls d H') (uRaise C f u) := by
  subst hK
  exact ⟨ps_raise hc tk (pmk_oex er.T er.iC er.tI er.F hr er.b .nil pass0 hg er.gC ha.pe hdb he hpl), sim_raise er.T er.no ha.sim⟩
/-- the wish of an empty look -/
def xNote (X : Cx) : Value → Shared → Prop := fun e s' => wpAny (model X.prog X.w) X.A (noteFrame e X.env) (fun _ _ => True) (fun _ _ => True) s'
theorem takes_note (hs : X.stack = X.env :: X.outer) (hf : X.env.frame = some X.env.locals) (W : WX) : Takes (X.tr [] (xNote X)) W := fun u s' xx => by
  obtain ⟨a, B, sI, pins', σ', H', cls, d, rfl, J, nb, up, sky, na, os, ag, w⟩ := xx
  have hfr : X.A.frames = some (X.env :: X.outer) := by rw [← hs]; exact J.ok.frames
  have sky' : Sky B (X.env :: X.outer) a (Zc cls d) X.env.locals s'.heap := by rw [← hs]; exact sky
  exact wpAny_mono (Sky.land (E₁ := fun _ _ => True) (Q := fun _ _ => True) Zc.steady hfr hf sky' fun _ _ _ => True.intro) (fun _ _ _ => True.intro) fun _ _ _ => True.intro
theorem s_try (i : Nat) (hN : X.N.Nodup) (hc : Names X x c) (tk : Tk X Ex)
    (hb : ∀ (W : WX) (pn : List (Addr × Obj)) (xe : Value → Shared → Prop), Takes (X.tr pn xe) W → PassesOwn (model X.prog X.w) X.A X.env xe → BD (X.tr pn xe) K (WE W) body (tb W) ub)
    (hsu : ∀ (a : Addr) (oe : Obj) (cls : Value) (d : Option Addr) (pn : List (Addr × Obj)), Zc cls d oe → (∃ vs, oe.data = .fields vs) → BD (X.suite a ((a, oe) :: pn)) K X0 (b₀ :: suite) (ts a cls d) (us a cls d))
    (hi : X.N[i]? = some n := by rfl) (hs : X.stack = X.env :: X.outer := by rfl) (hf : X.env.frame = some X.env.locals := by rfl) (hln : X.env.kindOf n = some .local := by rfl) (hK : X.K = K := by rfl) :
    SD X K Ex (.Try body [.ExceptHandler (some (.Name x np)) (some n) (b₀ :: suite) pos'] [] [] pos) (fun D σ H => tb (wAs K c i ts (fun cls d σ H => Ex σ cls d H) D) D σ H) (uTry K c i ub us) := by
  subst hK
  exact ⟨ps_try_as hs hf hN hi hln hc tk (fun W pn xe a b => (hb W pn xe a b).pe) (fun a oe cls d pn z z2 => (hsu a oe cls d pn z z2).pe),
    sim_try (fun W => (hb W [] (xNote X) (takes_note hs hf W) PassesOwn.looking).sim) (fun a cls d => (hsu a { cls := cls, dict := d, data := .fields #[] } cls d [] ⟨rfl, rfl⟩ ⟨_, rfl⟩).sim)⟩
end
/-! ### the caught error -/
section
variable {K : PySem.W.Frag} {Z : Hp} {as as' as1 : List Addr} {F F' F1 H H' H1 : Hp} {Ex : L2.St → XK}
def tXfA (K : PySem.W.Frag) (a : Addr) (cls : Value) (d : Option Addr) (f : Str) (te : TE) : TE := fun σ H Q => te σ H fun x H1 => x = .ref a ∧ ∃ C, cls = .ref C ∧ XfC K C ∧ PySem.W.findIn K (.ref C) f = some none ∧ ∃ (dd : Addr) (fs : List (Str × V)) (v : V), d = some dd ∧ H1 dd = some (.xd fs) ∧ fs.lookup f = some v ∧ Q v H1
def uXf (K : PySem.W.Frag) (a : Addr) (cls : Value) (d : Option Addr) (f : Str) (ue : DTE) : DTE := fun ρ μ Q E => ue ρ μ (fun x μ1 => match x with
  | .exc a' C d' gs => a' = a ∧ cls = .ref C ∧ d' = d ∧ XfC K C ∧ PySem.W.findIn K (.ref C) f = some none ∧ (match gs.lookup f with
    | some v => Q v μ1
    | none => False)
  | _ => False) E
theorem sim_xf {a : Addr} {cls : Value} {d : Option Addr} {f : Str} {te : TE} {ue : DTE} (s : Sim K Ex te ue) : Sim K Ex (tXfA K a cls d f te) (uXf K a cls d f ue) := fun Z as F H σ ρ μ Q E Q' R X h k =>
  s Z as F H σ ρ μ _ E _ R X h fun v dv μ1 as1 F1 H1 g1 R1 r1 h1 => by
    cases r1 <;> try exact h1.elim
    · obtain ⟨_, _, _, _, _, h2⟩ := h1
      exact h2.elim
    · rename_i a' C dd fs gs e r
      obtain ⟨e1, e2, e3, e4, e5, h2⟩ := h1
      cases l : gs.lookup f with
      | none => rw [l] at h2; exact h2.elim
      | some w =>
        rw [l] at h2
        obtain ⟨v', l', rr⟩ := r.look l
        exact ⟨by rw [e1], C, e2, e4, e5, dd, fs, v', e3.symm, R1.mm.same _ _ e, l', k v' w μ1 as1 F1 H1 g1 R1 rr h2⟩
def rIsXA (K : PySem.W.Frag) (a : Addr) (cls : Value) (d : Option Addr) (c : V) (cv : Value) : List V → Hp → VK → Prop := fun xs H Q => ∃ C, cls = .ref C ∧ Vx.ExcX K C ∧ ∃ (dd : Addr) (fs : List (Str × V)) (b : Bool), d = some dd ∧ H dd = some (.xd fs) ∧ xs = [.ref a, c] ∧ PySem.W.kitOne K (.ref C) cv = some b ∧ Q (.bl b) H
def uIsX (K : PySem.W.Frag) (a : Addr) (cls : Value) (d : Option Addr) (cv : Value) (ue : DTE) : DTE := fun ρ μ Q E => ue ρ μ (fun x μ1 => match x with
  | .exc a' C d' (_ :: _) => a' = a ∧ cls = .ref C ∧ d' = d ∧ Vx.ExcX K C ∧ ∃ b, PySem.W.kitOne K (.ref C) cv = some b ∧ Q (.bl b) μ1
  | _ => False) E
theorem sim_isX {a : Addr} {cls : Value} {d : Option Addr} {c : V} {cv : Value} {te : TE} {ue : DTE} (s : Sim K Ex te ue) : Sim K Ex (tCB (rIsXA K a cls d c cv) (tCons te (tCons (tC c) tNil))) (uIsX K a cls d cv ue) := fun Z as F H σ ρ μ Q E Q' R X h k =>
  s Z as F H σ ρ μ _ E _ R X h fun v dv μ1 as1 F1 H1 g1 R1 r1 h1 => by
    cases r1 <;> try exact h1.elim
    rename_i a' C dd fs gs e r
    cases gs with
    | nil => exact h1.elim
    | cons g0 gs =>
      obtain ⟨e1, e2, e3, e4, b, e5, q⟩ := h1
      exact ⟨C, e2, e4, dd, fs, b, e3.symm, R1.mm.same _ _ e, by rw [e1], e5, k _ _ μ1 as1 F1 H1 g1 R1 (.bl _) q⟩
end
section
variable {X : Cx} {a : Addr} {oe : Obj} {cls : Value} {d : Option Addr} {pn : List (Addr × Obj)} {K : PySem.W.Frag} {pos p1 p2 : Pos} {e : Expr} {te : TE} {ue : DTE} {f n : Str}
theorem d_xf (hz : Zc cls d oe) (hf : ∃ vs, oe.data = .fields vs) (he : PD (X.suite a ((a, oe) :: pn)) K X0 e te ue) (hK : X.K = K := by rfl) (hb : attributeBase e f (X.suite a ((a, oe) :: pn)).env (eval e (X.suite a ((a, oe) :: pn)).env) = eval e (X.suite a ((a, oe) :: pn)).env := by rfl) :
    PD (X.suite a ((a, oe) :: pn)) K X0 (.Attribute e f pos) (tXfA K a cls d f te) (uXf K a cls d f ue) := by
  subst hK
  refine ⟨⟨fun pins s σ H Q I h => ?_⟩, sim_xf he.sim⟩
  refine attr_of hb (thn (he.pe.run pins s σ H _ I h) fun u s1 hh => ?_)
  obtain ⟨x, H1, I1, rx, ex, C, ec, T, hno, dd, fs, v, ed, ea, l, q⟩ := hh
  subst ex
  obtain rfl : u = Value.ref a := rx
  subst ec
  subst ed
  obtain ⟨ha, _⟩ := I1.pin (a, oe) (List.mem_append_left _ List.mem_cons_self)
  obtain ⟨vs, hd⟩ := hf
  have hx : ObjOk X.prog X.w H1 s1.heap dd (.xd fs) := I1.hok dd _ ea
  obtain ⟨mA, hns, hr⟩ := hx
  obtain ⟨od, ho, hl⟩ := lookIn_ns hns
  obtain ⟨u, hu, ru⟩ := RelO.some_of (v := v) (o := mA f) (by rw [← l]; exact hr f)
  have J : PySem.W.InstAt s1.heap a oe C (some od) := ⟨ha, hz.1, by unfold PySem.W.notCls; rw [hd] <;> rfl, by rw [hz.2]; exact ho⟩
  exact HandSPX.exc_get I1.kIn J T.ga T.gg T.exC (PySem.W.findObj_own T.hdC hno rfl (by rw [hl, hu])) (handed_of ru) ⟨v, H1, I1.tok _, ru, q⟩
theorem call_isXA {c : V} {cv : Value} (hcv : ∀ u, RelV c u → u = cv) (hz : Zc cls d oe) (hf : ∃ vs, oe.data = .fields vs) : CallR (X.suite a ((a, oe) :: pn)) (.builtin "isinstance") (rIsXA X.K a cls d c cv) := by
  intro pins s σ H xs us Q I r h
  obtain ⟨C, ec, T, dd, fs, b, ed, hd, ex, e, q⟩ := h
  exact Vx.call_isX T hz hf pins s σ H xs us Q I r ⟨ec, dd, fs, c, cv, b, ed, hd, ex, hcv, e, q⟩
/-- isinstance(e, C) of the caught error, C an own class -/
theorem d_isX {C : Addr} (hz : Zc cls d oe) (hf : ∃ vs, oe.data = .fields vs) (hm : X.mg "isinstance" = none) (hm2 : X.mg n = some (.ref C)) (he : PD (X.suite a ((a, oe) :: pn)) K X0 e te ue) (hg : Gl X "isinstance" := by rfl) (hg2 : Gl X n := by rfl) (hK : X.K = K := by rfl)
    (hd : (n == ("__debug__" : Str)) = false := by decide) (h1 : starEach [e, .Name n p1] X.env = (false, eval e X.env) :: starEach [.Name n p1] X.env := by rfl) (h2 : starEach [.Name n p1] X.env = (false, eval (.Name n p1) X.env) :: starEach [] X.env := by rfl) (h3 : (backTo pos (starEach [.Name n p1] X.env)).any (·.1) = false := by rfl) :
    PD (X.suite a ((a, oe) :: pn)) K X0 (.Call (.Name "isinstance" p2) [e, .Name n p1] [] pos) (tCB (rIsXA K a cls d (.ref C) (.ref C)) (tCons te (tCons (tC (.ref C)) tNil))) (uIsX K a cls d (.ref C) ue) := by
  subst hK
  exact ⟨pe_callB (X := X.suite a ((a, oe) :: pn)) (call_isXA (fun u z => z) hz hf) hg hm (by decide +kernel) (pa_cons he.pe (pa_cons (pe_glob (X := X.suite a ((a, oe) :: pn)) (v := .ref C) hg2 hm2 rfl hd) pa_nil h2) h1) (by decide) (by decide) h1 h3, sim_isX he.sim⟩
theorem d_isXB {T : String} (hz : Zc cls d oe) (hf : ∃ vs, oe.data = .fields vs) (hm : X.mg "isinstance" = none) (hm2 : X.mg n = none) (he : PD (X.suite a ((a, oe) :: pn)) K X0 e te ue) (hv : bootBuiltins n = some (.type T) := by decide +kernel) (hg : Gl X "isinstance" := by rfl) (hg2 : Gl X n := by rfl) (hK : X.K = K := by rfl)
    (hn : n ≠ "__name__" := by decide) (hd : (n == ("__debug__" : Str)) = false := by decide) (h1 : starEach [e, .Name n p1] X.env = (false, eval e X.env) :: starEach [.Name n p1] X.env := by rfl) (h2 : starEach [.Name n p1] X.env = (false, eval (.Name n p1) X.env) :: starEach [] X.env := by rfl) (h3 : (backTo pos (starEach [.Name n p1] X.env)).any (·.1) = false := by rfl) :
    PD (X.suite a ((a, oe) :: pn)) K X0 (.Call (.Name "isinstance" p2) [e, .Name n p1] [] pos) (tCB (rIsXA K a cls d (.ty T) (.type T)) (tCons te (tCons (tC (.ty T)) tNil))) (uIsX K a cls d (.type T) ue) := by
  subst hK
  exact ⟨pe_callB (X := X.suite a ((a, oe) :: pn)) (call_isXA (fun u z => z) hz hf) hg hm (by decide +kernel) (pa_cons he.pe (pa_cons (pe_bltn (X := X.suite a ((a, oe) :: pn)) (v := .ty T) hg2 hm2 hv rfl hn hd) pa_nil h2) h1) (by decide) (by decide) h1 h3, sim_isX he.sim⟩
end
end DX
set_option Elab.async false
set_option linter.all false
set_option maxRecDepth 100000
set_option maxHeartbeats 2000000
namespace Vx
open PySem PySem.Spec PyProof.Rows L2
section
variable {X : Cx} {CX : CXT} {k : Nat} {C f : Addr} {sp : Sp} {E : XK} {pins : List (Addr × Obj)} {σ : L2.St} {H : Hp} {s : Shared} {Q : VK} {A : Around}
/-- a def called somewhere below the running body -/
theorem run_in {us : List Value} {vs : List V} (sb : Sub X k A) (F : FnR X.prog X.w X.K X.mg X.base CX k f sp) (hx : Passes CX X E) (I : L2.Inv X pins σ H s) (r : Vals vs us) (h : sp vs H Q E) :
    codeAny (model X.prog X.w) A (.call (.ref f) ⟨us, []⟩) (fun r s' => match r with | .ok (.ret v) => EP X pins σ Q v s' | .ok _ => False | .error e => X.xe e s') s := by
  have e0 : Env0 X.prog X.w X.K X.mg X.base A X.stack s H := by
    have e := I.env0
    exact ⟨by rw [sb.fr]; exact e.frames, e.mod, e.bs, e.bsz, e.funs, e.frf, e.hok, e.bare⟩
  refine codeAny_mono (F A X.stack s H us vs Q E sb.room e0 r h) fun r s' hq => ?_
  cases r with
  | error e => exact hx pins σ H s e s' I hq
  | ok fl =>
    cases fl with
    | ret u => exact I.after hq
    | next => exact False.elim hq
    | brk => exact False.elim hq
    | cont => exact False.elim hq
end
section
variable {prog : Program} {w : World} {A : Around} {E : Value → Shared → Prop} {s : Shared} {K : PySem.W.Frag} {x C L f : Addr} {h₀ : Heap} {m : Str → Option Value} {ox : Obj} {od : Option Obj} {b : Value}
open PySem.W in
theorem ne_body (hu : A.units < cLine) (X : K.In s.heap) (I : InstAt s.heap x ox C od) (he : findIn K (.ref C) "__eq__" = some (some (.ref f))) (hf : isFn K (.ref f) = true) {Q : Value → Shared → Prop}
    (h : wpAny (model prog w) A (call (.ref f) [.ref x, b]) (fun v s' => ∃ r, v = .bool r ∧ Q (.bool (!r)) s') E s) :
    wpAny (model prog w) A (Builtin.«object.__ne__» ⟨[.ref x, b], []⟩) (fun fin s' => ∃ v, fin = .done (.ret v) ∧ Q v s') E s := by
  unfold Builtin.«object.__ne__»
  obtain ⟨hh, g, d, t, os⟩ := s
  have st : wpAny (model prog w) A (callSpecialIfBound? (.ref x) "__eq__" [b]) (fun r s' => ∃ v, r = some (.bool v) ∧ Q (.bool (!v)) s') E ⟨hh, g, d, t, os⟩ :=
    ifBound_K X I he hf (wpAny_mono h (fun v s' hv => by obtain ⟨r, rfl, q⟩ := hv; exact ⟨r, rfl, q⟩) fun _ _ z => z)
  repeat (first | with_reducible refine wpAny_cRoomFor hu ?_ | with_reducible refine wpAny_bind (wpAny_mono st (fun r s' hr => ?_) fun _ _ z => z) | wp_step)
  obtain ⟨v, rfl, q⟩ := hr
  refine wpAny_bind (wpAny_truthy_bool ?_)
  exact wpAny_pure ⟨_, rfl, q⟩
open PySem.W in
theorem ne_K {Q : Value → Shared → Prop} {tb : Value} (hu : A.units + 1 < cLine) (F : Fr h₀ L s.heap m) (X₀ : K.In h₀) (I : InstAt s.heap x ox C od) (hb : Looks (model prog w) s.heap (typeOf b) tb) (hn : notFirst K C tb = true)
    (hs : findIn K (.ref C) "__ne__" = some (some (.builtin "object.__ne__"))) (he : findIn K (.ref C) "__eq__" = some (some (.ref f))) (hf : isFn K (.ref f) = true) (ho : mroIn K C (.type "object") = some true)
    (h : wpAny (model prog w) A.in1 (call (.ref f) [.ref x, b]) (fun v s' => ∃ r, v = .bool r ∧ Q (.bool (!r)) s') E s) : wpAny (model prog w) A (richCompare .NotEq (.ref x) b) Q E s := by
  have X := X₀.keeps F.keep
  have hu0 : A.units < cLine := Nat.lt_trans (Nat.lt_succ_self _) hu
  have cb : wpAny (model prog w) A (call (.builtin "object.__ne__") ([.ref x] ++ [b])) (fun v s' => ∃ r, v = .bool r ∧ Q v s') E s := by
    refine wpAny_call (codeAny_call_builtin PySem.F.cmp_object.ne.plain PySem.F.cmpEntry_ne (check_slot PySem.F.cmpKind_ne PySem.F.cmpSplit_ne (I.type.andThen (looks_mroIn X ho)) (PySem.F.cmpArgs_ne _ _) ?_))
    have z : wpAny (model prog w) A.in1 (Builtin.«object.__ne__» ⟨[.ref x, b], []⟩) (fun fin s' => ∃ v, fin = .done (.ret v) ∧ ∃ r, v = .bool r ∧ Q v s') E s :=
      ne_body (Q := fun v s' => ∃ r, v = .bool r ∧ Q v s') (A := A.in1) hu X I he hf (wpAny_mono h (fun v s' hv => by obtain ⟨r, rfl, q⟩ := hv; exact ⟨r, rfl, _, rfl, q⟩) fun _ _ z => z)
    refine wpAny_mono z (fun fin s' hv => ?_) fun _ _ y => y
    obtain ⟨v, rfl, r, rfl, q⟩ := hv
    exact ⟨r, rfl, q⟩
  have one : wpAny (model prog w) A (tryCompare (.ref x) "__ne__" b) (fun r s' => ∃ v, r = some v ∧ Q v s') E s := by
    unfold tryCompare
    refine wpAny_bind ?_
    simp only [callSpecialIfBound?, bindSpecialIfBound?]
    refine wpAny_holding (wpAny_bind (wpAny_bind (wpAny_bind (I.type.here ((looks_findIn X hs).here ?_)))))
    simp only [PySem.F.cmp_object.ne.bind]
    refine wpAny_bind (wpAny_askSetting (wpAny_ite ?_))
    have fin : wpAny (model prog w) A (call (.builtin "object.__ne__") ([.ref x] ++ [b]) >>= fun v => pure (some v)) (fun r s' => ∃ v, r = some (.bool v) ∧ Q (.bool v) s') E s :=
      wpAny_bind (wpAny_mono cb (fun v s' h' => by obtain ⟨r, rfl, q⟩ := h'; exact wpAny_pure ⟨r, rfl, q⟩) fun _ _ h' => h')
    have fin2 := wpAny_mono fin (Q' := fun r s' => wpAny (model prog w) A (match r with | some .notImplemented => pure none | none => pure none | some v => pure (some v)) (fun r s' => ∃ v, r = some v ∧ Q v s') E s') (fun r s' h' => by obtain ⟨v, rfl, q⟩ := h'; exact wpAny_pure ⟨_, rfl, q⟩) fun _ _ z => z
    split
    · exact wpAny_bind (wpAny_pure (wpAny_pure fin2))
    · exact wpAny_tryCatch (wpAny_bind (wpAny_pure (wpAny_pure fin2)))
  unfold richCompare
  simp only [oneThing_ref]
  refine wpAny_holding (wpAny_bind (wpAny_cRoomFor hu0 ?_))
  refine wpAny_bind (I.type.here (wpAny_bind (hb.here ?_)))
  split
  · rename_i q
    have e : subIn K tb (.ref C) = some false := by
      rcases Bool.or_eq_true_iff.mp hn with e | e
      · rw [beq_iff_eq.mp e] at q; simp at q
      · exact beq_iff_eq.mp e
    refine wpAny_bind ((looks_subIn X e).here ?_)
    simp only [Bool.false_eq_true, if_false]
    refine wpAny_bind (wpAny_mono one (fun r s' z => ?_) fun _ _ e => e)
    obtain ⟨v, rfl, hq⟩ := z
    exact wpAny_pure hq
  · refine wpAny_bind (wpAny_pure ?_)
    simp only [Bool.false_eq_true, if_false]
    refine wpAny_bind (wpAny_mono one (fun r s' z => ?_) fun _ _ e => e)
    obtain ⟨v, rfl, hq⟩ := z
    exact wpAny_pure hq
end
section
variable {X : Cx} {CX : CXT} {k : Nat} {C f : Addr} {sp : Sp} {E : XK}
/-- o != y: not o == y, by the own == -/
def rNeOwn (C : Addr) (sp : Sp) (E : XK) : R2 := fun x y H Q => (∃ a dx fs, x = .ref a ∧ H a = some (.ins C dx fs)) ∧ (∃ b dy gs, y = .ref b ∧ H b = some (.ins C dy gs)) ∧ sp [x, y] H (fun v H' => ∃ r, v = .bl r ∧ Q (.bl (!r)) H') E
theorem op_neOwn (nf : PySem.W.notFirst X.K C (.ref C) = true) (hs : PySem.W.findIn X.K (.ref C) "__ne__" = some (some (.builtin "object.__ne__"))) (he : PySem.W.findIn X.K (.ref C) "__eq__" = some (some (.ref f))) (fn : PySem.W.isFn X.K (.ref f) = true)
    (ho : PySem.W.mroIn X.K C (.type "object") = some true) (F : FnR X.prog X.w X.K X.mg X.base CX k f sp) (hr : Room (k + 1) X.A) (hx : Passes CX X E) : OpR X (compareOp .NotEq) (rNeOwn C sp E) := by
  intro pins s σ H x y v u Q I rx ry hq
  obtain ⟨⟨a, dx, fs, rfl, ha⟩, ⟨b, dy, gs, rfl, hb⟩, hsp⟩ := hq
  have ev : v = Value.ref a := rx
  have eu : u = Value.ref b := ry
  have sb : Sub X k X.A.in1 := (⟨hr, rfl⟩ : Sub X (k + 1) X.A).in1
  have cl := wpAny_call (run_in (us := [v, u]) (vs := [V.ref a, V.ref b]) sb F hx I (.cons rx (.cons ry .nil)) hsp)
  subst ev eu
  obtain ⟨mA, J, _⟩ := ins_get I.hok ha
  obtain ⟨od, J, _⟩ := J.look
  obtain ⟨mB, J', _⟩ := ins_get I.hok hb
  obtain ⟨od', J', _⟩ := J'.look
  obtain ⟨m, hF⟩ := I.fr
  show wpAny (model X.prog X.w) X.A (richCompare .NotEq (.ref a) (.ref b)) (EP X pins σ Q) X.xe s
  refine ne_K (hu_of hr) hF I.ok.mod.kin J J'.type nf hs he fn ho (wpAny_mono cl (fun v s' hv => ?_) fun _ _ z => z)
  obtain ⟨v', H', I', rv, r, rfl, q⟩ := hv
  exact ⟨r, rv, .bl (!r), H', I', rfl, q⟩
end
end Vx
set_option Elab.async false
set_option linter.all false
set_option maxRecDepth 100000
set_option maxHeartbeats 4000000
namespace DX
open PySem PySem.Spec PyProof.Rows L2
/-! ### own special methods, walks of pairs, small things -/
def isC (C : Addr) (μ : Mem) (x : D) : Prop := match view μ x with
  | .ins C' _ => C' = C
  | _ => False
abbrev EF : Addr → List (Str × D) → Mem → Prop := fun _ _ _ => False
section
variable {K : PySem.W.Frag} {Z : Hp} {as as' as1 : List Addr} {F F' F1 H H' H1 : Hp} {Ex : L2.St → XK}
theorem isC_at {C : Addr} {μ : Mem} (M : Mm K Z as F H μ) {v : V} {d : D} (r : Rep K as F v d) (h : isC C μ d) : ∃ a dx fs, v = .ref a ∧ H a = some (.ins C dx fs) := by
  unfold isC at h
  cases e : view μ d with
  | ins C' gs =>
    rw [e] at h
    have h : C' = C := h
    subst h
    obtain ⟨a, dx, fs, rfl, q, x⟩ := view_ins M r e
    exact ⟨a, dx, fs, rfl, q⟩
  | _ => rw [e] at h; exact h.elim
/-- a promise at work, nothing raised -/
theorem sp_useM {S : DSp} {μ : Mem} {vs : List V} {ds : List D} {Q : D → Mem → Prop} {Q' : VK} (M : Mm K Z as F H μ) (r : RepL K as F vs ds) (h : S ds μ Q EF)
    (k : ∀ v d μ' as' F' H', Gr as F as' F' → Mm K Z as' F' H' μ' → Rep K as' F' v d → Q d μ' → Q' v H') : toSp K S vs H Q' E0 := ⟨Z, as, F, ds, μ, Q, EF, r, M, h, k, fun _ _ _ _ _ _ _ _ _ _ z => z.elim⟩
end
section
variable {X : Cx} {CX : CXT} {k : Nat} {C f : Addr} {sp : Sp} {Ex : L2.St → XK}
theorem passN {X : Cx} (σ : L2.St) : PassesAt (L2.CX X.prog X.w) X σ E0 := fun pins H s e s' I c => passL pins σ H s e s' I c
/-- a def called somewhere below the running body -/
theorem run_inQ {E : XK} {pins : List (Addr × Obj)} {σ : L2.St} {H : Hp} {s : Shared} {Q : VK} {A : Around} {us : List Value} {vs : List V} (sb : Sub X k A) (F : Gd.FnG X.prog X.w X.K X.mg X.base CX k f sp) (g : Gd.Calm0 A) (hx : PassesAt CX X σ E) (I : L2.Inv X pins σ H s) (r : Vals vs us) (h : sp vs H Q E) :
    codeAny (model X.prog X.w) A (.call (.ref f) ⟨us, []⟩) (fun r s' => match r with | .ok (.ret v) => EP X pins σ Q v s' | .ok _ => False | .error e => X.xe e s') s := by
  have e0 : Env0 X.prog X.w X.K X.mg X.base A X.stack s H := by
    have e := I.env0
    exact ⟨by rw [sb.fr]; exact e.frames, e.mod, e.bs, e.bsz, e.funs, e.frf, e.hok, e.bare⟩
  refine codeAny_mono (F A X.stack s H us vs Q E g sb.room e0 r h) fun r s' hq => ?_
  cases r with
  | error e => exact hx pins H s e s' I hq
  | ok fl =>
    cases fl with
    | ret u => exact I.after hq
    | next => exact False.elim hq
    | brk => exact False.elim hq
    | cont => exact False.elim hq
theorem calm1 {A : Around} (g : Gd.Calm0 A) : Gd.Calm0 A.in1 := g
/-! o[i] -/
structure GetI (K : PySem.W.Frag) (C f : Addr) : Prop where
  at_ : PySem.W.findIn K (.ref C) "__getitem__" = some (some (.ref f))
  fi : PySem.W.fnIn K f = true
  fn : PySem.W.isFn K (.ref f) = true
def tGetQ (C : Addr) (sp : Sp) (E : L2.St → XK) (ta tb : TE) : TE := fun σ H Q => ta σ H fun x H1 => tb σ H1 fun y H2 => (∃ a dx fs, x = .ref a ∧ H2 a = some (.ins C dx fs)) ∧ sp [x, y] H2 Q (E σ)
theorem pe_getQ {a b : Expr} {pos : Pos} {ta tb : TE} (ha : PE X a ta) (hb : PE X b tb) (G : GetI X.K C f) (F : Gd.FnG X.prog X.w X.K X.mg X.base CX k f sp) (g : Gd.Calm0 X.A) (hr : Room (k + 1) X.A) (hx : ∀ σ, PassesAt CX X σ (Ex σ))
    (hs : ∀ o i : Value, subscripted b true o i = runValue (.builtin "lifetime.subscript" ⟨[o, i], []⟩)) : PE X (.Subscript a b pos) (tGetQ C sp Ex ta tb) := by
  refine ⟨fun pins s σ H Q I h => ?_⟩
  refine Subscript_ (binT ha hb I h fun v u s2 x y H2 I2 rx ry q => ?_)
  obtain ⟨⟨r, dx, fs, rfl, hr1⟩, hsp⟩ := q
  have ev : v = Value.ref r := rx
  have sb : Sub X k X.A.in1 := (⟨hr, rfl⟩ : Sub X (k + 1) X.A).in1
  have cl := run_inQ (us := [v, u]) (vs := [V.ref r, y]) sb F (calm1 g) (hx σ) I2 (.cons rx (.cons ry .nil)) hsp
  subst ev
  obtain ⟨mA, J, _⟩ := ins_get I2.hok hr1
  obtain ⟨od, J, _⟩ := J.look
  obtain ⟨m, hF⟩ := I2.fr
  exact PySem.W.sub_K hF I2.ok.mod.kin J G.at_ G.fi G.fn (wpAny_call cl) (hs _ _)
/-! o[i] = v -/
structure SetI (K : PySem.W.Frag) (C f : Addr) : Prop where
  nq : PySem.W.noSeq K C = true
  at_ : PySem.W.findIn K (.ref C) "__setitem__" = some (some (.ref f))
  fn : PySem.W.isFn K (.ref f) = true
def gSetQ (C : Addr) (sp : Sp) (E : L2.St → XK) (to ti : TE) : TG := fun v σ H Q => to σ H fun o H1 => ti σ H1 fun i H2 => (∃ a dx fs, o = .ref a ∧ H2 a = some (.ins C dx fs)) ∧ sp [o, i, v] H2 (fun _ H3 => Q σ H3) (E σ)
theorem pg_setQ {o i : Expr} {pos : Pos} {to ti : TE} (ho : PE X o to) (hi : PE X i ti) (G : SetI X.K C f) (F : Gd.FnG X.prog X.w X.K X.mg X.base CX k f sp) (g : Gd.Calm0 X.A) (hr : Room k X.A) (hx : ∀ σ, PassesAt CX X σ (Ex σ))
    (ha : ∀ v, assign (.Subscript o i pos) X.env v = (do
      let ov ← holding [v] (eval o X.env)
      let iv ← holding [v, ov] (eval i X.env)
      standAt pos
      holding [v, ov, iv] (setItem ov iv v)
      release [v, ov, iv] []) := by intro _; rfl) : PG X (.Subscript o i pos) (gSetQ C sp Ex to ti) := by
  refine ⟨fun pins s σ H v u Q I r h => ?_⟩
  rw [ha]
  refine wpAny_bind (wpAny_holding (thn (ho.run pins s σ H _ I h) fun ov s1 ⟨x, H1, I1, r1, q1⟩ => ?_))
  refine wpAny_bind (wpAny_holding (thn (hi.run pins s1 σ H1 _ I1 q1) fun iv s2 ⟨y, H2, I2, r2, q2⟩ => ?_))
  obtain ⟨⟨a, dx, fs, rfl, ha⟩, hsp⟩ := q2
  have eo : ov = Value.ref a := r1
  refine wpAny_bind (wpAny_standAt (wpAny_bind (wpAny_holding ?_)))
  have cl := run_gW (us := [ov, iv, u]) (vs := [V.ref a, y, v]) F g hr (hx σ) I2 (.cons r1 (.cons r2 (.cons r .nil))) hsp
  subst eo
  obtain ⟨mA, J, _⟩ := ins_get I2.hok ha
  obtain ⟨od, J, _⟩ := J.look
  obtain ⟨m, hF⟩ := I2.fr
  refine PySem.W.ksp_setItem hF I2.ok.mod.kin J G.nq G.at_ G.fn (wpAny_mono cl (fun r s' z => ?_) fun _ _ z => z)
  obtain ⟨v', H', I', rv, q⟩ := z
  exact wpAny_release ⟨σ, H', I', q⟩
/-! len(o) -/
structure LenI (K : PySem.W.Frag) (C f : Addr) : Prop where
  at_ : PySem.W.findIn K (.ref C) "__len__" = some (some (.ref f))
  fn : PySem.W.isFn K (.ref f) = true
def rLenQ (C : Addr) (sp : Sp) : List V → Hp → VK → Prop := fun xs H Q => (∃ a dx fs, xs = [.ref a] ∧ H a = some (.ins C dx fs)) ∧ sp xs H (fun v H' => ∃ n : Nat, v = .int n ∧ n < 1000000 ∧ Q (.int n) H') E0
theorem call_lenQ (G : LenI X.K C f) (F : Gd.FnG X.prog X.w X.K X.mg X.base (L2.CX X.prog X.w) k f sp) (g : Gd.Calm0 X.A) (hr : Room (k + 1) X.A) : CallR X (.builtin "len") (rLenQ C sp) := by
  intro pins s σ H xs us Q I r h
  obtain ⟨⟨a, dx, fs, rfl, ha⟩, hsp⟩ := h
  obtain ⟨u, rfl, rx⟩ := vals1 r
  cases rx
  have sb : Sub X k X.A.in1 := (⟨hr, rfl⟩ : Sub X (k + 1) X.A).in1
  obtain ⟨mA, J, _⟩ := ins_get I.hok ha
  obtain ⟨od, J, _⟩ := J.look
  obtain ⟨m, hF⟩ := I.fr
  refine PySem.W.len_K hF I.ok.mod.kin J G.at_ G.fn (wpAny_mono (wpAny_call (run_inQ (us := [.ref a]) (vs := [V.ref a]) sb F (calm1 g) (passN σ) I (.cons rfl .nil) hsp)) (fun v s' hv => ?_) fun _ _ z => z)
  obtain ⟨v', H', I', rv, n, rfl, hn, q⟩ := hv
  obtain ⟨t, rfl⟩ := rv
  exact ⟨⟨by omega, by omega⟩, .int n, H', I'.tok _, ⟨_, rfl⟩, q⟩
/-! o == y, o != y, x in o, o < y -/
theorem call_cmpQ {pins : List (Addr × Obj)} {σ : L2.St} {H : Hp} {s : Shared} {Q : VK} {us : List Value} {vs : List V} (F : Gd.FnG X.prog X.w X.K X.mg X.base (L2.CX X.prog X.w) k f sp) (g : Gd.Calm0 X.A) (hr : Room k X.A) (I : L2.Inv X pins σ H s) (r : Vals vs us) (h : sp vs H Q E0) :
    wpAny (model X.prog X.w) X.A (call (.ref f) us) (PySem.W.CmpBack (EP X pins σ Q)) X.xe s :=
  wpAny_mono (run_gW (E := fun _ => E0) F g hr (passN σ) I r h) (fun _ _ z => Vx.cmpBack_of z) fun _ _ z => z
structure CmpI (K : PySem.W.Frag) (C f : Addr) (m : Str) : Prop where
  at_ : PySem.W.findIn K (.ref C) m = some (some (.ref f))
  fn : PySem.W.isFn K (.ref f) = true
/-- y comes not first -/
def rCmpQ (K : PySem.W.Frag) (C : Addr) (sp : Sp) : R2 := fun x y H Q => (∃ a dx fs, x = .ref a ∧ H a = some (.ins C dx fs)) ∧ (∃ t, TyX K H y t ∧ PySem.W.notFirst K C t = true) ∧ sp [x, y] H Q E0
theorem op_cmpQ {op : CmpOp} (hc : ∀ v u, compareOp op v u = richCompare op v u) (G : CmpI X.K C f (cmpInfo op).2.1) (F : Gd.FnG X.prog X.w X.K X.mg X.base (L2.CX X.prog X.w) k f sp) (g : Gd.Calm0 X.A) (hr : Room k X.A) : OpR X (compareOp op) (rCmpQ X.K C sp) := by
  intro pins s σ H x y v u Q I rx ry hq
  obtain ⟨⟨a, dx, fs, rfl, ha⟩, ⟨t, ty, nf⟩, hsp⟩ := hq
  have ev : v = Value.ref a := rx
  have cl := call_cmpQ F g hr I (us := [v, u]) (vs := [V.ref a, y]) (.cons rx (.cons ry .nil)) hsp
  subst ev
  obtain ⟨mA, J, _⟩ := ins_get I.hok ha
  obtain ⟨od, J, _⟩ := J.look
  obtain ⟨m, hF⟩ := I.fr
  obtain ⟨PP, KX, hP, _⟩ := L2.kit_of I ry ty
  rw [hc]
  exact PySem.W.cmp_K hr.units0 hF I.ok.mod.kin J (KX.ty _ _ I.kIn hP) nf G.at_ G.fn cl
structure NeI (K : PySem.W.Frag) (C f : Addr) : Prop where
  hs : PySem.W.findIn K (.ref C) "__ne__" = some (some (.builtin "object.__ne__"))
  he : PySem.W.findIn K (.ref C) "__eq__" = some (some (.ref f))
  fn : PySem.W.isFn K (.ref f) = true
  ho : PySem.W.mroIn K C (.type "object") = some true
def rNeQ (K : PySem.W.Frag) (C : Addr) (sp : Sp) : R2 := fun x y H Q => (∃ a dx fs, x = .ref a ∧ H a = some (.ins C dx fs)) ∧ (∃ t, TyX K H y t ∧ PySem.W.notFirst K C t = true) ∧ sp [x, y] H (fun v H' => ∃ r, v = .bl r ∧ Q (.bl (!r)) H') E0
theorem op_neQ (G : NeI X.K C f) (F : Gd.FnG X.prog X.w X.K X.mg X.base (L2.CX X.prog X.w) k f sp) (g : Gd.Calm0 X.A) (hr : Room (k + 1) X.A) : OpR X (compareOp .NotEq) (rNeQ X.K C sp) := by
  intro pins s σ H x y v u Q I rx ry hq
  obtain ⟨⟨a, dx, fs, rfl, ha⟩, ⟨t, ty, nf⟩, hsp⟩ := hq
  have ev : v = Value.ref a := rx
  have sb : Sub X k X.A.in1 := (⟨hr, rfl⟩ : Sub X (k + 1) X.A).in1
  have cl := wpAny_call (run_inQ (us := [v, u]) (vs := [V.ref a, y]) sb F (calm1 g) (passN σ) I (.cons rx (.cons ry .nil)) hsp)
  subst ev
  obtain ⟨mA, J, _⟩ := ins_get I.hok ha
  obtain ⟨od, J, _⟩ := J.look
  obtain ⟨m, hF⟩ := I.fr
  obtain ⟨PP, KX, hP, _⟩ := L2.kit_of I ry ty
  show wpAny (model X.prog X.w) X.A (richCompare .NotEq (.ref a) u) (EP X pins σ Q) X.xe s
  refine Vx.ne_K (hu_of hr) hF I.ok.mod.kin J (KX.ty _ _ I.kIn hP) nf G.hs G.he G.fn G.ho (wpAny_mono cl (fun v s' hv => ?_) fun _ _ z => z)
  obtain ⟨v', H', I', rv, r, rfl, q⟩ := hv
  exact ⟨r, rv, .bl (!r), H', I', rfl, q⟩
def rInQ (C : Addr) (sp : Sp) (neg : Bool) : R2 := fun x y H Q => (∃ a dx fs, y = .ref a ∧ H a = some (.ins C dx fs)) ∧ sp [y, x] H (fun v H' => ∃ b, v = .bl b ∧ Q (.bl (if neg then !b else b)) H') E0
theorem op_inQ (G : CmpI X.K C f "__contains__") (F : Gd.FnG X.prog X.w X.K X.mg X.base (L2.CX X.prog X.w) k f sp) (g : Gd.Calm0 X.A) (hr : Room k X.A) : OpR X (compareOp .In) (rInQ C sp false) := by
  intro pins s σ H x y v u Q I rx ry hq
  obtain ⟨⟨a, dx, fs, rfl, ha⟩, hsp⟩ := hq
  have eu : u = Value.ref a := ry
  have cl := run_gW (E := fun _ => E0) (us := [u, v]) (vs := [V.ref a, x]) F g hr (passN σ) I (.cons ry (.cons rx .nil)) hsp
  subst eu
  obtain ⟨mA, J, _⟩ := ins_get I.hok ha
  obtain ⟨od, J, _⟩ := J.look
  obtain ⟨m, hF⟩ := I.fr
  refine PySem.W.in_K hF I.ok.mod.kin J G.at_ G.fn (wpAny_mono cl (fun r s' z => ?_) fun _ _ z => z)
  obtain ⟨v', H', I', rv, b, rfl, q⟩ := z
  have er : r = Value.bool b := rv
  subst er
  exact wpAny_truthy_bool ⟨.bl b, H', I', rfl, q⟩
end
section
variable {X : Cx} {k : Nat} {C q f : Addr} {mc : Value} {sp : Sp} {Ex : L2.St → XK} {o e : Expr} {es : List Expr} {m : Str} {pos apos : Pos} {ta : TE} {t : TA} {pl : Sem Bool}
/-! C.m(..) of a static method -/
def tSMethQ (C : Addr) (sp : Sp) (E : L2.St → XK) (ta : TE) (t : TA) : TE := fun σ H Q => ta σ H fun x H1 => x = .ref C ∧ t σ H1 fun vs H2 => sp vs H2 Q (E σ)
theorem pe_smethQ (hO : PE X o ta) (cr : ClX.CRead X.K C mc) (c : Vx.SMet X.K C mc m q f) (F : Gd.FnG X.prog X.w X.K X.mg X.base (L2.CX X.prog X.w) k f sp) (g : Gd.Calm0 X.A) (hr : Room k X.A) (tk : Tk X Ex) (hA : PA X (e :: es) t)
    (h1 : starEach (e :: es) X.env = (false, eval e X.env) :: starEach es X.env := by rfl) (h2 : (backTo pos (starEach es X.env)).any (·.1) = false := by rfl)
    (hW : eval (.Call (.Attribute o m apos) (e :: es) [] pos) X.env = (do
      let ov ← eval o X.env
      standAt apos.atName
      let (f, first) ← holding [ov] (getMethod ov m pl)
      callWith pos f first (backTo pos (starEach (e :: es) X.env)) (backToKw pos (keywordEach [] X.env))) := by rfl) : PE X (.Call (.Attribute o m apos) (e :: es) [] pos) (tSMethQ C sp Ex ta t) := by
  refine ⟨fun pn s σ H Q I h => PySem.W.methodCall_KW (pl := pl) (thn (hO.run pn s σ H _ I h) fun u s1 hh => ?_) hW⟩
  obtain ⟨x, H1, I1, rx, ex, y⟩ := hh
  subst ex
  obtain rfl : u = Value.ref C := rx
  obtain ⟨rest, hp⟩ := c.rc
  refine PySem.W.method_cls I1.kIn cr.ga (PySem.W.cls_bind I1.kIn cr.rd c.at_ (wpAny_call (PySem.W.sm_get (s := { s1 with toks := s1.toks + 1 }) I1.kIn hp (PySem.W.handed_on rfl ?_))))
  have I2 : L2.Inv X pn σ H1 { s1 with toks := s1.toks + 1 } := I1.tok _
  refine PySem.W.callWith_K (h₀ := X.base) I2.ok.mod.kin c.kp (thn (hA.run pos pn _ σ H1 _ I2 y) fun us s3 hh => ?_) h1 h2
  obtain ⟨vs, H2, I3, rv, q2⟩ := hh
  exact ⟨I3.kIn, run_gW F g hr (tk_pass tk σ) I3 rv q2⟩
theorem pe_smethQ0 (hO : PE X o ta) (cr : ClX.CRead X.K C mc) (c : Vx.SMet X.K C mc m q f) (F : Gd.FnG X.prog X.w X.K X.mg X.base (L2.CX X.prog X.w) k f sp) (g : Gd.Calm0 X.A) (hr : Room k X.A) (tk : Tk X Ex)
    (hW : eval (.Call (.Attribute o m apos) [] [] pos) X.env = (do
      let ov ← eval o X.env
      standAt apos.atName
      let (f, first) ← holding [ov] (getMethod ov m pl)
      callWith pos f first (backTo pos (starEach [] X.env)) (backToKw pos (keywordEach [] X.env))) := by rfl) : PE X (.Call (.Attribute o m apos) [] [] pos) (tSMethQ C sp Ex ta tNil) := by
  refine ⟨fun pn s σ H Q I h => PySem.W.methodCall_KW (pl := pl) (thn (hO.run pn s σ H _ I h) fun u s1 hh => ?_) hW⟩
  obtain ⟨x, H1, I1, rx, ex, y⟩ := hh
  subst ex
  obtain rfl : u = Value.ref C := rx
  obtain ⟨rest, hp⟩ := c.rc
  refine PySem.W.method_cls I1.kIn cr.ga (PySem.W.cls_bind I1.kIn cr.rd c.at_ (wpAny_call (PySem.W.sm_get (s := { s1 with toks := s1.toks + 1 }) I1.kIn hp (PySem.W.handed_on rfl ?_))))
  have I2 : L2.Inv X pn σ H1 { s1 with toks := s1.toks + 1 } := I1.tok _
  exact PySem.W.callWith_K0 I2.kIn c.kp (run_gW (us := []) F g hr (tk_pass tk σ) I2 .nil y)
end
/-! ### by data -/
def uGet (C : Addr) (S : DSp) (ua ub : DTE) : DTE := fun ρ μ Q E => ua ρ μ (fun x μ1 => ub ρ μ1 (fun y μ2 => isC C μ2 x ∧ S [x, y] μ2 Q (E ρ)) E) E
def uGSetO (C : Addr) (S : DSp) (uo ui : DTE) : DTG := fun d ρ μ Q E => uo ρ μ (fun o μ1 => ui ρ μ1 (fun i μ2 => isC C μ2 o ∧ S [o, i, d] μ2 (fun _ μ3 => Q ρ μ3) (E ρ)) E) E
def dLenO (C : Addr) (S : DSp) : DC := one fun x μ Q => isC C μ x ∧ S [x] μ (fun r μ' => ∃ n : Nat, r = .int n ∧ n < 1000000 ∧ Q (.int n) μ') EF
def dCmpO (K : PySem.W.Frag) (C : Addr) (S : DSp) : DR2 := fun x y μ Q => isC C μ x ∧ (∃ t, tyOf μ y = some t ∧ TyOk K t ∧ PySem.W.notFirst K C (tyVal t) = true) ∧ S [x, y] μ Q EF
def dNeO (K : PySem.W.Frag) (C : Addr) (S : DSp) : DR2 := fun x y μ Q => isC C μ x ∧ (∃ t, tyOf μ y = some t ∧ TyOk K t ∧ PySem.W.notFirst K C (tyVal t) = true) ∧ S [x, y] μ (fun r μ' => ∃ b, r = .bl b ∧ Q (.bl (!b)) μ') EF
def dInO (C : Addr) (S : DSp) (neg : Bool) : DR2 := fun x y μ Q => isC C μ y ∧ S [y, x] μ (fun r μ' => ∃ b, r = .bl b ∧ Q (.bl (if neg then !b else b)) μ') EF
def uSMeth (C : Addr) (S : DSp) (uo : DTE) (u : DTA) : DTE := fun ρ μ Q E => uo ρ μ (fun x μ1 => (match x with | .val v => v = V.ref C | _ => False) ∧ u ρ μ1 (fun ds μ2 => S ds μ2 Q (E ρ)) E) E
section
variable {K : PySem.W.Frag} {Z : Hp} {as as' as1 : List Addr} {F F' F1 H H' H1 : Hp} {Ex : L2.St → XK} {C : Addr} {S : DSp}
theorem sim_get {ta tb : TE} {ua ub : DTE} (a : Sim K Ex ta ua) (b : Sim K Ex tb ub) : Sim K Ex (tGetQ C (toSp K S) Ex ta tb) (uGet C S ua ub) := fun Z as F H σ ρ μ Q E Q' R X h k =>
  a Z as F H σ ρ μ _ E _ R X h fun v d μ1 as1 F1 H1 g1 R1 r1 h1 => b Z as1 F1 H1 σ ρ μ1 _ E _ R1 (X.up g1) h1 fun v2 d2 μ2 as2 F2 H2 g2 R2 r2 h2 =>
    ⟨isC_at R2.mm (r1.up g2) h2.1, sp_use R2 (X.up (g1.trans g2)) (.cons (r1.up g2) (.cons r2 .nil)) h2.2 fun v d μ' as' F' H' g M r q => k v d μ' as' F' H' ((g1.trans g2).trans g) (R2.up g M) r q⟩
theorem sim_gSetO {ta tb : TE} {ua ub : DTE} (a : Sim K Ex ta ua) (b : Sim K Ex tb ub) : SimG K Ex (gSetQ C (toSp K S) Ex ta tb) (uGSetO C S ua ub) := fun Z as F H σ ρ μ v d Q E Q' R X r h k =>
  a Z as F H σ ρ μ _ E _ R X h fun v1 d1 μ1 as1 F1 H1 g1 R1 r1 h1 => b Z as1 F1 H1 σ ρ μ1 _ E _ R1 (X.up g1) h1 fun v2 d2 μ2 as2 F2 H2 g2 R2 r2 h2 =>
    ⟨isC_at R2.mm (r1.up g2) h2.1, sp_use R2 (X.up (g1.trans g2)) (.cons (r1.up g2) (.cons r2 (.cons (r.up (g1.trans g2)) .nil))) h2.2 fun v d μ' as' F' H' g M r q => k σ ρ μ' as' F' H' ((g1.trans g2).trans g) (R2.up g M) q⟩
theorem sim_lenO : SimC K (rLenQ C (toSp K S)) (dLenO C S) := simC_one fun Z as F H μ v d Q Q' M r z k => by
  obtain ⟨a, dx, fs, rfl, q⟩ := isC_at M r z.1
  refine ⟨⟨a, dx, fs, rfl, q⟩, sp_useM M (.cons r .nil) z.2 fun v d' μ' as' F' H' g M' r' q' => ?_⟩
  obtain ⟨n, rfl, hn, q'⟩ := q'
  cases r'
  exact ⟨n, rfl, hn, k _ _ μ' as' F' H' g M' (.int _) q'⟩
theorem sim_cmpO : SimR K (rCmpQ K C (toSp K S)) (dCmpO K C S) := fun Z as F H μ x y d e Q Q' M rx ry z k => by
  obtain ⟨hc, ⟨t, ht, ok, nf⟩, hs⟩ := z
  exact ⟨isC_at M rx hc, ⟨_, ty_of M ry ht ok, nf⟩, sp_useM M (.cons rx (.cons ry .nil)) hs k⟩
theorem sim_neO : SimR K (rNeQ K C (toSp K S)) (dNeO K C S) := fun Z as F H μ x y d e Q Q' M rx ry z k => by
  obtain ⟨hc, ⟨t, ht, ok, nf⟩, hs⟩ := z
  refine ⟨isC_at M rx hc, ⟨_, ty_of M ry ht ok, nf⟩, sp_useM M (.cons rx (.cons ry .nil)) hs fun v d' μ' as' F' H' g M' r' q' => ?_⟩
  obtain ⟨b, rfl, q'⟩ := q'
  cases r'
  exact ⟨b, rfl, k _ _ μ' as' F' H' g M' (.bl _) q'⟩
theorem sim_inO (neg : Bool) : SimR K (rInQ C (toSp K S) neg) (dInO C S neg) := fun Z as F H μ x y d e Q Q' M rx ry z k => by
  obtain ⟨hc, hs⟩ := z
  refine ⟨isC_at M ry hc, sp_useM M (.cons ry (.cons rx .nil)) hs fun v d' μ' as' F' H' g M' r' q' => ?_⟩
  obtain ⟨b, rfl, q'⟩ := q'
  cases r'
  exact ⟨b, rfl, k _ _ μ' as' F' H' g M' (.bl _) q'⟩
theorem sim_smeth {to : TE} {uo : DTE} {t : TA} {u : DTA} (o : Sim K Ex to uo) (a : SimA K Ex t u) : Sim K Ex (tSMethQ C (toSp K S) Ex to t) (uSMeth C S uo u) := fun Z as F H σ ρ μ Q E Q' R X h k =>
  o Z as F H σ ρ μ _ E _ R X h fun v d μ1 as1 F1 H1 g1 R1 r1 h1 => by
    refine ⟨?_, a Z as1 F1 H1 σ ρ μ1 _ E _ R1 (X.up g1) h1.2 fun vs ds μ2 as2 F2 H2 g2 R2 r2 h2 => sp_use R2 (X.up (g1.trans g2)) r2 h2 fun v d μ' as' F' H' g M r q => k v d μ' as' F' H' ((g1.trans g2).trans g) (R2.up g M) r q⟩
    cases r1 <;> first | exact h1.1 | exact h1.1.elim
end
section
variable {X : Cx} {K : PySem.W.Frag} {Ex : L2.St → XK} {pos apos : Pos} {a b e o : Expr} {es : List Expr} {ta tb te to : TE} {ua ub ue uo : DTE} {t : TA} {u : DTA} {C f q : Addr} {k : Nat} {S : DSp} {m : Str} {mc : Value} {pl : Sem Bool}
theorem d_getO (G : GetI K C f) (F : FnD X.prog X.w K X.mg X.base k f S) (gd : Gd.Calm0 X.A) (hr : Room (k + 1) X.A) (tk : Tk X Ex) (ha : PD X K Ex a ta ua) (hb : PD X K Ex b tb ub) (hK : X.K = K := by rfl)
    (hs : ∀ o i : Value, subscripted b true o i = runValue (.builtin "lifetime.subscript" ⟨[o, i], []⟩) := by intro _ _; rfl) : PD X K Ex (.Subscript a b pos) (tGetQ C (toSp K S) Ex ta tb) (uGet C S ua ub) := by
  subst hK
  exact ⟨pe_getQ ha.pe hb.pe G F gd hr (fun σ => tk_pass tk σ) hs, sim_get ha.sim hb.sim⟩
theorem g_setO (G : SetI K C f) (F : FnD X.prog X.w K X.mg X.base k f S) (gd : Gd.Calm0 X.A) (hr : Room k X.A) (tk : Tk X Ex) (ha : PD X K Ex a ta ua) (hb : PD X K Ex b tb ub) (hK : X.K = K := by rfl)
    (has : ∀ v, assign (.Subscript a b pos) X.env v = (do
      let ov ← holding [v] (eval a X.env)
      let iv ← holding [v, ov] (eval b X.env)
      standAt pos
      holding [v, ov, iv] (setItem ov iv v)
      release [v, ov, iv] []) := by intro _; rfl) : GD X K Ex (.Subscript a b pos) (gSetQ C (toSp K S) Ex ta tb) (uGSetO C S ua ub) := by
  subst hK
  exact ⟨pg_setQ ha.pe hb.pe G F gd hr (fun σ => tk_pass tk σ) has, sim_gSetO ha.sim hb.sim⟩
theorem call_lenO (G : LenI K C f) (F : FnD X.prog X.w K X.mg X.base k f S) (gd : Gd.Calm0 X.A) (hr : Room (k + 1) X.A) (hK : X.K = K) : CallR X (.builtin "len") (rLenQ C (toSp K S)) := by
  subst hK
  exact call_lenQ G F gd hr
theorem op_eqO (G : CmpI K C f "__eq__") (F : FnD X.prog X.w K X.mg X.base k f S) (gd : Gd.Calm0 X.A) (hr : Room k X.A) (hK : X.K = K) : OpR X (compareOp .Eq) (rCmpQ K C (toSp K S)) := by
  subst hK
  exact op_cmpQ (op := .Eq) (fun _ _ => rfl) G F gd hr
theorem op_ltO (G : CmpI K C f "__lt__") (F : FnD X.prog X.w K X.mg X.base k f S) (gd : Gd.Calm0 X.A) (hr : Room k X.A) (hK : X.K = K) : OpR X (compareOp .Lt) (rCmpQ K C (toSp K S)) := by
  subst hK
  exact op_cmpQ (op := .Lt) (fun _ _ => rfl) G F gd hr
theorem op_leO (G : CmpI K C f "__le__") (F : FnD X.prog X.w K X.mg X.base k f S) (gd : Gd.Calm0 X.A) (hr : Room k X.A) (hK : X.K = K) : OpR X (compareOp .LtE) (rCmpQ K C (toSp K S)) := by
  subst hK
  exact op_cmpQ (op := .LtE) (fun _ _ => rfl) G F gd hr
theorem op_neO (G : NeI K C f) (F : FnD X.prog X.w K X.mg X.base k f S) (gd : Gd.Calm0 X.A) (hr : Room (k + 1) X.A) (hK : X.K = K) : OpR X (compareOp .NotEq) (rNeQ K C (toSp K S)) := by
  subst hK
  exact op_neQ G F gd hr
theorem op_inO (G : CmpI K C f "__contains__") (F : FnD X.prog X.w K X.mg X.base k f S) (gd : Gd.Calm0 X.A) (hr : Room k X.A) (hK : X.K = K) : OpR X (compareOp .In) (rInQ C (toSp K S) false) := by
  subst hK
  exact op_inQ G F gd hr
theorem d_smeth (cr : ClX.CRead K C mc) (c : Vx.SMet K C mc m q f) (F : FnD X.prog X.w K X.mg X.base k f S) (gd : Gd.Calm0 X.A) (hr : Room k X.A) (tk : Tk X Ex) (ho : PD X K Ex o to uo) (ha : AD X K Ex (e :: es) t u) (hK : X.K = K := by rfl)
    (h1 : starEach (e :: es) X.env = (false, eval e X.env) :: starEach es X.env := by rfl) (h2 : (backTo pos (starEach es X.env)).any (·.1) = false := by rfl)
    (hW : eval (.Call (.Attribute o m apos) (e :: es) [] pos) X.env = (do
      let ov ← eval o X.env
      standAt apos.atName
      let (f, first) ← holding [ov] (getMethod ov m pl)
      callWith pos f first (backTo pos (starEach (e :: es) X.env)) (backToKw pos (keywordEach [] X.env))) := by rfl) : PD X K Ex (.Call (.Attribute o m apos) (e :: es) [] pos) (tSMethQ C (toSp K S) Ex to t) (uSMeth C S uo u) := by
  subst hK
  exact ⟨pe_smethQ ho.pe cr c F gd hr tk ha.pe h1 h2 hW, sim_smeth ho.sim ha.sim⟩
theorem d_smeth0 (cr : ClX.CRead K C mc) (c : Vx.SMet K C mc m q f) (F : FnD X.prog X.w K X.mg X.base k f S) (gd : Gd.Calm0 X.A) (hr : Room k X.A) (tk : Tk X Ex) (ho : PD X K Ex o to uo) (hK : X.K = K := by rfl)
    (hW : eval (.Call (.Attribute o m apos) [] [] pos) X.env = (do
      let ov ← eval o X.env
      standAt apos.atName
      let (f, first) ← holding [ov] (getMethod ov m pl)
      callWith pos f first (backTo pos (starEach [] X.env)) (backToKw pos (keywordEach [] X.env))) := by rfl) : PD X K Ex (.Call (.Attribute o m apos) [] [] pos) (tSMethQ C (toSp K S) Ex to tNil) (uSMeth C S uo uNil) := by
  subst hK
  exact ⟨pe_smethQ0 ho.pe cr c F gd hr tk hW, sim_smeth ho.sim sim_nil⟩
end
end DX
set_option Elab.async false
set_option linter.all false
set_option maxRecDepth 100000
set_option maxHeartbeats 4000000
namespace Vx
open PySem
open AutoSeq1 (wpAny_loadPart')
theorem meets_enumerate_newT (t : Addr) (items : Array Value) :
    Meets (Builtin.«enumerate.__new__» ⟨[.type "enumerate", .ref t], []⟩) (fun _ R s => s.heap.IsTuple t items ∧
      R (.ok (.ret (.ref (s.heap.push { cls := .type "tuple_iterator", data := .fields #[.ref t, .int 0 0] }).objs.size)))
        { s with heap := (s.heap.push { cls := .type "tuple_iterator", data := .fields #[.ref t, .int 0 0] }).push { cls := .type "enumerate", data := .fields #[.none, .bool false, .ref s.heap.objs.size, rawInt 0, .none, .none] } }) :=
  .of_wp fun prog w A R s h => by
    obtain ⟨hp, g, d, tk, os⟩ := s; obtain ⟨hL, h⟩ := h
    have hsub := sub_enumerate
    wp_walk
    refine wpAny_stack_any fun st => wpAny_pure ?_
    split
    · rename_i c _ _ _ _ _
      cases (c == Value.type "enumerate")
      · wp_walk using wpAny_pyIter_tuple hL
        exact ⟨_, rfl, h⟩
      · wp_walk using wpAny_pyIter_tuple hL
        exact ⟨_, rfl, h⟩
    · wp_walk using wpAny_pyIter_tuple hL
      exact ⟨_, rfl, h⟩
section
variable {prog : Program} {w : World} {A : Around} {E : Value → Shared → Prop} {s : Shared}
theorem call_enumerate_tuple {t : Addr} {items : Array Value} {Q : Value → Shared → Prop} (hL : s.heap.IsTuple t items)
    (h : ∀ h', IsEnum h' (s.heap.objs.size + 1) s.heap.objs.size 0 .none → h'.IsTupleIter s.heap.objs.size t 0 → h'.objs.size = s.heap.objs.size + 2 →
      (∀ b o, s.heap.get? b = some o → h'.get? b = some o) → Q (.ref (s.heap.objs.size + 1)) { s with heap := h' }) :
    wpAny (model prog w) A (call (.type "enumerate") [.ref t]) Q E s := by
  refine callType_new F.called_enumerate (by decide) (F.typeCall_enumerate_1 _) (F.newCall_enumerate_1 _) (fun obj => F.args_object_init_2 obj _) F.entry_enumerate_new
    (meets_enumerate_newT t items) ⟨hL, ?_⟩
  have hz : (s.heap.push { cls := .type "tuple_iterator", data := .fields #[.ref t, .int 0 0] }).objs.size = s.heap.objs.size + 1 := Heap.size_push ..
  show _ ∧ _
  rw [hz]
  have he : IsEnum ((s.heap.push { cls := .type "tuple_iterator", data := .fields #[.ref t, .int 0 0] }).push
      { cls := .type "enumerate", data := .fields #[.none, .bool false, .ref s.heap.objs.size, rawInt 0, .none, .none] }) (s.heap.objs.size + 1) s.heap.objs.size 0 .none := by
    have := Heap.get?_push_size (s.heap.push { cls := .type "tuple_iterator", data := .fields #[.ref t, .int 0 0] })
      (o := { cls := .type "enumerate", data := .fields #[.none, .bool false, .ref s.heap.objs.size, rawInt 0, .none, .none] }) rfl
    rw [hz] at this; exact this
  refine ⟨⟨_, he, rfl⟩, h _ he ⟨_, Heap.get?_push_of_some _ (Heap.get?_push_size _ rfl), rfl, rfl⟩ (by rw [Heap.size_push, hz]) fun b o x => Heap.get?_push_of_some _ (Heap.get?_push_of_some _ x)⟩
end
end Vx
namespace Vx
open PySem PySem.Spec PyProof.Rows L2
/-- enumerate of a tuple at a, which has the items xs -/
def IteT (K : PySem.W.Frag) (a : Addr) (xs : List V) : It :=
  ⟨fun i H => SqT K H a xs ∧ i < xs.length, fun i H v H' => ∃ T x, v = .ref T ∧ H T = none ∧ H' = upd H T (.tup [.int (i : Nat), x]) ∧ xs[i]? = some x, fun i H => SqT K H a xs ∧ xs.length ≤ i⟩
theorem turn_enumT {P : Program} {w : World} {K : PySem.W.Frag} {elts : List Expr} {kk : Nat} {tpos : Pos} {xs : List V} (a e it : Addr) (hai : a ≠ it) (hae : e ≠ a) :
    Turn P w K (.Tuple elts kk tpos) (IteT K a xs) [e, it] e (fun i h => (∃ old, IsEnum h e it ((i : Nat) : Int) old) ∧ h.IsTupleIter it a i ∧ e ≠ it ∧ i ≤ xs.length) where
  mem := by simp
  obj := fun i h st b hb => by
    obtain ⟨⟨old, he⟩, ⟨o, ho, hc, hd⟩, _⟩ := st
    have e' : b = e ∨ b = it := by simpa using hb
    rcases e' with z | z
    · rw [z]; exact ⟨_, he, fun v q => nomatch q⟩
    · rw [z]; exact ⟨o, ho, fun v q => by rw [hd] at q; cases q⟩
  keep := fun i h h' st k => let ⟨⟨old, he⟩, hi, hne, hz⟩ := st; ⟨⟨old, k e (by simp) _ he⟩, hi.at fun o q => k it (by simp) o q, hne, hz⟩
  item := by
    intro X hP hw hK hc i pins s σ H E I hf st hg
    subst hP hw hK
    obtain ⟨⟨old, he⟩, hit, hne, _⟩ := st
    obtain ⟨hq, hi⟩ := hg
    have hx : xs[i]? = some xs[i] := List.getElem?_eq_getElem hi
    obtain ⟨its, rv, p, hz⟩ := I.tuple hq
    obtain ⟨u, hu, ru⟩ := rv.get hx
    have hel : e < s.heap.objs.size := Heap.lt_size he
    have hil : it < s.heap.objs.size := by obtain ⟨_, q, _⟩ := hit; exact Heap.lt_size q
    have hlt : i < its.toArray.size := by
      have := rv.length
      rw [List.size_toArray]
      omega
    refine wpAny_pyNext_enum_itemD (Draws.tuple (A := X.A.in1) (I.ok.hd hc) it a hai its.toArray) he ⟨hit, p⟩ hlt hne (by simp [hne, hae]) fun u' h' tk hPx ho hst' hT hsz hk => ?_
    have eu : u' = u := by
      have h1 : its.toArray[i]? = some u := by simpa using hu
      rw [h1] at hPx
      exact (Option.some.inj hPx).symm
    subst eu
    refine ⟨_, rfl, wpAny_letOwnedTupleGo_enum (s := { s with heap := h', toks := tk + 1 }) ho fun h'' he' sb => ?_⟩
    have hT2 : h''.get? s.heap.objs.size = some { cls := .type "tuple", data := .seq #[.int i tk, u'] } := (sb.2 _ (Nat.ne_of_gt hel)).trans hT
    have new : ObjOk X.prog X.w (upd H s.heap.objs.size (.tup [.int (i : Nat), xs[i]])) h'' s.heap.objs.size (.tup [.int (i : Nat), xs[i]]) :=
      ⟨by show 2 ≤ sizeLine; decide, [.int i tk, u'], .cons ⟨_, rfl⟩ (.cons ru .nil), ⟨_, hT2, rfl, _, rfl⟩⟩
    have I1 : Inv X pins σ (upd H s.heap.objs.size (.tup [.int (i : Nat), xs[i]])) { s with heap := h'', toks := tk + 1 } :=
      I.turnedNew (ch := [e, it]) (fun b ob hb q => (sb.2 b (fun z => hb (by simp [z]))).trans (hk b ob (fun z => hb (by simp [z])) (fun z => hb (by simp [z])) q)) hf (Nat.le_refl _) new
    refine ⟨.ref s.heap.objs.size, _, I1, rfl, ⟨_, _, rfl, I.hok.fresh (Nat.le_refl _), rfl, hx⟩, ⟨⟨u', ?_⟩, hst'.1.at fun o q => (sb.2 it (Ne.symm hne)).trans q, hne, hi⟩, fun b hb => ?_⟩
    · have e1 : ((i + 1 : Nat) : Int) = (i : Int) + 1 := by omega
      rw [e1]; exact he'
    · have hb' : b < s.heap.objs.size := by
        have e' : b = e ∨ b = it := by simpa using hb
        rcases e' with z | z
        · rw [z]; exact hel
        · rw [z]; exact hil
      rw [upd_ne (Nat.ne_of_lt hb')]
      exact (hf b hb).1
  done := by
    intro X hP hw hK hc i pins s σ H E I hf st hg
    subst hP hw hK
    obtain ⟨⟨old, he⟩, hit, hne, hle⟩ := st
    obtain ⟨hq, hi⟩ := hg
    obtain rfl : i = xs.length := by omega
    obtain ⟨its, rv, p, hz⟩ := I.tuple hq
    obtain ⟨f0, f1, f2, f3, f4, f5⟩ := hf it (by simp)
    have hl := rv.length
    have zz : its.toArray.size = xs.length := by rw [List.size_toArray]; omega
    exact wpAny_pyNext_enum_endD (Draws.tuple (A := X.A.in1) (I.ok.hd hc) it a hai its.toArray) he ⟨by rw [zz]; exact hit, p⟩ fun h' eb => ⟨rfl, I.turned (t' := s.toks) (fun b o hb q => eb b o hb q) f0 f1 f3 f4 f5⟩
  self := fun A i s Q E st h => let ⟨⟨_, he⟩, _⟩ := st; wpAny_pyIter_enum he h
def iEnumT (K : PySem.W.Frag) (ta : TA) : TI := fun σ H R => ta σ H fun vs H1 => ∃ a xs, vs = [.ref a] ∧ SqT K H1 a xs ∧ R (IteT K a xs) H1
theorem pi_enumT {X : Cx} {e : Expr} {ta : TA} {p pos tpos : Pos} {elts : List Expr} {kk : Nat} (hg : Gl X "enumerate") (hm : X.mg "enumerate" = none) (ha : PA X [e] ta) (hs : starEach [e] X.env = [(false, eval e X.env)] := by rfl) :
    PI X (.Tuple elts kk tpos) (.Call (.Name "enumerate" p) [e] [] pos) (iEnumT X.K ta) := by
  refine ⟨fun pins s σ H R I h => ?_⟩
  refine Call_ (ld_blt I hg hm boot_enumerate (PyProof.Rows.callWith_type1 (thn (ha.run pos pins s σ H _ I h) fun us s1 ⟨vs, H1, I1, r1, q1⟩ => ?_) hs rfl))
  obtain ⟨a, xs, ex, hq, q⟩ := q1
  subst ex
  cases r1 with
  | cons r rr =>
    cases rr
    cases r
    obtain ⟨its, rv, p', hz⟩ := I1.tuple hq
    have hal : a < s1.heap.objs.size := by
      obtain ⟨o, q, _⟩ := p'
      exact Heap.lt_size q
    refine call_enumerate_tuple p' fun h' he hit hsz hk => wpAny_pyIter_enum he ?_
    have I2 : Inv X pins σ H1 { s1 with heap := h' } := I1.kept (t' := s1.toks) hk
    refine ⟨s1.heap.objs.size + 1, [s1.heap.objs.size + 1, s1.heap.objs.size], _, _, H1, rfl, I2, turn_enumT (xs := xs) a (s1.heap.objs.size + 1) s1.heap.objs.size (Nat.ne_of_lt hal) (Nat.ne_of_gt (Nat.lt_succ_of_lt hal)), ⟨⟨.none, he⟩, hit, Nat.succ_ne_self _, Nat.zero_le _⟩, fun b hb => ?_, q⟩
    have e' : b = s1.heap.objs.size + 1 ∨ b = s1.heap.objs.size := by simpa using hb
    have hle : s1.heap.objs.size ≤ b := by
      rcases e' with z | z
      · rw [z]; exact Nat.le_add_right _ _
      · rw [z]; exact Nat.le_refl _
    exact I1.fpOk hle (I1.hok.fresh hle)
end Vx
set_option Elab.async false
set_option linter.all false
set_option maxRecDepth 100000
set_option maxHeartbeats 4000000
namespace DX
open PySem PySem.Spec PyProof.Rows L2
/-! ### enumerate, zip, lists as targets, small built-ins -/
def iEnumA (K : PySem.W.Frag) (ta : TA) : TI := fun σ H R => ta σ H fun vs H1 => ∃ a xs, vs = [.ref a] ∧ ((SqL K H1 a xs ∧ R (Ite K a) H1) ∨ (SqT K H1 a xs ∧ R (Vx.IteT K a xs) H1))
theorem pi_enumA {X : Cx} {e : Expr} {ta : TA} {p pos tpos : Pos} {elts : List Expr} {kk : Nat} (hg : Gl X "enumerate") (hm : X.mg "enumerate" = none) (ha : PA X [e] ta) (hs : starEach [e] X.env = [(false, eval e X.env)] := by rfl) :
    PI X (.Tuple elts kk tpos) (.Call (.Name "enumerate" p) [e] [] pos) (iEnumA X.K ta) := by
  refine ⟨fun pins s σ H R I h => ?_⟩
  refine Call_ (ld_blt I hg hm boot_enumerate (PyProof.Rows.callWith_type1 (thn (ha.run pos pins s σ H _ I h) fun us s1 ⟨vs, H1, I1, r1, q1⟩ => ?_) hs rfl))
  obtain ⟨a, xs, ex, ⟨hq, q⟩ | ⟨hq, q⟩⟩ := q1
  · subst ex
    cases r1 with
    | cons r rr =>
      cases rr
      cases r
      obtain ⟨its, rv, p', hz⟩ := I1.list hq
      refine call_enumerate_list p'.isList fun h' he hit hsz hk => wpAny_pyIter_enum he ?_
      have I2 : L2.Inv X pins σ H1 { s1 with heap := h' } := I1.kept (t' := s1.toks) hk
      refine ⟨s1.heap.objs.size + 1, [s1.heap.objs.size + 1, s1.heap.objs.size], _, _, H1, rfl, I2, turn_enum a (s1.heap.objs.size + 1) s1.heap.objs.size, ⟨⟨.none, he⟩, hit, Nat.succ_ne_self _⟩, fun b hb => ?_, q⟩
      have e' : b = s1.heap.objs.size + 1 ∨ b = s1.heap.objs.size := by simpa using hb
      have hle : s1.heap.objs.size ≤ b := by
        rcases e' with z | z
        · rw [z]; exact Nat.le_add_right _ _
        · rw [z]; exact Nat.le_refl _
      exact I1.fpOk hle (I1.hok.fresh hle)
  · subst ex
    cases r1 with
    | cons r rr =>
      cases rr
      cases r
      obtain ⟨its, rv, p', hz⟩ := I1.tuple hq
      have hal : a < s1.heap.objs.size := by
        obtain ⟨o, q, _⟩ := p'
        exact Heap.lt_size q
      refine Vx.call_enumerate_tuple p' fun h' he hit hsz hk => wpAny_pyIter_enum he ?_
      have I2 : L2.Inv X pins σ H1 { s1 with heap := h' } := I1.kept (t' := s1.toks) hk
      refine ⟨s1.heap.objs.size + 1, [s1.heap.objs.size + 1, s1.heap.objs.size], _, _, H1, rfl, I2, Vx.turn_enumT (xs := xs) a (s1.heap.objs.size + 1) s1.heap.objs.size (Nat.ne_of_lt hal) (Nat.ne_of_gt (Nat.lt_succ_of_lt hal)), ⟨⟨.none, he⟩, hit, Nat.succ_ne_self _, Nat.zero_le _⟩, fun b hb => ?_, q⟩
      have e' : b = s1.heap.objs.size + 1 ∨ b = s1.heap.objs.size := by simpa using hb
      have hle : s1.heap.objs.size ≤ b := by
        rcases e' with z | z
        · rw [z]; exact Nat.le_add_right _ _
        · rw [z]; exact Nat.le_refl _
      exact I1.fpOk hle (I1.hok.fresh hle)
/-- pairs of a number and an item -/
def denum : Nat → List D → List D
  | _, [] => []
  | n, d :: ds => .tup [.int n, d] :: denum (n + 1) ds
theorem denum_len : ∀ (n : Nat) (ds : List D), (denum n ds).length = ds.length
  | _, [] => rfl
  | n, _ :: ds => congrArg Nat.succ (denum_len (n + 1) ds)
theorem denum_get : ∀ {n : Nat} {ds : List D} {i : Nat} {e : D}, (denum n ds)[i]? = some e → ∃ d, ds[i]? = some d ∧ e = .tup [.int ((n + i : Nat) : Int), d]
  | _, [], _, _, h => by simp [denum] at h
  | n, d :: ds, 0, e, h => by
    simp [denum] at h
    exact ⟨d, rfl, h.symm⟩
  | n, d :: ds, i + 1, e, h => by
    obtain ⟨d', h1, h2⟩ := denum_get (n := n + 1) (ds := ds) (i := i) (e := e) (by simpa [denum] using h)
    refine ⟨d', by simpa using h1, ?_⟩
    rw [h2]
    congr 3
    omega
def dzip : List D → List D → List D
  | x :: xs, y :: ys => .tup [x, y] :: dzip xs ys
  | _, _ => []
theorem dzip_len : ∀ (xs ys : List D), (dzip xs ys).length = min xs.length ys.length
  | [], _ => by simp [dzip]
  | _ :: _, [] => by simp [dzip]
  | x :: xs, y :: ys => by simp [dzip, dzip_len xs ys]
theorem dzip_get : ∀ {xs ys : List D} {i : Nat} {e : D}, (dzip xs ys)[i]? = some e → ∃ x y, xs[i]? = some x ∧ ys[i]? = some y ∧ e = .tup [x, y]
  | [], _, _, _, h => by simp [dzip] at h
  | _ :: _, [], _, _, h => by simp [dzip] at h
  | x :: xs, y :: ys, 0, e, h => by
    simp [dzip] at h
    exact ⟨x, y, rfl, rfl, h.symm⟩
  | x :: xs, y :: ys, i + 1, e, h => by
    obtain ⟨x', y', h1, h2, h3⟩ := dzip_get (xs := xs) (ys := ys) (i := i) (e := e) (by simpa [dzip] using h)
    exact ⟨x', y', by simpa using h1, by simpa using h2, h3⟩
section
variable {K : PySem.W.Frag} {Z : Hp} {as as' as1 : List Addr} {F F' F1 H H' H1 : Hp} {Ex : L2.St → XK}
theorem pair_new {μ : Mem} (M : Mm K Z as F H μ) {T : Addr} {x y : V} {d e : D} (nT : H T = none) (rx : Rep K as F x d) (ry : Rep K as F y e) : ∃ F2, Gr as F as F2 ∧ Mm K Z as F2 (upd H T (.tup [x, y])) μ ∧ Rep K as F2 (.ref T) (.tup [d, e]) :=
  have g := Gr.upd (as := as) (o := .tup [x, y]) (M.newF nT)
  ⟨_, g, M.addF nT, .tup upd_same (.cons (rx.up g) (.cons (ry.up g) .nil))⟩
theorem itD_enumL {v : V} {d : D} {a : Addr} (ev : v = .ref a) (r : Rep K as F v d) {ds : List D} : ItD K as F (Ite K a) (denum 0 ds) (fun μ => view μ d = .lst ds) := by
  subst ev
  have at_ : ∀ Z as' F' H' μ, Gr as F as' F' → Mm K Z as' F' H' μ → view μ d = .lst ds → ∃ vs, SqL K H' a vs ∧ RepL K as' F' vs ds := fun Z as' F' H' μ g M c => by
    obtain ⟨b, vs, e, q, x⟩ := view_lst M (r.up g) c
    cases e
    exact ⟨vs, q, x⟩
  refine ⟨fun Z i as' F' H' μ g M c hi => ?_, fun Z i as' F' H' μ v H2 d' g M c hd y => ?_, fun Z i as' F' H' μ g M c hi => ?_⟩
  · rw [denum_len] at hi
    obtain ⟨vs, q, x⟩ := at_ Z as' F' H' μ g M c
    obtain ⟨w, w1, _⟩ := x.get (List.getElem?_eq_getElem hi)
    exact ⟨vs, w, q, w1⟩
  · obtain ⟨vs, q, x⟩ := at_ Z as' F' H' μ g M c
    obtain ⟨d0, h1, h2⟩ := denum_get hd
    obtain ⟨w, w1, w2⟩ := x.get h1
    obtain ⟨T, x', rfl, nT, rfl, y⟩ := y
    have := y vs q
    rw [w1] at this
    cases this
    subst h2
    rw [Nat.zero_add]
    exact pair_new M nT (.int _) w2
  · rw [denum_len] at hi
    obtain ⟨vs, q, x⟩ := at_ Z as' F' H' μ g M c
    exact ⟨vs, q, by rw [x.len]; exact hi⟩
theorem itD_enumT {a : Addr} {vs : List V} {ds : List D} (hq : SqT K F a vs) (x : RepL K as F vs ds) : ItD K as F (Vx.IteT K a vs) (denum 0 ds) (fun _ => True) := by
  refine ⟨fun Z i as' F' H' μ g M c hi => ?_, fun Z i as' F' H' μ v H2 d' g M c hd y => ?_, fun Z i as' F' H' μ g M c hi => ?_⟩
  · rw [denum_len] at hi
    exact ⟨SqT.ext (SqT.ext hq g.f) M.same, by rw [x.len]; exact hi⟩
  · obtain ⟨d0, h1, h2⟩ := denum_get hd
    obtain ⟨w, w1, w2⟩ := x.get h1
    obtain ⟨T, x', rfl, nT, rfl, y⟩ := y
    rw [w1] at y
    cases y
    subst h2
    rw [Nat.zero_add]
    exact pair_new M nT (.int _) (w2.up g)
  · rw [denum_len] at hi
    exact ⟨SqT.ext (SqT.ext hq g.f) M.same, by rw [x.len]; exact hi⟩
def uIEnum (u : DTA) : DTI := fun ρ μ R E => u ρ μ (fun ds μ1 => match ds with
  | [x] => match view μ1 x with
    | .lst xs => R (denum 0 xs) (fun μ => view μ x = .lst xs) μ1
    | .tup xs => R (denum 0 xs) (fun _ => True) μ1
    | _ => False
  | _ => False) E
/-- the frozen tuple at hand -/
theorem view_tupF {μ : Mem} (M : Mm K Z as F H μ) {v : V} {d : D} (r : Rep K as F v d) {ds : List D} (e : view μ d = .tup ds) : ∃ a vs, v = .ref a ∧ SqT K F a vs ∧ RepL K as F vs ds := by
  cases r with
  | tup q x => cases e; exact ⟨_, _, rfl, SqT.of q, x⟩
  | kt q x => cases e; exact ⟨_, _, rfl, q, x⟩
  | ob q =>
    rename_i k a
    have e : (match μ[k]? with | some (DX.M.lst ds) => D.lst ds | some (.ins C fs) => .ins C fs | _ => .ob k) = .tup ds := e
    split at e <;> cases e
  | _ => cases e
theorem sim_iEnum {t : TA} {u : DTA} (a : SimA K Ex t u) : SimI K Ex (iEnumA K t) (uIEnum u) := fun Z as F H σ ρ μ R E R' r X h k =>
  a Z as F H σ ρ μ _ E _ r X h fun vs ds μ1 as1 F1 H1 g1 R1 r1 h1 => by
    match vs, ds, r1, h1 with
    | _, [x], .cons ra .nil, h1 =>
        have h1 : (match view μ1 x with | .lst xs => R (denum 0 xs) (fun μ => view μ x = .lst xs) μ1 | .tup xs => R (denum 0 xs) (fun _ => True) μ1 | _ => False) := h1
        cases e : view μ1 x with
        | lst xs =>
          rw [e] at h1
          obtain ⟨b, ws, rfl, q, y⟩ := view_lst R1.mm ra e
          exact ⟨b, ws, rfl, .inl ⟨q, k _ _ _ μ1 as1 F1 H1 g1 R1 (itD_enumL rfl ra) h1⟩⟩
        | tup xs =>
          rw [e] at h1
          obtain ⟨b, ws, rfl, q, y⟩ := view_tupF R1.mm ra e
          exact ⟨b, ws, rfl, .inr ⟨SqT.ext q R1.mm.same, k _ _ _ μ1 as1 F1 H1 g1 R1 (itD_enumT q y) h1⟩⟩
        | _ => rw [e] at h1; exact h1.elim
    | _, [], _, h1 => exact h1.elim
    | _, _ :: _ :: _, _, h1 => exact h1.elim
theorem itD_zipL {v w : V} {d e : D} {a b : Addr} (ev : v = .ref a) (ew : w = .ref b) (r : Rep K as F v d) (s : Rep K as F w e) {ds es : List D} : ItD K as F (Itz K a b) (dzip ds es) (fun μ => view μ d = .lst ds ∧ view μ e = .lst es) := by
  subst ev ew
  have at_ : ∀ {a : Addr} {d : D} {ds : List D}, Rep K as F (.ref a) d → ∀ Z as' F' H' μ, Gr as F as' F' → Mm K Z as' F' H' μ → view μ d = .lst ds → ∃ vs, SqL K H' a vs ∧ RepL K as' F' vs ds := fun r Z as' F' H' μ g M c => by
    obtain ⟨b, vs, e, q, x⟩ := view_lst M (r.up g) c
    cases e
    exact ⟨vs, q, x⟩
  refine ⟨fun Z i as' F' H' μ g M c hi => ?_, fun Z i as' F' H' μ v H2 d' g M c hd y => ?_, fun Z i as' F' H' μ g M c hi => ?_⟩
  · rw [dzip_len] at hi
    obtain ⟨vs, q, x⟩ := at_ r Z as' F' H' μ g M c.1
    obtain ⟨ws, q2, x2⟩ := at_ s Z as' F' H' μ g M c.2
    obtain ⟨w, w1, _⟩ := x.get (i := i) (List.getElem?_eq_getElem (by omega))
    obtain ⟨w', w2, _⟩ := x2.get (i := i) (List.getElem?_eq_getElem (by omega))
    exact ⟨vs, ws, w, w', q, q2, w1, w2⟩
  · obtain ⟨vs, q, x⟩ := at_ r Z as' F' H' μ g M c.1
    obtain ⟨ws, q2, x2⟩ := at_ s Z as' F' H' μ g M c.2
    obtain ⟨d0, e0, h1, h2, h3⟩ := dzip_get hd
    obtain ⟨w, w1, w2⟩ := x.get h1
    obtain ⟨w', w1', w2'⟩ := x2.get h2
    obtain ⟨T, x', y', rfl, nT, rfl, y1, y2⟩ := y
    have t1 := y1 vs q
    rw [w1] at t1
    cases t1
    have t2 := y2 ws q2
    rw [w1'] at t2
    cases t2
    subst h3
    exact pair_new M nT w2 w2'
  · rw [dzip_len] at hi
    obtain ⟨vs, q, x⟩ := at_ r Z as' F' H' μ g M c.1
    obtain ⟨ws, q2, x2⟩ := at_ s Z as' F' H' μ g M c.2
    refine ⟨vs, ws, q, q2, ?_⟩
    rw [x.len, x2.len]
    omega
theorem itD_zipT {a b : Addr} {vs ws : List V} {ds es : List D} (hq : SqT K F a vs) (x : RepL K as F vs ds) (hq2 : SqT K F b ws) (x2 : RepL K as F ws es) : ItD K as F (RZ.ItzT K a b) (dzip ds es) (fun _ => True) := by
  have up : ∀ {a : Addr} {vs : List V}, SqT K F a vs → ∀ Z as' F' H' μ, Gr as F as' F' → Mm K Z as' F' H' μ → SqT K H' a vs := fun h Z as' F' H' μ g M => SqT.ext (SqT.ext h g.f) M.same
  refine ⟨fun Z i as' F' H' μ g M c hi => ?_, fun Z i as' F' H' μ v H2 d' g M c hd y => ?_, fun Z i as' F' H' μ g M c hi => ?_⟩
  · rw [dzip_len] at hi
    obtain ⟨w, w1, _⟩ := x.get (i := i) (List.getElem?_eq_getElem (by omega))
    obtain ⟨w', w2, _⟩ := x2.get (i := i) (List.getElem?_eq_getElem (by omega))
    exact ⟨vs, ws, w, w', up hq Z as' F' H' μ g M, up hq2 Z as' F' H' μ g M, w1, w2⟩
  · obtain ⟨d0, e0, h1, h2, h3⟩ := dzip_get hd
    obtain ⟨w, w1, w2⟩ := x.get h1
    obtain ⟨w', w1', w2'⟩ := x2.get h2
    obtain ⟨T, x', y', rfl, nT, rfl, y1, y2⟩ := y
    have t1 := y1 vs (up hq Z as' F' H' μ g M)
    rw [w1] at t1
    cases t1
    have t2 := y2 ws (up hq2 Z as' F' H' μ g M)
    rw [w1'] at t2
    cases t2
    subst h3
    exact pair_new M nT (w2.up g) (w2'.up g)
  · rw [dzip_len] at hi
    refine ⟨vs, ws, up hq Z as' F' H' μ g M, up hq2 Z as' F' H' μ g M, ?_⟩
    rw [x.len, x2.len]
    omega
def uIZip (u : DTA) : DTI := fun ρ μ R E => u ρ μ (fun ds μ1 => match ds with
  | [x, y] => match view μ1 x, view μ1 y with
    | .lst xs, .lst ys => R (dzip xs ys) (fun μ => view μ x = .lst xs ∧ view μ y = .lst ys) μ1
    | .tup xs, .tup ys => R (dzip xs ys) (fun _ => True) μ1
    | _, _ => False
  | _ => False) E
theorem sim_iZip {t : TA} {u : DTA} (a : SimA K Ex t u) : SimI K Ex (RZ.iZipA K t) (uIZip u) := fun Z as F H σ ρ μ R E R' r X h k =>
  a Z as F H σ ρ μ _ E _ r X h fun vs ds μ1 as1 F1 H1 g1 R1 r1 h1 => by
    match vs, ds, r1, h1 with
    | _, [x, y], .cons ra (.cons rb .nil), h1 =>
          have h1 : (match view μ1 x, view μ1 y with | .lst xs, .lst ys => R (dzip xs ys) (fun μ => view μ x = .lst xs ∧ view μ y = .lst ys) μ1 | .tup xs, .tup ys => R (dzip xs ys) (fun _ => True) μ1 | _, _ => False) := h1
          split at h1
          · rename_i xs ys e e2
            obtain ⟨b, ws, rfl, q, z⟩ := view_lst R1.mm ra e
            obtain ⟨c, us, rfl, q2, z2⟩ := view_lst R1.mm rb e2
            exact ⟨b, c, ws, us, rfl, .inl ⟨q, q2, k _ _ _ μ1 as1 F1 H1 g1 R1 (itD_zipL rfl rfl ra rb) h1⟩⟩
          · rename_i xs ys e e2
            obtain ⟨b, ws, rfl, q, z⟩ := view_tupF R1.mm ra e
            obtain ⟨c, us, rfl, q2, z2⟩ := view_tupF R1.mm rb e2
            exact ⟨b, c, ws, us, rfl, .inr ⟨SqT.ext q R1.mm.same, SqT.ext q2 R1.mm.same, k _ _ _ μ1 as1 F1 H1 g1 R1 (itD_zipT q z q2 z2) h1⟩⟩
          · exact h1.elim
    | _, [], _, h1 => exact h1.elim
    | _, [_], _, h1 => exact h1.elim
    | _, _ :: _ :: _ :: _, _, h1 => exact h1.elim
/-! a list or a tuple as what is taken apart -/
def uGUn (n : Nat) (w : DTGs) : DTG := fun d ρ μ Q E => match view μ d with
  | .tup ds => ds.length = n ∧ w ds ρ μ Q E
  | .lst ds => ds.length = n ∧ w ds ρ μ Q E
  | _ => False
def gUn (K : PySem.W.Frag) (n : Nat) (s : TGs) : TG := fun v σ H Q => gTup K n s v σ H Q ∨ gUnl K n s v σ H Q
theorem sim_gUn {n : Nat} {s : TGs} {w : DTGs} (b : SimGs K Ex s w) : SimG K Ex (gUn K n s) (uGUn n w) := fun Z as F H σ ρ μ v d Q E Q' R X r h k => by
  have h : (match view μ d with | .tup ds => ds.length = n ∧ w ds ρ μ Q E | .lst ds => ds.length = n ∧ w ds ρ μ Q E | _ => False) := h
  cases e : view μ d with
  | tup ds =>
    rw [e] at h
    obtain ⟨p, vs, rfl, q, x⟩ := view_tup R.mm r e
    exact .inl ⟨p, vs, rfl, q, by rw [x.len]; exact h.1, b Z as F H σ ρ μ vs ds Q E Q' R X x h.2 k⟩
  | lst ds =>
    rw [e] at h
    obtain ⟨p, vs, rfl, q, x⟩ := view_lst R.mm r e
    exact .inr ⟨p, vs, rfl, q, by rw [x.len]; exact h.1, b Z as F H σ ρ μ vs ds Q E Q' R X x h.2 k⟩
  | _ => rw [e] at h; exact h.elim
theorem pg_un {X : Cx} {pos : Pos} {es : List Expr} {k : Nat} {t : TGs} {n : Nat} (hc : X.calm = true) (h : PGs X es t)
    (hn : (assignEach es X.env).length = n := by rfl) (hst : (assignEach es X.env).findIdx? (·.1) = none := by rfl) : PG X (.Tuple es k pos) (gUn X.K n t) :=
  ⟨fun pins s σ H v u Q I r hw => hw.elim (fun z => (pg_tup hc h hn hst).run pins s σ H v u Q I r z) fun z => (pg_unl hc h hn hst).run pins s σ H v u Q I r z⟩
/-! [x] * n -/
def dRep (m : Bool) : DR2 := fun x y μ Q => match viewT μ x, y with
  | .lst xs, .int k => (-(2 ^ 63) ≤ k ∧ k < 2 ^ 63 ∧ xs.length * k.toNat ≤ sizeLine) ∧ (if m = true then Q (.ob μ.length) (μ ++ [.lst (List.replicate k.toNat xs).flatten]) else Q (.lst (List.replicate k.toNat xs).flatten) μ)
  | _, _ => False
theorem rep_flat {vs : List V} {ds : List D} (x : RepL K as F vs ds) : ∀ n : Nat, RepL K as F (List.replicate n vs).flatten (List.replicate n ds).flatten
  | 0 => .nil
  | n + 1 => by rw [List.replicate_succ, List.replicate_succ, List.flatten_cons, List.flatten_cons]; exact x.append (rep_flat x n)
theorem sim_rep (m : Bool) : SimR K rRep (dRep m) := fun Z as F H μ x y d e Q Q' M rx ry z k => by
  unfold dRep at z
  split at z
  · rename_i xs j e1
    cases ry
    obtain ⟨a, vs, rfl, q, x⟩ := viewT_lst M rx e1
    exact ⟨a, j, vs, rfl, rfl, q, z.1.1, z.1.2.1, by rw [x.len]; exact z.1.2.2, new_lst M (rep_flat x j.toNat) z.2 k⟩
  · exact z.elim
/-! max, min of two -/
def dTwo (f : Int → Int → Int) : DC := fun ds μ Q => match ds with
  | [.int i, .int j] => Q (.int (f i j)) μ
  | _ => False
theorem sim_two {f : Int → Int → Int} : SimC K (fun xs H Q => ∃ i j, xs = [.int i, .int j] ∧ Q (.int (f i j)) H) (dTwo f) := fun Z as F H μ vs ds Q Q' M rs z k => by
  have z : (match (generalizing := false) ds with | [.int i, .int j] => Q (.int (f i j)) μ | _ => False) := z
  split at z
  · cases rs with
    | cons ra rb =>
      cases rb with
      | cons rb rc =>
        cases rc
        cases ra
        cases rb
        exact ⟨_, _, rfl, k _ _ μ as F H Gr.refl M (.int _) z⟩
  · exact z.elim
theorem sim_ipI {f : Int → Int → Int} : SimR K (ipI f) (dI fun i j => .int (f i j)) := simR_int (rI_int f)
/-! a, b = x, y -/
def uPar (i j : Nat) (u : DTA) : DTS := fun De E ρ μ => u ρ μ (fun ds μ1 => match ds with
  | [x, y] => De.nx ((ρ.set i (some x)).set j (some y)) μ1
  | _ => False) E
theorem sim_par {i j : Nat} {t : TA} {u : DTA} (a : SimA K Ex t u) : SimS K Ex (tPar i j t) (uPar i j u) := fun Z as F H σ ρ μ De E D' R X h kn kr kb kc =>
  a Z as F H σ ρ μ _ E _ R X h fun vs ds μ1 as1 F1 H1 g1 R1 r1 h1 => by
    have h1 : (match (generalizing := false) ds with | [x, y] => De.nx ((ρ.set i (some x)).set j (some y)) μ1 | _ => False) := h1
    split at h1
    · cases r1 with
      | cons ra rb =>
        cases rb with
        | cons rb rc =>
          cases rc
          exact ⟨_, _, rfl, kn _ _ μ1 as1 F1 H1 g1 ⟨R1.mm, (R1.env.set ra i).set rb j⟩ h1⟩
    · exact h1.elim
end
section
variable {X : Cx} {K : PySem.W.Frag} {Ex : L2.St → XK} {pos : Pos} {a b c e o : Expr} {es : List Expr} {gs : TGs} {ugs : DTGs}
theorem i_enum {ta : TA} {ua : DTA} {p tpos : Pos} {elts : List Expr} {kk : Nat} (hm : X.mg "enumerate" = none) (h : AD X K Ex [a] ta ua) (hK : X.K = K := by rfl) (hg : Gl X "enumerate" := by rfl) (hs : starEach [a] X.env = [(false, eval a X.env)] := by rfl) : ID X K Ex (.Tuple elts kk tpos) (.Call (.Name "enumerate" p) [a] [] pos) (iEnumA K ta) (uIEnum ua) := by
  subst hK
  exact ⟨pi_enumA hg hm h.pe hs, sim_iEnum h.sim⟩
theorem i_zip {ta : TA} {ua : DTA} {p tpos : Pos} {elts : List Expr} {kk : Nat} (hm : X.mg "zip" = none) (h : AD X K Ex [a, b] ta ua) (hK : X.K = K := by rfl) (hg : Gl X "zip" := by rfl) (hs : starEach [a, b] X.env = (false, eval a X.env) :: starEach [b] X.env := by rfl) (hpl : (backTo pos (starEach [b] X.env)).any (·.1) = false := by rfl) : ID X K Ex (.Tuple elts kk tpos) (.Call (.Name "zip" p) [a, b] [] pos) (RZ.iZipA K ta) (uIZip ua) := by
  subst hK
  exact ⟨RZ.pi_zipA hg hm h.pe hs hpl, sim_iZip h.sim⟩
theorem g_un {k : Nat} (n : Nat) (h : GsD X K Ex es gs ugs) (hc : X.calm = true := by rfl) (hK : X.K = K := by rfl) (hn : (assignEach es X.env).length = n := by rfl) (hst : (assignEach es X.env).findIdx? (·.1) = none := by rfl) : GD X K Ex (.Tuple es k pos) (gUn K n gs) (uGUn n ugs) := by
  subst hK
  exact ⟨pg_un hc h.pe hn hst, sim_gUn h.sim⟩
theorem s_par (i j : Nat) {x y : Str} {ta : TA} {ua : DTA} {px py pt : Pos} {kt k2 pt2} (hN : X.N.Nodup) (ha : AD X K Ex [a, b] ta ua) (hij : i ≠ j := by decide) (hc : X.calm = true := by rfl) (hi : X.N[i]? = some x := by rfl) (hj : X.N[j]? = some y := by rfl)
    (hx : X.env.scope.names.lookup x = some .local := by rfl) (hy : X.env.scope.names.lookup y = some .local := by rfl)
    (hw : swappedStores [.Tuple [.Name x px, .Name y py] kt pt] (.Tuple [a, b] k2 pt2) X.env = pure (some [x, y]) := by rfl)
    (hs : swapsWithSole [.Tuple [.Name x px, .Name y py] kt pt] (.Tuple [a, b] k2 pt2) pos.line X.env = pure false := by rfl) :
    SD X K Ex (.Assign [.Tuple [.Name x px, .Name y py] kt pt] (.Tuple [a, b] k2 pt2) pos) (tPar i j ta) (uPar i j ua) := ⟨ps_par hc hN hi hj hij hx hy ha.pe hw hs, sim_par ha.sim⟩
end
end DX
set_option Elab.async false
set_option linter.all false
set_option maxRecDepth 100000
set_option maxHeartbeats 4000000
namespace DX
open PySem PySem.Spec PyProof.Rows L2
/-! ### what a law's world says, piece by piece -/
structure TopF (K : PySem.W.Frag) (mg : Str → Option Value) (x qual : Str) (st : Stmt) (f : Addr) (fd : FuncData) (ps : List Str) : Prop where
  a : mg x = some (.ref f)
  d : DefAt K x qual st f fd
  b : L2.Binds K fd ps []
structure MetF (K : PySem.W.Frag) (C : Addr) (x qual : Str) (st : Stmt) (f : Addr) (fd : FuncData) (ps : List Str) : Prop where
  m : Meth K C x f
  d : DefAt K x qual st f fd
  b : L2.Binds K fd ps []
structure SmtF (K : PySem.W.Frag) (C q : Addr) (x qual : Str) (st : Stmt) (f : Addr) (fd : FuncData) (ps : List Str) : Prop where
  s : Vx.SMet K C (.type "type") x q f
  d : DefAt K x qual st f fd
  b : L2.Binds K fd ps []
structure PrpF (K : PySem.W.Frag) (C q : Addr) (x qual : Str) (st : Stmt) (f : Addr) (fd : FuncData) (ps : List Str) : Prop where
  p : PropOf K C x q f
  d : DefAt K x qual st f fd
  b : L2.Binds K fd ps []
structure ClsF (K : PySem.W.Frag) (mg : Str → Option Value) (n : Str) (C : Addr) : Prop where
  a : mg n = some (.ref C)
  o : OwnT K C
  k : KitO K C
  s : PySem.W.kitOne K (.ref C) (.ref C) = some true
theorem ClsF.cl {K : PySem.W.Frag} {mg : Str → Option Value} {n : Str} {C : Addr} (c : ClsF K mg n C) : Cls K C := c.o.cl
structure GlobC (K : PySem.W.Frag) (mg : Str → Option Value) (n : Str) (v : V) (d : D) where
  u : Value
  m : mg n = some u
  r : RelV v u
  p : ∀ as F, Rep K as F v d
theorem Fun.dat {K : PySem.W.Frag} {x qual : Str} {st : Stmt} {f : Addr} {fd : FuncData} (F : Fun K x qual st f fd) : DefAt K x qual st f fd := by
  obtain ⟨oc, od, kV, doc, pm, an, cdv, ct, osl, e, l, c⟩ := F.ex
  exact ⟨⟨oc, od, .none, kV, doc, pm, an, cdv, ct, osl, e, l, c⟩, F.kp⟩
/-! ### the memory: what stands where -/
theorem at_l {α : Type} {xs ys : List α} {k : Nat} (h : k < xs.length) : (xs ++ ys)[k]? = xs[k]? := List.getElem?_append_left h
theorem at_r {α : Type} {xs ys : List α} (i : Nat) : (xs ++ ys)[xs.length + i]? = ys[i]? := by
  rw [List.getElem?_append_right (by omega)]
  congr 1
  omega
theorem at_r0 {α : Type} {xs ys : List α} : (xs ++ ys)[xs.length]? = ys[0]? := at_r 0
theorem at_rn {α : Type} {xs ys : List α} {n : Nat} (h : xs.length = n) (i : Nat) : (xs ++ ys)[n + i]? = ys[i]? := h ▸ at_r i
theorem at_rn0 {α : Type} {xs ys : List α} {n : Nat} (h : xs.length = n) : (xs ++ ys)[n]? = ys[0]? := at_rn h 0
theorem set_l {α : Type} {xs ys : List α} {k : Nat} {v : α} (h : k < xs.length) : (xs ++ ys).set k v = xs.set k v ++ ys := List.set_append_left _ _ h
theorem set_rn {α : Type} {xs ys : List α} {n : Nat} (h : xs.length = n) (i : Nat) {v : α} : (xs ++ ys).set (n + i) v = xs ++ ys.set i v := by
  rw [List.set_append_right _ _ (by omega)]
  congr 2
  omega
theorem set_rn0 {α : Type} {xs ys : List α} {n : Nat} (h : xs.length = n) {v : α} : (xs ++ ys).set n v = xs ++ ys.set 0 v := set_rn h 0
theorem take_n {α : Type} {xs ys : List α} {n : Nat} (h : xs.length = n) : (xs ++ ys).take n = xs := by rw [← h]; exact List.take_left'  rfl
theorem lt_of_at {α : Type} {xs : List α} {k : Nat} {x : α} (h : xs[k]? = some x) : k < xs.length := (List.getElem?_eq_some_iff.mp h).1
theorem seq_step {a b : DTS} {De : DEnds} {E : XD} {ρ : Rho} {μ : Mem} (h : ∀ nx : Rho → Mem → Prop, (∀ ρ μ, b De E ρ μ → nx ρ μ) → a { De with nx := nx } E ρ μ) : uSeq a b De E ρ μ := h _ fun _ _ z => z
/-! loops over a list of data by an invariant -/
theorem for_inv {ug : DTG} {ub : DTS} {chk : Mem → Prop} {De : DEnds} {E : XD} (I : List D → Rho → Mem → Prop) (hI : ∀ ds ρ μ, I ds ρ μ → chk μ) (hn : ∀ ρ μ, I [] ρ μ → De.nx ρ μ)
    (hs : ∀ d ds ρ μ (go : Rho → Mem → Prop), I (d :: ds) ρ μ → (∀ ρ μ, I ds ρ μ → go ρ μ) → ug d ρ μ (fun ρ1 μ1 => ub { De with nx := go, ct := go, bk := De.nx } E ρ1 μ1) E) : ∀ ds ρ μ, I ds ρ μ → uForGo ug ub chk De E ds ρ μ
  | [], ρ, μ, h => ⟨hI _ _ _ h, hn _ _ h⟩
  | d :: ds, ρ, μ, h => ⟨hI _ _ _ h, hs d ds ρ μ _ h fun ρ1 μ1 h1 => for_inv I hI hn hs ds ρ1 μ1 h1⟩
theorem lc_inv {ug : DTG} {ut : DTT} {ue : DTE} {ρw : Rho} {chk : Mem → Prop} {fin : List D → Mem → Prop} (I : List D → List D → Mem → Prop) (hI : ∀ ds acc μ, I ds acc μ → chk μ) (hn : ∀ acc μ, I [] acc μ → fin acc μ)
    (hs : ∀ d ds acc μ (go : List D → Mem → Prop), I (d :: ds) acc μ → (∀ acc μ, I ds acc μ → go acc μ) → ug d ρw μ (fun ρ1 μ1 => ut ρ1 μ1 (fun b μ2 => if b = true then ue ρ1 μ2 (fun y μ3 => acc.length < 1000000 ∧ go (acc ++ [y]) μ3) XN else go acc μ2) XN) XN) : ∀ ds acc μ, I ds acc μ → uLcGo ug ut ue ρw chk fin ds acc μ
  | [], acc, μ, h => ⟨hI _ _ _ h, hn _ _ h⟩
  | d :: ds, acc, μ, h => ⟨hI _ _ _ h, hs d ds acc μ _ h fun acc1 μ1 h1 => lc_inv I hI hn hs ds acc1 μ1 h1⟩
/-- a loop cut: what is left when it is done -/
theorem for_map {ug : DTG} {ub : DTS} {chk : Mem → Prop} {De : DEnds} {E : XD} {ds : List D} {ρ : Rho} {μ : Mem} (J : Nat → Rho → Mem → Prop) (h0 : J 0 ρ μ) (hI : ∀ n ρ μ, J n ρ μ → chk μ) (hn : ∀ ρ μ, J ds.length ρ μ → De.nx ρ μ)
    (hs : ∀ n d ρ μ (go : Rho → Mem → Prop), ds[n]? = some d → J n ρ μ → (∀ ρ μ, J (n + 1) ρ μ → go ρ μ) → ug d ρ μ (fun ρ1 μ1 => ub { De with nx := go, ct := go, bk := De.nx } E ρ1 μ1) E) : uForGo ug ub chk De E ds ρ μ := by
  refine for_inv (fun es ρ μ => ∃ n, es = ds.drop n ∧ n ≤ ds.length ∧ J n ρ μ) (fun es ρ μ ⟨n, _, _, h⟩ => hI n ρ μ h) (fun ρ μ ⟨n, e, l, h⟩ => ?_) (fun d es ρ μ go ⟨n, e, l, h⟩ k => ?_) ds ρ μ ⟨0, rfl, Nat.zero_le _, h0⟩
  · have : ds.length ≤ n := List.drop_eq_nil_iff.mp e.symm
    have : n = ds.length := by omega
    subst this
    exact hn ρ μ h
  · have hl : n < ds.length := by
      rcases Nat.lt_or_ge n ds.length with z | z
      · exact z
      · rw [List.drop_eq_nil_iff.mpr z] at e; cases e
    rw [List.drop_eq_getElem_cons hl] at e
    injection e with e1 e2
    exact hs n d ρ μ go (by rw [e1]; exact List.getElem?_eq_getElem hl) h fun ρ μ j => k ρ μ ⟨n + 1, e2, hl, j⟩
theorem lc_map {ug : DTG} {ut : DTT} {ue : DTE} {ρw : Rho} {chk : Mem → Prop} {fin : List D → Mem → Prop} {ds : List D} {μ : Mem} (J : Nat → List D → Mem → Prop) (h0 : J 0 [] μ) (hI : ∀ n acc μ, J n acc μ → chk μ) (hn : ∀ acc μ, J ds.length acc μ → fin acc μ)
    (hs : ∀ n d acc μ (go : List D → Mem → Prop), ds[n]? = some d → J n acc μ → (∀ acc μ, J (n + 1) acc μ → go acc μ) → ug d ρw μ (fun ρ1 μ1 => ut ρ1 μ1 (fun b μ2 => if b = true then ue ρ1 μ2 (fun y μ3 => acc.length < 1000000 ∧ go (acc ++ [y]) μ3) XN else go acc μ2) XN) XN) : uLcGo ug ut ue ρw chk fin ds [] μ := by
  refine lc_inv (fun es acc μ => ∃ n, es = ds.drop n ∧ n ≤ ds.length ∧ J n acc μ) (fun es ρ μ ⟨n, _, _, h⟩ => hI n ρ μ h) (fun ρ μ ⟨n, e, l, h⟩ => ?_) (fun d es ρ μ go ⟨n, e, l, h⟩ k => ?_) ds [] μ ⟨0, rfl, Nat.zero_le _, h0⟩
  · have : ds.length ≤ n := List.drop_eq_nil_iff.mp e.symm
    have : n = ds.length := by omega
    subst this
    exact hn ρ μ h
  · have hl : n < ds.length := by
      rcases Nat.lt_or_ge n ds.length with z | z
      · exact z
      · rw [List.drop_eq_nil_iff.mpr z] at e; cases e
    rw [List.drop_eq_getElem_cons hl] at e
    injection e with e1 e2
    exact hs n d ρ μ go (by rw [e1]; exact List.getElem?_eq_getElem hl) h fun ρ μ j => k ρ μ ⟨n + 1, e2, hl, j⟩
end DX
set_option Elab.async false
set_option linter.all false
set_option maxRecDepth 100000
set_option maxHeartbeats 4000000
namespace DX
open PySem PySem.Spec PyProof.Rows L2
theorem v_non {μ : Mem}  : view μ .non = .non := rfl
theorem vT_non {μ : Mem}  : viewT μ .non = .non := rfl
theorem ty_non {μ : Mem}  : tyOf μ .non = some .non := rfl
theorem v_bl {μ : Mem} (b : Bool) : view μ (.bl b) = (.bl b) := rfl
theorem vT_bl {μ : Mem} (b : Bool) : viewT μ (.bl b) = (.bl b) := rfl
theorem ty_bl {μ : Mem} (b : Bool) : tyOf μ (.bl b) = some .bl := rfl
theorem v_int {μ : Mem} (i : Int) : view μ (.int i) = (.int i) := rfl
theorem vT_int {μ : Mem} (i : Int) : viewT μ (.int i) = (.int i) := rfl
theorem ty_int {μ : Mem} (i : Int) : tyOf μ (.int i) = some .int := rfl
theorem v_str {μ : Mem} (x : Str) : view μ (.str x) = (.str x) := rfl
theorem vT_str {μ : Mem} (x : Str) : viewT μ (.str x) = (.str x) := rfl
theorem ty_str {μ : Mem} (x : Str) : tyOf μ (.str x) = some .str := rfl
theorem v_byt {μ : Mem} (b : Array UInt8) : view μ (.byt b) = (.byt b) := rfl
theorem vT_byt {μ : Mem} (b : Array UInt8) : viewT μ (.byt b) = (.byt b) := rfl
theorem ty_byt {μ : Mem} (b : Array UInt8) : tyOf μ (.byt b) = some .byt := rfl
theorem v_lst {μ : Mem} (xs : List D) : view μ (.lst xs) = (.lst xs) := rfl
theorem vT_lst {μ : Mem} (xs : List D) : viewT μ (.lst xs) = (.lst xs) := rfl
theorem ty_lst {μ : Mem} (xs : List D) : tyOf μ (.lst xs) = some .lst := rfl
theorem v_tup {μ : Mem} (xs : List D) : view μ (.tup xs) = (.tup xs) := rfl
theorem vT_tup {μ : Mem} (xs : List D) : viewT μ (.tup xs) = (.tup xs) := rfl
theorem ty_tup {μ : Mem} (xs : List D) : tyOf μ (.tup xs) = some .tup := rfl
theorem v_kt {μ : Mem} (xs : List D) : view μ (.kt xs) = (.tup xs) := rfl
theorem vT_kt {μ : Mem} (xs : List D) : viewT μ (.kt xs) = (.kt xs) := rfl
theorem ty_kt {μ : Mem} (xs : List D) : tyOf μ (.kt xs) = some .tup := rfl
theorem v_kl {μ : Mem} (xs : List D) : view μ (.kl xs) = (.lst xs) := rfl
theorem vT_kl {μ : Mem} (xs : List D) : viewT μ (.kl xs) = (.kl xs) := rfl
theorem ty_kl {μ : Mem} (xs : List D) : tyOf μ (.kl xs) = some .lst := rfl
theorem v_ins {μ : Mem} (C : Addr) (fs : List (Str × D)) : view μ (.ins C fs) = (.ins C fs) := rfl
theorem vT_ins {μ : Mem} (C : Addr) (fs : List (Str × D)) : viewT μ (.ins C fs) = (.ins C fs) := rfl
theorem ty_ins {μ : Mem} (C : Addr) (fs : List (Str × D)) : tyOf μ (.ins C fs) = some (.own C) := rfl
theorem v_val {μ : Mem} (v : V) : view μ (.val v) = (.val v) := rfl
theorem vT_val {μ : Mem} (v : V) : viewT μ (.val v) = (.val v) := rfl
theorem ty_val {μ : Mem} (v : V) : tyOf μ (.val v) = none := rfl
theorem look_hd {n : Str} {d : D} {r : List (Str × D)} : List.lookup n ((n, d) :: r) = some d := by
  rw [List.lookup_cons, beq_self_eq_true]
theorem atI_nat {xs : List D} (n : Nat) : atI xs (n : Int) = xs[n]? := by
  unfold atI ixN
  rw [if_pos (Int.natCast_nonneg n)]
  by_cases h : n < xs.length
  · rw [if_pos (by omega)]; rfl
  · rw [if_neg (by omega), List.getElem?_eq_none (by omega)]; rfl
theorem at0 {xs : List D} : atI xs 0 = xs[0]? := atI_nat 0
theorem at1 {xs : List D} : atI xs 1 = xs[1]? := atI_nat 1
theorem at2 {xs : List D} : atI xs 2 = xs[2]? := atI_nat 2
theorem at3 {xs : List D} : atI xs 3 = xs[3]? := atI_nat 3
theorem eqok_int {a b : Int} : dEqOk (.int a) (.int b) = true := rfl
theorem eqok_str {a b : Str} : dEqOk (.str a) (.str b) = true := rfl
theorem eqok_bl {a b : Bool} : dEqOk (.bl a) (.bl b) = true := rfl
theorem deqv_int {a b : Int} : deqv (.int a) (.int b) = (a == b) := rfl
theorem deqv_str {a b : Str} : deqv (.str a) (.str b) = (a == b) := rfl
theorem deqv_bl {a b : Bool} : deqv (.bl a) (.bl b) = (a == b) := rfl
theorem ty_view {μ : Mem} {x : D} {C : Addr} {fs : List (Str × D)} (h : view μ x = .ins C fs) : tyOf μ x = some (.own C) := by
  cases x with
  | ob k =>
    have h : (match μ[k]? with | some (DX.M.lst ds) => D.lst ds | some (.ins C fs) => .ins C fs | _ => .ob k) = .ins C fs := h
    show (match μ[k]? with | some (DX.M.lst _) => some Ty.lst | some (.ins C _) => some (.own C) | some (.dic _) => some .dic | none => none) = _
    split at h <;> first | (cases h; rename_i e; rw [e]) | cases h
  | ins C' gs => cases h; rfl
  | _ => cases h
theorem v_obL {μ : Mem} {k : Nat} {ds : List D} (h : μ[k]? = some (.lst ds)) : view μ (.ob k) = .lst ds := by
  show (match μ[k]? with | some (DX.M.lst ds) => D.lst ds | some (.ins C fs) => .ins C fs | _ => .ob k) = _
  rw [h]
theorem v_obI {μ : Mem} {k : Nat} {C : Addr} {fs : List (Str × D)} (h : μ[k]? = some (.ins C fs)) : view μ (.ob k) = .ins C fs := by
  show (match μ[k]? with | some (DX.M.lst ds) => D.lst ds | some (.ins C fs) => .ins C fs | _ => .ob k) = _
  rw [h]
theorem vT_obL {μ : Mem} {k : Nat} {ds : List D} (h : μ[k]? = some (.lst ds)) : viewT μ (.ob k) = .lst ds := by
  show (match μ[k]? with | some (DX.M.lst ds) => D.lst ds | some (.ins C fs) => .ins C fs | _ => .ob k) = _
  rw [h]
theorem set_r0 {α : Type} {xs ys : List α} {v : α} : (xs ++ ys).set xs.length v = xs ++ ys.set 0 v := set_rn0 rfl
theorem putD_nil {f : Str} {d : D} : putD f d [] = [(f, d)] := rfl
theorem putD_hd {f : Str} {d e : D} {r : List (Str × D)} : putD f d ((f, e) :: r) = (f, d) :: r := if_pos rfl
theorem ixN_nat {n m : Nat} (h : m < n) : ixN n (m : Int) = some m := by
  unfold ixN
  rw [if_pos (Int.natCast_nonneg m), if_pos (by omega)]
  rfl
theorem view_app {μ l : Mem} {x : D} {ds : List D} (h : view μ x = .lst ds) : view (μ ++ l) x = .lst ds := by
  cases x with
  | ob k =>
    have h' : (match μ[k]? with | some (DX.M.lst ds) => D.lst ds | some (.ins C fs) => .ins C fs | _ => .ob k) = .lst ds := h
    split at h' <;> first | (cases h'; rename_i e; exact v_obL ((at_l (lt_of_at e)).trans e)) | cases h'
  | _ => exact h
theorem view_appI {μ l : Mem} {x : D} {C : Addr} {fs : List (Str × D)} (h : view μ x = .ins C fs) : view (μ ++ l) x = .ins C fs := by
  cases x with
  | ob k =>
    have h' : (match μ[k]? with | some (DX.M.lst ds) => D.lst ds | some (.ins C fs) => .ins C fs | _ => .ob k) = .ins C fs := h
    split at h' <;> first | (cases h'; rename_i e; exact v_obI ((at_l (lt_of_at e)).trans e)) | cases h'
  | _ => exact h
theorem fz_lst {μ : Mem} {n f : Nat} {ds : List D} : fz μ n (f + 1) (.lst ds) = .lst (ds.map (fz μ n f)) := rfl
theorem fz_tup {μ : Mem} {n f : Nat} {ds : List D} : fz μ n (f + 1) (.tup ds) = .tup (ds.map (fz μ n f)) := rfl
theorem fz_int {μ : Mem} {n : Nat} {i : Int} : ∀ f, fz μ n f (.int i) = .int i
  | 0 => rfl
  | _ + 1 => rfl
theorem fz_bl {μ : Mem} {n : Nat} {i : Bool} : ∀ f, fz μ n f (.bl i) = .bl i
  | 0 => rfl
  | _ + 1 => rfl
theorem fz_str {μ : Mem} {n : Nat} {i : Str} : ∀ f, fz μ n f (.str i) = .str i
  | 0 => rfl
  | _ + 1 => rfl
theorem fz_non {μ : Mem} {n : Nat} : ∀ f, fz μ n f .non = .non
  | 0 => rfl
  | _ + 1 => rfl
theorem fz_obL {μ : Mem} {n f k : Nat} {ds : List D} (hk : ¬ k < n) (h : μ[k]? = some (.lst ds)) : fz μ n (f + 1) (.ob k) = .lst (ds.map (fz μ n f)) := by
  show (if k < n then D.ob k else match μ[k]? with | some (DX.M.lst ds) => .lst (ds.map (fz μ n f)) | some (.ins C fs) => .ins C (fs.map fun p => (p.1, fz μ n f p.2)) | _ => .ob k) = _
  rw [if_neg hk, h]
theorem fz_obI {μ : Mem} {n f k : Nat} {C : Addr} {fs : List (Str × D)} (hk : ¬ k < n) (h : μ[k]? = some (.ins C fs)) : fz μ n (f + 1) (.ob k) = .ins C (fs.map fun p => (p.1, fz μ n f p.2)) := by
  show (if k < n then D.ob k else match μ[k]? with | some (DX.M.lst ds) => .lst (ds.map (fz μ n f)) | some (.ins C fs) => .ins C (fs.map fun p => (p.1, fz μ n f p.2)) | _ => .ob k) = _
  rw [if_neg hk, h]
theorem cldL_all {n : Nat} : ∀ {ds : List D}, (∀ d ∈ ds, cld n d = true) → cldL n ds = true
  | [], _ => rfl
  | d :: ds, h => by
    show (cld n d && cldL n ds) = true
    rw [h d List.mem_cons_self, cldL_all fun e he => h e (List.mem_cons_of_mem _ he)]
    rfl
theorem cldL_bl {n : Nat} (bs : List Bool) : cldL n (bs.map .bl) = true := cldL_all fun d hd => by
  obtain ⟨b, _, rfl⟩ := List.mem_map.mp hd
  rfl
theorem isLst_at {μ : Mem} {k : Nat} {ds : List D} (h : μ[k]? = some (.lst ds)) : isLst μ (.ob k) := by
  unfold isLst
  rw [v_obL h]
  trivial
end DX
set_option Elab.async false
set_option linter.all false
set_option maxRecDepth 100000
set_option maxHeartbeats 4000000
namespace DX
open PySem PySem.Spec PyProof.Rows L2
/-! ### dicts whose keys are ints and texts -/
def dKey : D → Option Key
  | .int i => some (.inl i)
  | .str x => some (.inr x)
  | _ => none
def valD (kvs : List (Key × D)) (k : Key) : Option D := (kvs.find? fun kv => decide (kv.1 = k)).map (·.2)
def dputK (kvs : List (Key × D)) (k : Key) (v : D) : List (Key × D) := if (kvs.any fun kv => decide (kv.1 = k)) = true then kvs.map (fun kv => if kv.1 = k then (kv.1, v) else kv) else kvs ++ [(k, v)]
def dicAt (μ : Mem) : D → Option (List (Key × D))
  | .ob k => match μ[k]? with
    | some (.dic kvs) => some kvs
    | _ => none
  | _ => none
section
variable {K : PySem.W.Frag} {Z : Hp} {as as' as1 : List Addr} {F F' F1 H H' H1 : Hp} {Ex : L2.St → XK}
theorem rep_key {v : V} {d : D} {k : Key} (r : Rep K as F v d) (h : dKey d = some k) : v = kV k := by
  cases r <;> first | (cases h; rfl) | cases h
theorem valV_cons (n : Key) (v : V) (vs : List (Key × V)) (k : Key) : valV ((n, v) :: vs) k = if n = k then some v else valV vs k := by
  by_cases e : n = k
  · rw [if_pos e]; exact valV_pos e
  · rw [if_neg e]; exact valV_neg e
theorem valD_cons (n : Key) (v : D) (vs : List (Key × D)) (k : Key) : valD ((n, v) :: vs) k = if n = k then some v else valD vs k := by
  unfold valD
  rw [List.find?_cons]
  by_cases e : n = k
  · rw [if_pos e]; simp [e]
  · rw [if_neg e]; simp [e]
theorem RepK.val : ∀ {vs : List (Key × V)} {ds : List (Key × D)} (k : Key), RepK K as F vs ds → (∀ d, valD ds k = some d → ∃ v, valV vs k = some v ∧ Rep K as F v d) ∧ (valD ds k = none → valV vs k = none)
  | _, _, k, .nil => ⟨fun d e => by simp [valD] at e, fun _ => rfl⟩
  | _, _, k, .cons (n := n) (v := v) (vs := vs) (d := d) (ds := ds) h r => by
    rw [valV_cons, valD_cons]
    by_cases e : n = k
    · rw [if_pos e, if_pos e]
      exact ⟨fun d' z => by cases z; exact ⟨v, rfl, h⟩, fun z => nomatch z⟩
    · rw [if_neg e, if_neg e]
      exact RepK.val k r
theorem RepK.any : ∀ {vs : List (Key × V)} {ds : List (Key × D)} (k : Key), RepK K as F vs ds → (vs.any fun kv => decide (kv.1 = k)) = (ds.any fun kv => decide (kv.1 = k))
  | _, _, _, .nil => rfl
  | _, _, k, .cons h r => by rw [List.any_cons, List.any_cons, RepK.any k r]
theorem RepK.upd_ {k : Key} {v : V} {d : D} (q : Rep K as F v d) : ∀ {vs : List (Key × V)} {ds : List (Key × D)}, RepK K as F vs ds → RepK K as F (vs.map fun kv => if kv.1 = k then (kv.1, v) else kv) (ds.map fun kv => if kv.1 = k then (kv.1, d) else kv)
  | _, _, .nil => .nil
  | _, _, .cons (n := n) (v := x) (d := e) h r => by
    rw [List.map_cons, List.map_cons]
    by_cases z : n = k
    · rw [if_pos z, if_pos z]; exact .cons q (RepK.upd_ q r)
    · rw [if_neg z, if_neg z]; exact .cons h (RepK.upd_ q r)
theorem RepK.snoc {k : Key} {v : V} {d : D} (q : Rep K as F v d) : ∀ {vs : List (Key × V)} {ds : List (Key × D)}, RepK K as F vs ds → RepK K as F (vs ++ [(k, v)]) (ds ++ [(k, d)])
  | _, _, .nil => .cons q .nil
  | _, _, .cons h r => .cons h (RepK.snoc q r)
theorem RepK.put {k : Key} {v : V} {d : D} (q : Rep K as F v d) {vs : List (Key × V)} {ds : List (Key × D)} (r : RepK K as F vs ds) : RepK K as F (putK vs k v) (dputK ds k d) := by
  unfold putK dputK
  rw [r.any k]
  split
  · exact r.upd_ q
  · exact r.snoc q
theorem RepK.len : ∀ {vs : List (Key × V)} {ds : List (Key × D)}, RepK K as F vs ds → vs.length = ds.length
  | _, _, .nil => rfl
  | _, _, .cons _ r => congrArg Nat.succ (RepK.len r)
theorem dic_at {μ : Mem} (M : Mm K Z as F H μ) {v : V} {d : D} {kvs : List (Key × D)} (r : Rep K as F v d) (h : dicAt μ d = some kvs) : ∃ a ks n, v = .ref a ∧ d = .ob n ∧ as[n]? = some a ∧ H a = some (.dK ks) ∧ RepK K as F ks kvs := by
  cases r with
  | ob q =>
    rename_i n a
    have h : (match μ[n]? with | some (DX.M.dic kvs) => some kvs | _ => none) = some kvs := h
    cases z : μ[n]? with
    | none => rw [z] at h; cases h
    | some m =>
      rw [z] at h
      obtain ⟨b, hb, y⟩ := M.at_ n m z
      obtain rfl := Option.some.inj (q.symm.trans hb)
      cases m with
      | dic ks => cases h; obtain ⟨vs, e1, e2⟩ := y; exact ⟨a, vs, n, rfl, rfl, q, e1, e2⟩
      | _ => cases h
  | _ => cases h
/-! {} -/
def uDNew : DTE := fun _ μ Q _ => Q (.ob μ.length) (μ ++ [.dic []])
theorem sim_dnew : Sim K Ex tDNewK uDNew := fun Z as F H σ ρ μ Q E Q' R X h k => fun p np =>
  k _ _ _ (as ++ [p]) F _ Gr.add (R.up Gr.add (R.mm.addM (m := .dic []) np ⟨[], upd_same, .nil⟩)) (rep_ob R.mm.len) h
/-! d[y], y in d, d.get(y), d[y] = v -/
def uDGet (uo ui : DTE) : DTE := fun ρ μ Q E => uo ρ μ (fun x μ1 => ui ρ μ1 (fun y μ2 => ∃ kvs k d, dicAt μ2 x = some kvs ∧ dKey y = some k ∧ valD kvs k = some d ∧ Q d μ2) E) E
theorem sim_dget {to ti : TE} {uo ui : DTE} (a : Sim K Ex to uo) (b : Sim K Ex ti ui) : Sim K Ex (tDGet to ti) (uDGet uo ui) := fun Z as F H σ ρ μ Q E Q' R X h k =>
  a Z as F H σ ρ μ _ E _ R X h fun v d μ1 as1 F1 H1 g1 R1 r1 h1 => b Z as1 F1 H1 σ ρ μ1 _ E _ R1 (X.up g1) h1 fun v2 d2 μ2 as2 F2 H2 g2 R2 r2 h2 => by
    obtain ⟨kvs, key, d, e1, e2, e3, q⟩ := h2
    obtain ⟨p, ks, n, rfl, rfl, _, hp, rk⟩ := dic_at R2.mm (r1.up g2) e1
    obtain ⟨w, w1, w2⟩ := (rk.val key).1 d e3
    cases rep_key r2 e2
    exact ⟨p, w, rfl, by rw [← w1]; exact DGet.k hp, k w d μ2 as2 F2 H2 (g1.trans g2) R2 w2 q⟩
def uDIn (neg : Bool) (ui uo : DTE) : DTE := fun ρ μ Q E => ui ρ μ (fun y μ1 => uo ρ μ1 (fun x μ2 => ∃ kvs k, dicAt μ2 x = some kvs ∧ dKey y = some k ∧ Q (.bl (if neg then !(valD kvs k).isSome else (valD kvs k).isSome)) μ2) E) E
theorem val_some {ks : List (Key × V)} {kvs : List (Key × D)} (rk : RepK K as F ks kvs) (key : Key) : (valV ks key).isSome = (valD kvs key).isSome := by
  cases e : valD kvs key with
  | none => rw [(rk.val key).2 e]; rfl
  | some d => obtain ⟨w, w1, _⟩ := (rk.val key).1 d e; rw [w1]; rfl
theorem sim_din {to ti : TE} {uo ui : DTE} (b : Sim K Ex ti ui) (a : Sim K Ex to uo) : Sim K Ex (tDIn ti to) (uDIn false ui uo) := fun Z as F H σ ρ μ Q E Q' R X h k =>
  b Z as F H σ ρ μ _ E _ R X h fun v2 d2 μ1 as1 F1 H1 g1 R1 r1 h1 => a Z as1 F1 H1 σ ρ μ1 _ E _ R1 (X.up g1) h1 fun v d μ2 as2 F2 H2 g2 R2 r2 h2 => by
    obtain ⟨kvs, key, e1, e2, q⟩ := h2
    obtain ⟨p, ks, n, rfl, rfl, _, hp, rk⟩ := dic_at R2.mm r2 e1
    cases rep_key (r1.up g2) e2
    exact ⟨p, valV ks key, rfl, DGet.k hp, k _ _ μ2 as2 F2 H2 (g1.trans g2) R2 (.bl _) (by rw [val_some rk]; exact q)⟩
theorem sim_dnotin {to ti : TE} {uo ui : DTE} (b : Sim K Ex ti ui) (a : Sim K Ex to uo) : Sim K Ex (tDNotIn ti to) (uDIn true ui uo) := fun Z as F H σ ρ μ Q E Q' R X h k =>
  b Z as F H σ ρ μ _ E _ R X h fun v2 d2 μ1 as1 F1 H1 g1 R1 r1 h1 => a Z as1 F1 H1 σ ρ μ1 _ E _ R1 (X.up g1) h1 fun v d μ2 as2 F2 H2 g2 R2 r2 h2 => by
    obtain ⟨kvs, key, e1, e2, q⟩ := h2
    obtain ⟨p, ks, n, rfl, rfl, _, hp, rk⟩ := dic_at R2.mm r2 e1
    cases rep_key (r1.up g2) e2
    exact ⟨p, valV ks key, rfl, DGet.k hp, k _ _ μ2 as2 F2 H2 (g1.trans g2) R2 (.bl _) (by rw [val_some rk]; exact q)⟩
def uDGet1 (uo ui : DTE) : DTE := fun ρ μ Q E => uo ρ μ (fun x μ1 => (∃ kvs, dicAt μ1 x = some kvs) ∧ ui ρ μ1 (fun y μ2 => ∃ kvs k, dicAt μ2 x = some kvs ∧ dKey y = some k ∧ Q ((valD kvs k).getD .non) μ2) E) E
theorem sim_dget1 {to ti : TE} {uo ui : DTE} (a : Sim K Ex to uo) (b : Sim K Ex ti ui) : Sim K Ex (tDGet1 to ti) (uDGet1 uo ui) := fun Z as F H σ ρ μ Q E Q' R X h k =>
  a Z as F H σ ρ μ _ E _ R X h fun v d μ1 as1 F1 H1 g1 R1 r1 h1 => by
    obtain ⟨⟨kvs0, e0⟩, h1⟩ := h1
    obtain ⟨p, ks0, n, rfl, rfl, hn, hp0, _⟩ := dic_at R1.mm r1 e0
    refine ⟨p, rfl, .inl ⟨ks0, .inl hp0⟩, b Z as1 F1 H1 σ ρ μ1 _ E _ R1 (X.up g1) h1 fun v2 d2 μ2 as2 F2 H2 g2 R2 r2 h2 => ?_⟩
    obtain ⟨kvs, key, e1, e2, q⟩ := h2
    obtain ⟨p2, ks, n2, ep, en, _, hp, rk⟩ := dic_at R2.mm (r1.up g2) e1
    cases ep
    cases rep_key r2 e2
    refine ⟨valV ks key, DGet.k hp, ?_⟩
    cases e : valD kvs key with
    | none =>
      rw [e] at q
      rw [(rk.val key).2 e]
      exact k _ _ μ2 as2 F2 H2 (g1.trans g2) R2 .non q
    | some d =>
      rw [e] at q
      obtain ⟨w, w1, w2⟩ := (rk.val key).1 d e
      rw [w1]
      exact k _ _ μ2 as2 F2 H2 (g1.trans g2) R2 w2 q
def uDPut (uo ui ue : DTE) : DTS := fun De E ρ μ => ue ρ μ (fun v μ1 => uo ρ μ1 (fun x μ2 => ui ρ μ2 (fun y μ3 => ∃ n kvs k, x = .ob n ∧ μ3[n]? = some (.dic kvs) ∧ dKey y = some k ∧ kvs.length < 1000000 ∧ De.nx ρ (μ3.set n (.dic (dputK kvs k v)))) E) E) E
theorem sim_dput {to ti te : TE} {uo ui ue : DTE} (a : Sim K Ex to uo) (b : Sim K Ex ti ui) (c : Sim K Ex te ue) : SimS K Ex (sDPut to ti te) (uDPut uo ui ue) := fun Z as F H σ ρ μ De E D' R X h kn kr kb kc =>
  c Z as F H σ ρ μ _ E _ R X h fun v d μ1 as1 F1 H1 g1 R1 r1 h1 => a Z as1 F1 H1 σ ρ μ1 _ E _ R1 (X.up g1) h1 fun v2 d2 μ2 as2 F2 H2 g2 R2 r2 h2 =>
    b Z as2 F2 H2 σ ρ μ2 _ E _ R2 (X.up (g1.trans g2)) h2 fun v3 d3 μ3 as3 F3 H3 g3 R3 r3 h3 => by
      obtain ⟨n, kvs, key, rfl, e1, e2, hl, q⟩ := h3
      have e1' : dicAt μ3 (.ob n) = some kvs := by
        show (match μ3[n]? with | some (DX.M.dic kvs) => some kvs | _ => none) = some kvs
        rw [e1]
      obtain ⟨p, ks, n', rfl, en, hn, hp, rk⟩ := dic_at R3.mm (r2.up g3) e1'
      cases en
      cases rep_key r3 e2
      refine ⟨p, _, rfl, DPut.k hp (by rw [rk.len]; exact Nat.lt_of_lt_of_le hl (by decide)), ?_⟩
      exact kn σ ρ _ as3 F3 _ ((g1.trans g2).trans g3) ⟨R3.mm.put (m := .dic (dputK kvs key d)) hn ⟨_, upd_same, rk.put ((r1.up g2).up g3)⟩, R3.env⟩ q
/-! {k: v for ..} -/
def uDcGo (ug : DTG) (ut : DTT) (uk uv : DTE) (ρw : Rho) (chk : Mem → Prop) (fin : List (Key × D) → Mem → Prop) : List D → List (Key × D) → Mem → Prop
  | [], acc, μ => chk μ ∧ fin acc μ
  | d :: ds, acc, μ => chk μ ∧ ug d ρw μ (fun ρ1 μ1 => ut ρ1 μ1 (fun b μ2 => if b = true then uk ρ1 μ2 (fun y μ3 => uv ρ1 μ3 (fun z μ4 => ∃ k, dKey y = some k ∧ acc.length < 1000000 ∧ uDcGo ug ut uk uv ρw chk fin ds (dputK acc k z) μ4) XN) XN else uDcGo ug ut uk uv ρw chk fin ds acc μ2) XN) XN
def uDc (ui : DTI) (ug : DTG) (ut : DTT) (uk uv : DTE) (vs : List Nat) : DTE := fun ρ μ Q E => ui ρ μ (fun ds chk μ1 => uDcGo ug ut uk uv (wipeD ρ vs) chk (fun acc μ2 => Q (.ob μ2.length) (μ2 ++ [.dic acc])) ds [] μ1) E
theorem sim_dc {wi : TI} {ui : DTI} {g : TG} {ug : DTG} {tt : TT} {ut : DTT} {tk tv : TE} {uk uv : DTE} {vs : List Nat} (i : SimI K Ex wi ui) (gs : SimG K X0 g ug) (ts : SimT K X0 tt ut) (ks_ : Sim K X0 tk uk) (es : Sim K X0 tv uv) (wp : Wip g vs) (mono : Mono g) :
    Sim K Ex (tDc wi g tt tk tv vs) (uDc ui ug ut uk uv vs) := fun Z as F H σ ρ μ Q E Q' R X h k =>
  i Z as F H σ ρ μ _ E _ R X h fun J ds chk μ1 as1 F1 H1 g1 R1 it h1 => fun D nD => by
    have nZ : Z D = none := by
      cases e : Z D with
      | none => rfl
      | some o => have := (R1.mm.hid D o e).1; rw [nD] at this; cases this
    let fin : List (Key × DX.D) → Mem → Prop := fun acc μ2 => Q (.ob μ2.length) (μ2 ++ [.dic acc])
    have h1 : uDcGo ug ut uk uv (wipeD ρ vs) chk fin ds [] μ1 := h1
    refine ⟨fun i n H' => n = ds.length - i ∧ i ≤ ds.length ∧ ∃ as' F' μ' av acc, Gr as1 F1 as' F' ∧ RepK K as' F' av acc ∧ Mm K (upd Z D (.dK av)) as' F' H' μ' ∧ uDcGo ug ut uk uv (wipeD ρ vs) chk fin (ds.drop i) acc μ',
      ⟨ds.length, by simp, Nat.zero_le _, as1, F1, μ1, [], [], Gr.refl, .nil, R1.mm.hide nD, by rw [List.drop_zero]; exact h1⟩, ?_⟩
    rintro i n H' ⟨rfl, hi, as', F', μ', av, acc, g2, ra, M2, q⟩
    have ha := (M2.hid D _ upd_same).1
    by_cases hlt : i < ds.length
    · rw [List.drop_eq_getElem_cons hlt] at q
      obtain ⟨c, q⟩ := q
      refine .inr ⟨it.go _ i as' F' H' μ' g2 M2 c hlt, fun H3 => ∃ as3 F3 μ3 av acc, Gr as1 F1 as3 F3 ∧ RepK K as3 F3 av acc ∧ Mm K (upd Z D (.dK av)) as3 F3 H3 μ3 ∧ uDcGo ug ut uk uv (wipeD ρ vs) chk fin (ds.drop (i + 1)) acc μ3,
        fun H3 z => ⟨ds.length - (i + 1), by omega, rfl, hlt, z⟩, fun x H2 y => ?_⟩
      obtain ⟨F2, g3, M3, r3⟩ := it.yld _ i as' F' H' μ' x H2 _ g2 M2 c (List.getElem?_eq_getElem hlt) y
      have gA := g2.trans g3
      have R3 : Rp K (upd Z D (.dK av)) as' F2 H2 (L2.wipe σ vs) (wipeD ρ vs) μ' := ⟨M3, (R1.env.up gA).wipe vs⟩
      refine mono _ _ _ _ _ (fun σ2 H2 z => ?_) (wp _ _ _ _ (gs _ as' F2 H2 (L2.wipe σ vs) (wipeD ρ vs) μ' x _ _ XN (fun σ4 H4 => tt σ4 H4 fun b H5 => if b = true then tk σ4 H5 fun y H6 => tv σ4 H6 fun z H7 => ∃ a2 key, y = kV key ∧ H7 D = some (.dK a2) ∧ a2.length < sizeLine ∧ (∃ as3 F3 μ3 av acc, Gr as1 F1 as3 F3 ∧ RepK K as3 F3 av acc ∧ Mm K (upd Z D (.dK av)) as3 F3 (upd H7 D (.dK (putK a2 key z))) μ3 ∧ uDcGo ug ut uk uv (wipeD ρ vs) chk fin (ds.drop (i + 1)) acc μ3)
          else ∃ as3 F3 μ3 av acc, Gr as1 F1 as3 F3 ∧ RepK K as3 F3 av acc ∧ Mm K (upd Z D (.dK av)) as3 F3 H5 μ3 ∧ uDcGo ug ut uk uv (wipeD ρ vs) chk fin (ds.drop (i + 1)) acc μ3) R3 XL.no r3 q fun σ4 ρ4 μ4 as4 F4 H4 g4 R4 q4 => ?_))
      · exact ⟨z.1.trans (wipe_wipe σ vs), z.2⟩
      · refine ts _ as4 F4 H4 σ4 ρ4 μ4 _ XN _ R4 XL.no q4 fun b μ5 as5 F5 H5 g5 R5 q5 => ?_
        have gB := (gA.trans g4).trans g5
        have rB := ((ra.up g3).up g4).up g5
        cases b with
        | false =>
          rw [if_neg Bool.false_ne_true] at q5 ⊢
          exact ⟨as5, F5, μ5, av, acc, gB, rB, R5.mm, q5⟩
        | true =>
          rw [if_pos rfl] at q5 ⊢
          refine ks_ _ as5 F5 H5 σ4 ρ4 μ5 _ XN _ R5 XL.no q5 fun w0 d0 μ60 as60 F60 H60 g60 R60 r60 q60 => ?_
          refine es _ as60 F60 H60 σ4 ρ4 μ60 _ XN _ R60 XL.no q60 fun w d6 μ6 as6 F6 H6 g6 R6 r6 q6 => ?_
          have rC := (rB.up g60).up g6
          obtain ⟨key, ek, hl, q7⟩ := q6
          refine ⟨av, key, rep_key r60 ek, (R6.mm.hid D _ upd_same).1, ?_, as6, F6, μ6, putK av key w, dputK acc key d6, (gB.trans g60).trans g6, rC.put r6, R6.mm.rehide, q7⟩
          rw [rC.len]
          exact Nat.lt_of_lt_of_le hl (by decide)
    · have e : ds.drop i = [] := List.drop_eq_nil_of_le (by omega)
      rw [e] at q
      obtain ⟨c, q⟩ := q
      refine .inl ⟨it.stop _ i as' F' H' μ' g2 M2 c (by omega), ?_⟩
      have gA := g1.trans g2
      have M4 := M2.showM (m := .dic acc) nZ ⟨av, ha, ra.up Gr.add⟩
      exact k _ _ _ _ F' H' (gA.trans Gr.add) ⟨M4, R1.env.up (g2.trans Gr.add)⟩ (rep_ob M2.len) q
end
section
variable {X : Cx} {K : PySem.W.Frag} {Ex : L2.St → XK} {pos pos' apos cpos : Pos} {a b o i e : Expr} {to ti te : TE} {uo ui ue : DTE} {tg : Expr} {g : TG} {ug : DTG}
theorem d_dnew : PD X K Ex (.Dict [] [] pos) tDNewK uDNew := ⟨pe_dnewK, sim_dnew⟩
theorem d_dget (hu : X.A.units + 1 < cLine) (ho : PD X K Ex o to uo) (hi : PD X K Ex i ti ui) (hs : NoSl i := by exact fun _ _ => rfl) : PD X K Ex (.Subscript o i pos) (tDGet to ti) (uDGet uo ui) := ⟨pe_dget hu ho.pe hi.pe hs, sim_dget ho.sim hi.sim⟩
theorem d_dget1 (hu : X.A.units + 1 < cLine) (ho : PD X K Ex o to uo) (he : PD X K Ex e te ue) (m : M1 X o "get" apos e cpos := by exact ⟨rfl, rfl, rfl, rfl⟩) : PD X K Ex (.Call (.Attribute o "get" apos) [e] [] cpos) (tDGet1 to te) (uDGet1 uo ue) := ⟨pe_dget1 hu ho.pe he.pe m, sim_dget1 ho.sim he.sim⟩
theorem s_dput (hu : X.A.units + 1 < cLine) (ho : PD X K Ex o to uo) (hi : PD X K Ex i ti ui) (he : PD X K Ex e te ue) (hs : swapsWith e (some (.Subscript o i pos')) pos.line X.env = pure false := by rfl) : SD X K Ex (.Assign [.Subscript o i pos'] e pos) (sDPut to ti te) (uDPut uo ui ue) := ⟨ps_dput hu ho.pe hi.pe he.pe hs, sim_dput ho.sim hi.sim he.sim⟩
theorem d_dc {kx vx iter : Expr} {ifs : List Expr} {scope : Scope} (own : List (Str × Nat)) {wi : TI} {uw : DTI} {tt : TT} {ut : DTT} {tk tv : TE} {uk uv : DTE} (hN : X.N.Nodup) (hi : ID X K Ex tg iter wi uw) (ok : BlkOk X.N X.env.scope scope own)
    (hg : ∀ (s : Shared) (H : Hp) (C : Addr) (cl : List (Str × Addr)) (fp : List Addr), GD (X.blk s H scope (compEnvC scope cl C X.env) fp) K X0 tg g ug) (ht : ∀ (s : Shared) (H : Hp) (C : Addr) (cl : List (Str × Addr)) (fp : List Addr), TsD (X.blk s H scope (compEnvC scope cl C X.env) fp) K X0 ifs tt ut)
    (hk : ∀ (s : Shared) (H : Hp) (C : Addr) (cl : List (Str × Addr)) (fp : List Addr), PD (X.blk s H scope (compEnvC scope cl C X.env) fp) K X0 kx tk uk) (he : ∀ (s : Shared) (H : Hp) (C : Addr) (cl : List (Str × Addr)) (fp : List Addr), PD (X.blk s H scope (compEnvC scope cl C X.env) fp) K X0 vx tv uv)
    (wp : Wip g (own.map (·.2))) (mn : Mono g) (hc : X.calm = true := by rfl) (hs : ∀ x, foldedSetIterable iter X.env x = pure x := by intro _; rfl) :
    PD X K Ex (.DictComp kx vx [⟨tg, iter, ifs, 0⟩] scope pos) (tDc wi g tt tk tv (own.map (·.2))) (uDc uw ug ut uk uv (own.map (·.2))) :=
  ⟨pe_dc hc hN hi.pe ok (fun s H C cl fp => (hg s H C cl fp).pe) (fun s H C cl fp => (ht s H C cl fp).pe) (fun s H C cl fp => (hk s H C cl fp).pe) (fun s H C cl fp => (he s H C cl fp).pe) hs,
    sim_dc hi.sim (hg X.s_0 (fun _ => none) 0 [] []).sim (ht X.s_0 (fun _ => none) 0 [] []).sim (hk X.s_0 (fun _ => none) 0 [] []).sim (he X.s_0 (fun _ => none) 0 [] []).sim wp mn⟩
end
end DX
set_option Elab.async false
set_option linter.all false
set_option maxRecDepth 100000
set_option maxHeartbeats 4000000
namespace DX
open PySem PySem.Spec PyProof.Rows L2
/-! ### sorted ints, [::-1], remove, tuples of ints in order -/
section
variable {K : PySem.W.Frag} {Z : Hp} {as as' as1 : List Addr} {F F' F1 H H' H1 : Hp} {Ex : L2.St → XK}
theorem new_ints {μ : Mem} (M : Mm K Z as F H μ) {ns : List Int} {Q : D → Mem → Prop} {Q' : VK} {p : Addr} (np : H p = none) (q : Q (.lst (ns.map .int)) μ)
    (k : ∀ v d' μ' as' F' H', Gr as F as' F' → Mm K Z as' F' H' μ' → Rep K as' F' v d' → Q d' μ' → Q' v H') : Q' (.ref p) (upd H p (.lst (ns.map V.int))) :=
  have g := Gr.upd (as := as) (o := .lst (ns.map V.int)) (M.newF np)
  k _ _ μ as _ _ g (M.addF np) (.lst upd_same ((rep_ints ns).up g)) q
def dSorted : DC := one fun x μ Q => ∃ ns : List Int, view μ x = .lst (ns.map .int) ∧ ∀ ns' : List Int, ns'.Perm ns → ns'.Pairwise (· ≤ ·) → Q (.lst (ns'.map .int)) μ
theorem sim_sorted : SimC K (rSortedI K) dSorted := simC_one fun Z as F H μ v d Q Q' M r z k => by
  obtain ⟨ns, e, z⟩ := z
  obtain ⟨a, vs, rfl, q, x⟩ := view_lst M r e
  cases ints_rep x
  exact ⟨a, ns, rfl, q, fun ns' p hp ho np => new_ints M np (z ns' hp ho) k⟩
theorem call_sortedA {X : Cx} (hK : X.K = K) : CallR X (.builtin "sorted") (rSortedI K) := hK ▸ cr_sortedI
def uSortKw (b : Bool) (u : DTA) (uk : DTA) : DTE := fun ρ μ Q E => u ρ μ (fun ds μ1 => uk ρ μ1 (fun zs μ2 => zs = [.bl b] ∧ ∃ x, ds = [x] ∧ ∃ ns : List Int, view μ2 x = .lst (ns.map .int) ∧ ∀ ns' : List Int, ns'.Perm ns → OrdB b ns' → Q (.lst (ns'.map .int)) μ2) E) E
theorem sim_sortKw {b : Bool} {t tk : TA} {u uk : DTA} (a : SimA K Ex t u) (c : SimA K Ex tk uk) : Sim K Ex (tCKw (rSortedKw K b [.bl b]) t tk) (uSortKw b u uk) := fun Z as F H σ ρ μ Q E Q' R X h k =>
  a Z as F H σ ρ μ _ E _ R X h fun vs ds μ1 as1 F1 H1 g1 R1 r1 h1 => c Z as1 F1 H1 σ ρ μ1 _ E _ R1 (X.up g1) h1 fun ws zs μ2 as2 F2 H2 g2 R2 r2 h2 => by
    obtain ⟨rfl, x, rfl, ns, e, z⟩ := h2
    cases r1 with
    | cons ra rb =>
      cases rb
      cases r2 with
      | cons rc rd =>
        cases rd
        cases rc
        obtain ⟨p, us, rfl, q, y⟩ := view_lst R2.mm (ra.up g2) e
        cases ints_rep y
        exact ⟨p, ns, rfl, rfl, q, fun ns' p hp ho np => new_ints R2.mm np (z ns' hp ho) fun v d' μ' as' F' H' g M r q => k v d' μ' as' F' H' ((g1.trans g2).trans g) (R2.up g M) r q⟩
def uRev (u : DTE) : DTE := fun ρ μ Q E => u ρ μ (fun x μ1 => ∃ ds, view μ1 x = .lst ds ∧ Q (.lst ds.reverse) μ1) E
theorem sim_rev {t : TE} {u : DTE} (a : Sim K Ex t u) : Sim K Ex (tRevL K t) (uRev u) := fun Z as F H σ ρ μ Q E Q' R X h k =>
  a Z as F H σ ρ μ _ E _ R X h fun v d μ1 as1 F1 H1 g1 R1 r1 h1 => by
    obtain ⟨ds, e, q⟩ := h1
    obtain ⟨p, vs, rfl, hq, x⟩ := view_lst R1.mm r1 e
    refine ⟨p, vs, rfl, hq, fun l nl => ?_⟩
    have g := Gr.upd (as := as1) (o := .lst vs.reverse) (R1.mm.newF nl)
    exact k _ _ μ1 as1 _ _ (g1.trans g) (R1.up g (R1.mm.addF nl)) (.lst upd_same (x.up g).reverse) q
def dRemove : DM := fun x ds μ Q => match x, ds with
  | .ob n, [.int i] => ∃ (ns : List Int) (j : Nat), μ[n]? = some (.lst (ns.map .int)) ∧ ns[j]? = some i ∧ (∀ m : Nat, m < j → ns[m]? ≠ some i) ∧ Q .non (μ.set n (.lst ((ns.eraseIdx j).map .int)))
  | _, _ => False
theorem sim_remove : SimM K rRemI dRemove := fun Z as F H μ v d vs ds Q Q' M r rs z k => by
  unfold dRemove at z
  split at z
  · rename_i n i
    obtain ⟨ns, j, e, e2, e3, q⟩ := z
    cases r
    rename_i a hn
    match vs, rs with
    | _, .cons (.int _) .nil =>
      obtain ⟨b, hb, y⟩ := M.at_ n _ e
      obtain rfl := Option.some.inj (hn.symm.trans hb)
      obtain ⟨us, u1, u2⟩ := y
      cases ints_rep u2
      refine ⟨a, ns, i, j, rfl, rfl, u1, e2, e3, ?_⟩
      exact k _ _ _ as F _ Gr.refl (M.put (m := .lst ((ns.eraseIdx j).map .int)) hn ⟨_, upd_same, rep_ints _⟩) .non q
  · exact z.elim
def dLtT : DR2 := fun x y μ Q => ∃ ns ms : List Int, view μ x = .tup (ns.map .int) ∧ view μ y = .tup (ms.map .int) ∧ Q (.bl (HT.lexLt ns ms)) μ
theorem sim_ltT : SimR K (rLtT K) dLtT := fun Z as F H μ x y d e Q Q' M rx ry z k => by
  obtain ⟨ns, ms, e1, e2, q⟩ := z
  obtain ⟨a, vs, rfl, h1, x1⟩ := view_tup M rx e1
  obtain ⟨b, us, rfl, h2, x2⟩ := view_tup M ry e2
  cases ints_rep x1
  cases ints_rep x2
  exact ⟨a, b, ns, ms, rfl, rfl, h1, h2, k _ _ μ as F H Gr.refl M (.bl _) q⟩
theorem op_ltTA {X : Cx} (hu : X.A.units < cLine) (hK : X.K = K) : OpR X (compareOp .Lt) (rLtT K) := hK ▸ op_ltT hu
end
structure KD (X : Cx) (K : PySem.W.Frag) (Ex : L2.St → XK) (kws : List Keyword) (t : TA) (u : DTA) : Prop where
  pe : PK X kws t
  sim : SimA K Ex t u
section
variable {X : Cx} {K : PySem.W.Frag} {Ex : L2.St → XK} {pos p ps : Pos} {e : Expr} {es : List Expr} {kws : List Keyword} {te : TE} {ue : DTE} {t tk : TA} {u uk : DTA} {x : Str}
theorem k_nil : KD X K Ex [] tNil uNil := ⟨pk_nil, sim_nil⟩
theorem k_cons {nm : Option Str} {kpos : Pos} (h : PD X K Ex e te ue) (r : KD X K Ex kws t u) : KD X K Ex (⟨nm, e, kpos⟩ :: kws) (tCons te t) (uCons ue u) := ⟨pk_cons h.pe r.pe, sim_cons h.sim r.sim⟩
theorem d_rev {k : Nat} {p1 p2 p3 : Pos} (h : PD X K Ex e te ue) (hK : X.K = K := by rfl) : PD X K Ex (.Subscript e (.Slice none none (some (.UnaryOp .USub (.Constant (.int 1) k p1) p2)) p3) pos) (tRevL K te) (uRev ue) := by
  subst hK
  exact ⟨pe_revL h.pe, sim_rev h.sim⟩
theorem d_sortKw {b : Bool} (hm : X.mg "sorted" = none) (ha : AD X K Ex (e :: es) t u) (hk : KD X K Ex kws tk uk) (hK : X.K = K := by rfl) (hg : Gl X "sorted" := by rfl)
    (he : backTo pos (starEach (e :: es) X.env) = (false, eval e X.env) :: backTo pos (starEach es X.env) := by rfl) (hpl : (backTo pos (starEach (e :: es) X.env)).any (·.1) = false := by rfl)
    (hall : (backToKw pos (keywordEach kws X.env)).all (·.1.isSome) = true := by rfl) (hnone : (backToKw pos (keywordEach kws X.env)).any (·.1.isNone) = false := by rfl) (hks : (backToKw pos (keywordEach kws X.env)).filterMap (·.1) = [Str.ofString "reverse"] := by rfl) :
    PD X K Ex (.Call (.Name "sorted" p) (e :: es) kws pos) (tCKw (rSortedKw K b [.bl b]) t tk) (uSortKw b u uk) := by
  subst hK
  exact ⟨pe_callBK cr_sortedRev hg hm (by decide +kernel) ha.pe hk.pe (by decide) (by decide) he hpl hall hnone hks, sim_sortKw ha.sim hk.sim⟩
end
end DX
set_option Elab.async false
set_option linter.all false
set_option maxRecDepth 100000
set_option maxHeartbeats 4000000
namespace DX
open PySem PySem.Spec PyProof.Rows L2
/-! ### xs[i] op= y -/
def rGetN : V → V → Hp → VK → Prop := fun o i H Q => ∃ (p : Addr) (xs : List V) (j : Nat) (z : V), o = .ref p ∧ i = .int (j : Nat) ∧ H p = some (.lst xs) ∧ xs[j]? = some z ∧ Q z H
theorem pget_list {X : Cx} : PGet X rGetN := by
  intro pins s σ H o i ov iv Q I ro ri h
  obtain ⟨p, xs, j, z, rfl, rfl, hp, hz, q⟩ := h
  cases ro
  obtain ⟨t, rfl⟩ := ri
  obtain ⟨its, r, pl, hl⟩ := I.list (SqL.of hp)
  obtain ⟨w, ew, rw'⟩ := r.get hz
  have hn := line63
  have hlen := r.length
  have hj : j < xs.length := (List.getElem?_eq_some_iff.mp hz).1
  refine wpAny_getItem_list pl.isList (by omega) (by omega) (by rw [Int.toNat_natCast]; simpa using ew) ?_
  exact ⟨z, H, I, rw', q⟩
def uAugIx (uo ui ue : DTE) (dr : DR2) : DTS := fun De E ρ μ => uo ρ μ (fun o μ1 => ui ρ μ1 (fun i μ2 => ∃ n j xs d, o = .ob n ∧ i = .int (j : Nat) ∧ μ2[n]? = some (.lst xs) ∧ xs[j]? = some d ∧ ue ρ μ2 (fun y μ3 => dr d y μ3 fun z μ4 => ∃ ys, μ4[n]? = some (.lst ys) ∧ j < ys.length ∧ De.nx ρ (μ4.set n (.lst (ys.set j z)))) E) E) E
section
variable {K : PySem.W.Frag} {Z : Hp} {as as' as1 : List Addr} {F F' F1 H H' H1 : Hp} {Ex : L2.St → XK}
theorem lst_at {μ : Mem} (M : Mm K Z as F H μ) {v : V} {n : Nat} {ds : List D} (r : Rep K as F v (.ob n)) (h : μ[n]? = some (.lst ds)) : ∃ a vs, v = .ref a ∧ as[n]? = some a ∧ H a = some (.lst vs) ∧ RepL K as F vs ds := by
  cases r
  rename_i a q
  obtain ⟨b, hb, y⟩ := M.at_ n _ h
  obtain rfl := Option.some.inj (q.symm.trans hb)
  obtain ⟨vs, e1, e2⟩ := y
  exact ⟨a, vs, rfl, q, e1, e2⟩
theorem sim_augIx {to ti te : TE} {uo ui ue : DTE} {r : TIp} {dr : DR2} (a : Sim K Ex to uo) (b : Sim K Ex ti ui) (c : Sim K Ex te ue) (s : SimR K r dr) : SimS K Ex (tAugS to ti te rGetN r rSetL) (uAugIx uo ui ue dr) := fun Z as F H σ ρ μ De E D' R X h kn kr kb kc =>
  a Z as F H σ ρ μ _ E _ R X h fun v1 d1 μ1 as1 F1 H1 g1 R1 r1 h1 => b Z as1 F1 H1 σ ρ μ1 _ E _ R1 (X.up g1) h1 fun v2 d2 μ2 as2 F2 H2 g2 R2 r2 h2 => by
    obtain ⟨n, j, xs, d, rfl, rfl, e1, e2, h3⟩ := h2
    obtain ⟨p, vs, rfl, hn, hp, x⟩ := lst_at R2.mm (r1.up g2) e1
    obtain ⟨w, w1, w2⟩ := x.get e2
    cases r2
    refine ⟨p, vs, j, w, rfl, rfl, hp, w1, c Z as2 F2 H2 σ ρ μ2 _ E _ R2 (X.up (g1.trans g2)) h3 fun v3 d3 μ3 as3 F3 H3 g3 R3 r3 h4 => ?_⟩
    refine s Z as3 F3 H3 μ3 w v3 d d3 _ _ R3.mm (w2.up g3) r3 h4 fun v4 d4 μ4 as4 F4 H4 g4 M4 r4 h5 => ?_
    obtain ⟨ys, e5, hj, q⟩ := h5
    have r1' : Rep K as4 F4 (.ref p) (.ob n) := ((r1.up g2).up g3).up g4
    obtain ⟨p', us, ep, hn4, hp4, x4⟩ := lst_at M4 r1' e5
    cases ep
    refine ⟨p, us, (j : Int), j, rfl, rfl, hp4, ixN_nat (by rw [x4.len]; exact hj), ?_⟩
    exact kn σ ρ _ as4 F4 _ (((g1.trans g2).trans g3).trans g4) ⟨M4.put (m := .lst (ys.set j d4)) hn4 ⟨_, upd_same, x4.set r4 j⟩, R3.env.up g4⟩ q
end
section
variable {X : Cx} {K : PySem.W.Frag} {Ex : L2.St → XK} {pos tpos : Pos} {o i e : Expr} {to ti te : TE} {uo ui ue : DTE} {op : Operator} {r : TIp} {dr : DR2}
theorem s_augIx (ho : PD X K Ex o to uo) (hi : PD X K Ex i ti ui) (he : PD X K Ex e te ue) (hp : PIp X op r) (s : SimR K r dr) (ha : ∀ ov iv new, augStore i ov iv new = (do holding [new, ov, iv] (setItem ov iv new); release [new, ov, iv] []; pure .next) := by intros; rfl) :
    SD X K Ex (.AugAssign (.Subscript o i tpos) op e pos) (tAugS to ti te rGetN r rSetL) (uAugIx uo ui ue dr) := ⟨ps_augS ho.pe hi.pe pget_list he.pe hp set_list ha, sim_augIx ho.sim hi.sim he.sim s⟩
end
end DX
set_option Elab.async false
set_option linter.all false
set_option maxRecDepth 100000
set_option maxHeartbeats 4000000
namespace DX
open PySem PySem.Spec PyProof.Rows L2
/-! ### list(range(n)) -/
def uLstRg (u : DTE) : DTE := fun ρ μ Q E => u ρ μ (fun x μ1 => ∃ n : Int, x = .int n ∧ -(2 ^ 62) ≤ n ∧ n ≤ 2 ^ 24 ∧ Q (.lst (dints 0 n.toNat)) μ1) E
theorem dints_map : ∀ (n : Nat) (lo : Int), dints lo n = (List.range n).map fun (i : Nat) => D.int (lo + (i : Int))
  | 0, _ => rfl
  | n + 1, lo => by
    rw [List.range_succ_eq_map, List.map_cons, List.map_map]
    show D.int lo :: dints (lo + 1) n = _
    rw [dints_map n (lo + 1)]
    congr 1
    · simp
    · refine List.map_congr_left fun i _ => ?_
      show D.int _ = D.int _
      congr 1
      show lo + 1 + (i : Int) = lo + ((i + 1 : Nat) : Int)
      omega
theorem sim_lstRg {K : PySem.W.Frag} {Ex : L2.St → XK} {t : TE} {u : DTE} (a : Sim K Ex t u) : Sim K Ex (tLstRg (tRg1 t)) (uLstRg u) := fun Z as F H σ ρ μ Q E Q' R X h k =>
  a Z as F H σ ρ μ _ E _ R X h fun v d μ1 as1 F1 H1 g1 R1 r1 h1 => by
    obtain ⟨n, rfl, h2, h3, q⟩ := h1
    cases r1
    refine ⟨n, rfl, ⟨by omega, by omega, h2, by omega, by omega⟩, fun p np => ?_⟩
    have g := Gr.upd (as := as1) (o := .lst (rgV 0 n)) (R1.mm.newF np)
    have x : RepL K as1 F1 (rgV 0 n) (dints 0 n.toNat) := by
      unfold rgV
      rw [Int.sub_zero, dints_map]
      exact (List.range n.toNat).rec (motive := fun l => RepL K as1 F1 (l.map fun i => V.int (0 + (i : Nat))) (l.map fun (i : Nat) => D.int (0 + (i : Int)))) .nil fun i l ih => .cons (.int _) ih
    exact k _ _ μ1 as1 _ _ (g1.trans g) (R1.up g (R1.mm.addF np)) (.lst upd_same (x.up g)) q
theorem d_lstRg {X : Cx} {K : PySem.W.Frag} {Ex : L2.St → XK} {p p2 pos pos2 : Pos} {a : Expr} {t : TE} {u : DTE} (hm : X.mg "list" = none) (hm2 : X.mg "range" = none) (h : PD X K Ex a t u) (hc : X.calm = true := by rfl) (hg : Gl X "list" := by rfl) (hg2 : Gl X "range" := by rfl)
    (na : starEach [a] X.env = (false, eval a X.env) :: starEach [] X.env := by rfl) (nb : starEach [.Call (.Name "range" p2) [a] [] pos2] X.env = (false, eval (.Call (.Name "range" p2) [a] [] pos2) X.env) :: starEach [] X.env := by rfl) :
    PD X K Ex (.Call (.Name "list" p) [.Call (.Name "range" p2) [a] [] pos2] [] pos) (tLstRg (tRg1 t)) (uLstRg u) := ⟨pe_listRg hc hg hm (prg_1 hg2 hm2 h.pe na) nb, sim_lstRg h.sim⟩
end DX
set_option Elab.async false
set_option linter.all false
set_option maxRecDepth 100000
set_option maxHeartbeats 4000000
namespace DX
open PySem PySem.Spec PyProof.Rows L2
/-! ### x = {k: v for ..} -/
section
variable {X : Cx}
theorem ps_setDc {i : Nat} {y : Str} {py : Pos} {kx vx tg iter : Expr} {ifs : List Expr} {scope : Scope} {own : List (Str × Nat)} {pos spos : Pos} {wi : TI} {g : TG} {tt : TT} {tk tv : TE} (hc : X.calm = true) (hN : X.N.Nodup) (hy : X.N[i]? = some y) (hyl : X.env.scope.names.lookup y = some .local)
    (hsw : swapsWith (.DictComp kx vx [⟨tg, iter, ifs, 0⟩] scope pos) (some (.Name y py)) spos.line X.env = pure true) (hi : PI X tg iter wi) (ok : BlkOk X.N X.env.scope scope own)
    (hg : ∀ (s : Shared) (H : Hp) (C : Addr) (cl : List (Str × Addr)) (fp : List Addr), PG (X.blk s H scope (compEnvC scope cl C X.env) fp) tg g) (ht : ∀ (s : Shared) (H : Hp) (C : Addr) (cl : List (Str × Addr)) (fp : List Addr), PTs (X.blk s H scope (compEnvC scope cl C X.env) fp) ifs tt)
    (hk : ∀ (s : Shared) (H : Hp) (C : Addr) (cl : List (Str × Addr)) (fp : List Addr), PE (X.blk s H scope (compEnvC scope cl C X.env) fp) kx tk)
    (he : ∀ (s : Shared) (H : Hp) (C : Addr) (cl : List (Str × Addr)) (fp : List Addr), PE (X.blk s H scope (compEnvC scope cl C X.env) fp) vx tv) (hs : ∀ x, foldedSetIterable iter X.env x = pure x := by intro _; rfl) :
    PS X (.Assign [.Name y py] (.DictComp kx vx [⟨tg, iter, ifs, 0⟩] scope pos) spos) (tAsg (tDc wi g tt tk tv (own.map (·.2))) (gName i)) := by
  refine ⟨fun pins s σ H D I h => ?_⟩
  rw [exec_Assign_Name_used _ _ _ _ hsw]
  refine wpAny_bind (wpAny_standAt (wpAny_bind ?_))
  show wpAny _ X.A (do let _ ← comprehension (.DictComp kx vx [⟨tg, iter, ifs, 0⟩] scope pos) scope X.env (firstIterPos [⟨tg, iter, ifs, 0⟩] pos) newDict false (eval iter X.env) (some (assign (.Name y py) X.env))) _ _ s
  have h : tDc wi g tt tk tv (own.map (·.2)) σ H (fun x H1 => gName i x σ H1 D.nx) := h
  refine wpAny_bind (thn (dc_core (Qf := fun _ s' => SP X pins D .next s') hc hN I hi ok hg ht hk he hs h fun L C s' m H' I' q hn f => ?_) fun _ s' hq => wpAny_pure (wpAny_pure hq))
  show wpAny _ _ (assign (.Name y py) X.env (.ref L)) _ _ _
  refine wpAny_assign_Name (store_ok2 (v := V.ref L) I' hN hy (.inl hyl) rfl (fun s2 I2 ⟨a, sb, ha⟩ => ?_) (.inr hyl))
  obtain ⟨f0, f1, f2, f3, f4, f5⟩ := f
  have haC : C ≠ a := by
    rcases ha with z | z
    · rw [z]; exact f1
    · exact fun e => f4 y a z e.symm
  refine ⟨m, hn.sameBut sb haC, fun h3 sb3 => ?_⟩
  exact ⟨_, H', I2.turned (t' := s2.toks) (fun b o hb e => (sb3.2 b hb).trans e) f0 f1 f3 f4 f5, q⟩
theorem sw_trueD {kx vx : Expr} {gs : List Comprehension} {scope : Scope} {pos py : Pos} {y : Str} {l : Nat} {env : Env} (hk : env.scope.kind = .function) (hy : env.scope.names.lookup y = some .local) (hl : (py.line == pos.line) = true)
    (ha : (scope.names.any fun (n, k) => n == y && (k == .local || k == .cell)) = false) : swapsWith (.DictComp kx vx gs scope pos) (some (.Name y py)) l env = pure true := by
  have ky : env.kindOf y = some .local := hy
  have hb : env.blockKind = .function := by unfold Env.blockKind; rw [hk]; rfl
  unfold swapsWith
  simp only [hb, ky, ha, Expr.pos, hl]
  rfl
end
section
variable {X : Cx} {K : PySem.W.Frag} {Ex : L2.St → XK} {pos py spos : Pos} {tg : Expr} {g : TG} {ug : DTG}
theorem s_setDc (i : Nat) {y : Str} {kx vx iter : Expr} {ifs : List Expr} {scope : Scope} (own : List (Str × Nat)) {wi : TI} {uw : DTI} {tt : TT} {ut : DTT} {tk tv : TE} {uk uv : DTE} (hN : X.N.Nodup) (hi : ID X K Ex tg iter wi uw) (ok : BlkOk X.N X.env.scope scope own)
    (hg : ∀ (s : Shared) (H : Hp) (C : Addr) (cl : List (Str × Addr)) (fp : List Addr), GD (X.blk s H scope (compEnvC scope cl C X.env) fp) K X0 tg g ug) (ht : ∀ (s : Shared) (H : Hp) (C : Addr) (cl : List (Str × Addr)) (fp : List Addr), TsD (X.blk s H scope (compEnvC scope cl C X.env) fp) K X0 ifs tt ut)
    (hk : ∀ (s : Shared) (H : Hp) (C : Addr) (cl : List (Str × Addr)) (fp : List Addr), PD (X.blk s H scope (compEnvC scope cl C X.env) fp) K X0 kx tk uk) (he : ∀ (s : Shared) (H : Hp) (C : Addr) (cl : List (Str × Addr)) (fp : List Addr), PD (X.blk s H scope (compEnvC scope cl C X.env) fp) K X0 vx tv uv)
    (wp : Wip g (own.map (·.2))) (mn : Mono g) (hsw : swapsWith (.DictComp kx vx [⟨tg, iter, ifs, 0⟩] scope pos) (some (.Name y py)) spos.line X.env = pure true)
    (hyl : X.env.scope.names.lookup y = some .local := by rfl) (hy : X.N[i]? = some y := by rfl) (hc : X.calm = true := by rfl) (hs : ∀ x, foldedSetIterable iter X.env x = pure x := by intro _; rfl) :
    SD X K Ex (.Assign [.Name y py] (.DictComp kx vx [⟨tg, iter, ifs, 0⟩] scope pos) spos) (tAsg (tDc wi g tt tk tv (own.map (·.2))) (gName i)) (uAsg (uDc uw ug ut uk uv (own.map (·.2))) (uGName i)) :=
  ⟨ps_setDc hc hN hy hyl hsw hi.pe ok (fun s H C cl fp => (hg s H C cl fp).pe) (fun s H C cl fp => (ht s H C cl fp).pe) (fun s H C cl fp => (hk s H C cl fp).pe) (fun s H C cl fp => (he s H C cl fp).pe) hs,
    sim_asg (sim_dc hi.sim (hg X.s_0 (fun _ => none) 0 [] []).sim (ht X.s_0 (fun _ => none) 0 [] []).sim (hk X.s_0 (fun _ => none) 0 [] []).sim (he X.s_0 (fun _ => none) 0 [] []).sim wp mn) (sim_gName i)⟩
end
end DX
set_option Elab.async false
set_option linter.all false
set_option maxRecDepth 100000
set_option maxHeartbeats 4000000
namespace DX
open PySem PySem.Spec PyProof.Rows L2
/-! ### stars, keywords -/
theorem ifb0 {c : Prop} {h : Decidable c} {a b : Prop} (x : c → a) (y : ¬ c → b) : @ite Prop c h a b := by
  by_cases z : c
  · rw [if_pos z]; exact x z
  · rw [if_neg z]; exact y z
/-! #### *e in a display or an argument list -/
def uStar (ue : DTE) (u : DTA) : DTA := fun ρ μ Q E => ue ρ μ (fun x μ1 => match view μ1 x with
  | .lst xs => u ρ μ1 (fun ys μ2 => Q (xs ++ ys) μ2) E
  | .tup xs => u ρ μ1 (fun ys μ2 => Q (xs ++ ys) μ2) E
  | _ => False) E
section
variable {K : PySem.W.Frag} {Z : Hp} {as as' as1 : List Addr} {F F' F1 H H' H1 : Hp} {Ex : L2.St → XK}
theorem sim_star {te : TE} {ue : DTE} {t : TA} {u : DTA} (a : Sim K Ex te ue) (b : SimA K Ex t u) : SimA K Ex (StX.tStar K te t) (uStar ue u) := fun Z as F H σ ρ μ Q E Q' R X h k =>
  a Z as F H σ ρ μ _ E _ R X h fun v d μ1 as1 F1 H1 g1 R1 r1 h1 => by
    have h1 : (match view μ1 d with | .lst xs => u ρ μ1 (fun ys μ2 => Q (xs ++ ys) μ2) E | .tup xs => u ρ μ1 (fun ys μ2 => Q (xs ++ ys) μ2) E | _ => False) := h1
    cases e : view μ1 d with
    | lst ds =>
      rw [e] at h1
      obtain ⟨p, vs, rfl, q, x⟩ := view_lst R1.mm r1 e
      exact ⟨p, vs, rfl, .inr q, b Z as1 F1 H1 σ ρ μ1 _ E _ R1 (X.up g1) h1 fun vs2 ds2 μ2 as2 F2 H2 g2 R2 r2 h2 => k _ _ μ2 as2 F2 H2 (g1.trans g2) R2 ((x.up g2).append r2) h2⟩
    | tup ds =>
      rw [e] at h1
      obtain ⟨p, vs, rfl, q, x⟩ := view_tup R1.mm r1 e
      exact ⟨p, vs, rfl, .inl q, b Z as1 F1 H1 σ ρ μ1 _ E _ R1 (X.up g1) h1 fun vs2 ds2 μ2 as2 F2 H2 g2 R2 r2 h2 => k _ _ μ2 as2 F2 H2 (g1.trans g2) R2 ((x.up g2).append r2) h2⟩
    | _ => rw [e] at h1; exact h1.elim
end
section
variable {X : Cx} {K : PySem.W.Frag} {Ex : L2.St → XK} {p : Pos} {e : Expr} {es : List Expr} {te : TE} {ue : DTE} {t : TA} {u : DTA}
theorem a_star (h : PD X K Ex e te ue) (r : AD X K Ex es t u) (hK : X.K = K := by rfl) (hs : starEach (.Starred e p :: es) X.env = (true, eval e X.env) :: starEach es X.env := by rfl) : AD X K Ex (.Starred e p :: es) (StX.tStar K te t) (uStar ue u) := by
  subst hK
  exact ⟨StX.pa_star h.pe r.pe hs, sim_star h.sim r.sim⟩
end
/-! #### a, *b = a tuple -/
def gStarT (K : PySem.W.Frag) (n i : Nat) (t : TGs) : TG := fun v σ H Q => ∃ a xs, v = .ref a ∧ SqT K H a xs ∧ i < n ∧ n ≤ xs.length + 1 ∧ xs.length ≤ 16384 ∧
  ∀ p, H p = none → t (xs.take i ++ [.ref p] ++ (xs.drop i).drop (xs.length + 1 - n)) σ (upd H p (.lst ((xs.drop i).take (xs.length + 1 - n)))) Q
section
variable {X : Cx} {es : List Expr} {k n i : Nat} {pos : Pos} {t : TGs}
theorem pgs_star {e : Expr} {es : List Expr} {p : Pos} {t : TG} {u : TGs} (h1 : PG X e t) (h2 : PGs X es u)
    (hs : (assignEach (.Starred e p :: es) X.env).map (·.2) = assign e X.env :: (assignEach es X.env).map (·.2) := by rfl) : PGs X (.Starred e p :: es) (gCons t u) := by
  refine ⟨fun pins s σ H vs us Q I r h => ?_⟩
  rw [hs]
  obtain ⟨v, vr, e1, h⟩ := h
  subst e1
  cases r with
  | cons ra rb =>
    refine wpAny_bind (wpAny_holding (thn (h1.run pins s σ H v _ _ I ra h) fun _ s1 ⟨σ1, H1, I1, q1⟩ => ?_))
    exact h2.run pins s1 σ1 H1 _ _ Q I1 rb q1
theorem vals_take : ∀ {vs : List V} {us : List Value} (j : Nat), Vals vs us → Vals (vs.take j) (us.take j)
  | _, _, 0, _ => .nil
  | _, _, _ + 1, .nil => .nil
  | _, _, j + 1, .cons a r => .cons a (vals_take j r)
theorem vals_drop : ∀ {vs : List V} {us : List Value} (j : Nat), Vals vs us → Vals (vs.drop j) (us.drop j)
  | _, _, 0, r => r
  | _, _, _ + 1, .nil => .nil
  | _, _, j + 1, .cons _ r => vals_drop j r
theorem pg_starT (hc : X.calm = true) (h : PGs X es t) (hn : (assignEach es X.env).length = n := by rfl) (hst : (assignEach es X.env).findIdx? (·.1) = some i := by rfl) : PG X (.Tuple es k pos) (gStarT X.K n i t) := by
  refine ⟨fun pins s σ H v u Q I r hw => ?_⟩
  obtain ⟨a, xs, e1, hq, hi, hnl, hz, hw⟩ := hw
  subst e1
  cases r
  obtain ⟨its, rv, ht, hz2⟩ := I.tuple hq
  have hl : IsTup s.heap a its.toArray := ht
  have hlen : its.length = xs.length := rv.length.symm
  have hlt : a ≠ s.heap.objs.size := by obtain ⟨o, ho, _⟩ := hl; exact Nat.ne_of_lt (Heap.lt_size ho)
  rw [assign_Tuple]
  refine wpAny_bind (wpAny_standAt ?_)
  unfold unpack
  rw [hn, hst]
  refine wpAny_bind (wpAny_holding ?_)
  unfold unpackItems
  refine wpAny_bind ?_
  unfold notIterableAtAll
  refine wpAny_bind (wpAny_specialOf hl.typeIs slot_tuple_iter.lookup ?_)
  refine wpAny_pure ?_
  simp only [Bool.false_eq_true, if_false]
  refine wpAny_bind (wpAny_holding (iter_tuple hl ?_))
  refine wpAny_bind (wpAny_holding (draw_tuple hlt i 0 _ _ ⟨_, Heap.get?_push_size _ rfl, rfl, rfl⟩ (hl.push _) (by simp only [List.size_toArray]; omega) fun h₁ hit₁ hs₁ => ?_))
  have hl₁ : IsTup h₁ a its.toArray := (hl.push _).extBut hs₁.extBut hlt
  rw [Nat.zero_add] at hit₁
  have hit₁' := hit₁
  obtain ⟨oi, hoi, _⟩ := hit₁'
  have hl₁' := hl₁
  obtain ⟨ol, hol, _⟩ := hl₁'
  rw [List.drop_zero]
  have hfl : (its.toArray.toList.take i).length = i := by rw [List.length_take, Array.length_toList, List.size_toArray]; omega
  rw [if_neg (show ¬ ((its.toArray.toList.take i).length < i) by rw [hfl]; omega)]
  refine wpAny_bind (wpAny_holding (PySem.W.kun_collect (s := { s with heap := h₁ }) (T := "tuple_iterator") (.inr (.inr (.inr rfl))) (Walks.tuple (A := X.A.in1) (I.ok.hd hc) s.heap.objs.size a hlt its.toArray) (fun j u st => st.1.typeIs) (k := i) (by simp only [List.size_toArray]; omega) ⟨hit₁, hl₁⟩ (Heap.lt_size hoi) (Heap.lt_size hol) (fun h₂ tk hk => ?_) (by rw [sizeLine_eq, List.size_toArray]; omega)))
  have hrl : (its.toArray.toList.drop i).length = its.length - i := by rw [List.length_drop, Array.length_toList, List.size_toArray]
  have hmid : (its.toArray.toList.drop i).length - (n - 1 - i) = xs.length + 1 - n := by rw [hrl]; omega
  show wpAny _ _ (if (its.toArray.toList.drop i).length < n - 1 - i then _ else _) _ _ _
  rw [if_neg (by rw [hrl]; omega)]
  show wpAny _ _ (newList ((its.toArray.toList.drop i).take ((its.toArray.toList.drop i).length - (n - 1 - i))) >>= fun d => pure (its.toArray.toList.take i ++ [d] ++ (its.toArray.toList.drop i).drop ((its.toArray.toList.drop i).length - (n - 1 - i)))) _ _ _
  rw [hmid]
  have he : ∀ b o, s.heap.get? b = some o → h₂.get? b = some o := fun b o e => hk b o (Nat.ne_of_lt (Heap.lt_size e)) (hs₁.extBut b o (Nat.ne_of_lt (Heap.lt_size e)) (Heap.get?_push_of_some _ e))
  have I1 : L2.Inv X pins σ H { s with heap := h₂, toks := tk } := I.kept he
  have e2 : its.toArray.toList = its := rfl
  rw [e2]
  have rt := vals_take (xs.length + 1 - n) (vals_drop i rv)
  have hf : H h₂.objs.size = none := I1.hok.fresh (Nat.le_refl _)
  refine wpAny_bind (wpAny_newList ?_ (by rw [List.length_take, List.length_drop, sizeLine_eq]; omega))
  refine wpAny_pure ?_
  have I2 : L2.Inv X pins σ (upd H h₂.objs.size (.lst ((xs.drop i).take (xs.length + 1 - n)))) { s with heap := h₂.push { cls := .type "list", data := .seq ((its.drop i).take (xs.length + 1 - n)).toArray }, toks := tk } :=
    I1.laid (t' := tk) (fun b u e => Heap.get?_push_of_some _ e) (Nat.le_refl _) ⟨by rw [List.length_take, List.length_drop, sizeLine_eq]; omega, _, 0, rt, Heap.get?_push_size _ rfl⟩
  exact h.run pins _ σ _ _ _ Q I2 (((vals_take i rv).append (show Vals [V.ref h₂.objs.size] [Value.ref h₂.objs.size] from .cons rfl .nil)).append (vals_drop (xs.length + 1 - n) (vals_drop i rv))) (hw _ hf)
end
def uStarT (n i : Nat) (w : DTGs) : DTG := fun d ρ μ Q E => match view μ d with
  | .tup ds => (i < n ∧ n ≤ ds.length + 1 ∧ ds.length ≤ 16384) ∧ w (ds.take i ++ [.lst ((ds.drop i).take (ds.length + 1 - n))] ++ (ds.drop i).drop (ds.length + 1 - n)) ρ μ Q E
  | _ => False
section
variable {K : PySem.W.Frag} {Ex : L2.St → XK}
theorem sim_starT {n i : Nat} {s : TGs} {w : DTGs} (b : SimGs K Ex s w) : SimG K Ex (gStarT K n i s) (uStarT n i w) := fun Z as F H σ ρ μ v d Q E Q' R X r h k => by
  have h : (match view μ d with | .tup ds => (i < n ∧ n ≤ ds.length + 1 ∧ ds.length ≤ 16384) ∧ w (ds.take i ++ [.lst ((ds.drop i).take (ds.length + 1 - n))] ++ (ds.drop i).drop (ds.length + 1 - n)) ρ μ Q E | _ => False) := h
  cases e : view μ d with
  | tup ds =>
    rw [e] at h
    obtain ⟨⟨h1, h2, h3⟩, h⟩ := h
    obtain ⟨p, vs, rfl, q, x⟩ := view_tup R.mm r e
    refine ⟨p, vs, rfl, q, h1, by rw [x.len]; exact h2, by rw [x.len]; exact h3, fun q hq => ?_⟩
    have g2 := Gr.upd (as := as) (o := .lst ((vs.drop i).take (vs.length + 1 - n))) (R.mm.newF hq)
    have x2 := x.up g2
    refine b Z as _ _ σ ρ μ _ _ Q E Q' (R.up g2 (R.mm.addF hq)) (X.up g2) ?_ h fun σ' ρ' μ' as' F' H' g => k σ' ρ' μ' as' F' H' (g2.trans g)
    rw [← x.len]
    exact ((x2.take i).append (.cons (.lst upd_same ((x2.drop i).take _)) .nil)).append ((x2.drop i).drop _)
  | _ => rw [e] at h; exact h.elim
end
section
variable {X : Cx} {K : PySem.W.Frag} {Ex : L2.St → XK}
theorem gs_star {e : Expr} {es : List Expr} {p : Pos} {t : TG} {u : DTG} {s : TGs} {w : DTGs} (h : GD X K Ex e t u) (r : GsD X K Ex es s w) (hs : (assignEach (.Starred e p :: es) X.env).map (·.2) = assign e X.env :: (assignEach es X.env).map (·.2) := by rfl) : GsD X K Ex (.Starred e p :: es) (gCons t s) (uGCons u w) := ⟨pgs_star h.pe r.pe hs, sim_gCons h.sim r.sim⟩
theorem g_starT (n i : Nat) {es : List Expr} {k : Nat} {pos : Pos} {s : TGs} {w : DTGs} (h : GsD X K Ex es s w) (hK : X.K = K := by rfl) (hc : X.calm = true := by rfl) (hn : (assignEach es X.env).length = n := by rfl) (hst : (assignEach es X.env).findIdx? (·.1) = some i := by rfl) : GD X K Ex (.Tuple es k pos) (gStarT K n i s) (uStarT n i w) := by
  subst hK
  exact ⟨pg_starT hc h.pe hn hst, sim_starT h.sim⟩
end
end DX
set_option Elab.async false
set_option linter.all false
set_option maxRecDepth 100000
set_option maxHeartbeats 4000000
namespace DX
open PySem PySem.Spec PyProof.Rows L2
/-! ### defs called by keywords, with a star parameter -/
/-- the def at f keeps sp, called by any values and by keywords named ks (their values behind the others) -/
def FnKC (P : Program) (w : World) (K : PySem.W.Frag) (mg : Str → Option Value) (base : Heap) (CX : CXT) (k : Nat) (f : Addr) (ks : List Str) (sp : Sp) : Prop :=
  ∀ (A : Around) (outer : List Env) (s : Shared) (H : Hp) (us ws : List Value) (vs zs : List V) (Q : VK) (E : XK), Gd.Calm0 A → Room k A → Env0 P w K mg base A outer s H → Vals vs us → Vals zs ws → zs.length = ks.length → sp (vs ++ zs) H Q E →
    codeAny (model P w) A (.call (.ref f) ⟨us, ks.zip ws⟩) (CR CX outer P w H s Q E) s
abbrev FnC (P : Program) (w : World) (K : PySem.W.Frag) (mg : Str → Option Value) (base : Heap) (k : Nat) (f : Addr) (ks : List Str) (S : DSp) : Prop := FnKC P w K mg base (L2.CX P w) k f ks (toSp K S)
/-- t looks the names up in the dict at D, one behind another, and goes on as r -/
def KwEnd {α : Type} (D : Addr) : List (Str × Value) → Sem α → Sem α → Prop
  | [], t, r => t = r
  | q :: l, t, r => ∃ (β γ : Type) (k1 : Option Value → Sem β) (k2 : β → Sem γ) (k3 : γ → Sem α) (a : β), t = ((nsGet D q.1 >>= k1) >>= k2) >>= k3 ∧ k1 (some q.2) = pure a ∧ KwEnd D l (k2 a >>= k3) r
theorem KwEnd.wp {α : Type} {K : PySem.W.Frag} {M : Model} {A : Around} {D : Addr} {Q : α → Shared → Prop} {E : Value → Shared → Prop} {s : Shared} (X : K.In s.heap) : ∀ {l : List (Str × Value)} {t r : Sem α}, (∀ q ∈ l, PySem.W.nsIn K D q.1 = some (some q.2)) → KwEnd D l t r → wpAny M A r Q E s → wpAny M A t Q E s
  | [], t, r, _, e, h => by
    have e : t = r := e
    rw [e]; exact h
  | q :: l, t, r, hl, e, h => by
    obtain ⟨β, γ, k1, k2, k3, a, e1, e2, e3⟩ := e
    have l1 : PySem.W.Looks M s.heap (nsGet D q.1 >>= k1) a := (PySem.W.looks_nsIn X (hl q (List.mem_cons_self ..))).andThen (PySem.W.Looks.of_pure e2)
    rw [e1, bind_assoc]
    exact wpAny_bind (l1.here (KwEnd.wp X (fun p hp => hl p (List.mem_cons_of_mem _ hp)) e3 h))
/-- what f(.., *v, k = .., ..) binds: ps ahead, kp by keyword (those named ks, then the lacking ones by mv), the rest in a new tuple -/
def BindS (P : Program) (w : World) (K : PySem.W.Frag) (fd : FuncData) (ps kp ks : List Str) (pv : Str) (mv : List Value) : Prop :=
  ∀ (us rest ws : List Value), us.length = ps.length → ws.length = ks.length → ∀ (A : Around) (s : Shared) (Q : List (Str × Value) → Shared → Prop) (E : Value → Shared → Prop), K.In s.heap →
    wpAny (model P w) A (newTuple rest) (fun t s' => Q (ps.zip us ++ kp.zip (ws ++ mv) ++ [(pv, t)]) s') E s → wpAny (model P w) A (bindArgs fd ⟨us ++ rest, ks.zip ws⟩) Q E s
theorem BindS.of {P : Program} {w : World} {K : PySem.W.Frag} {fd : FuncData} {ps kp ks : List Str} {pv : Str} {mv : List Value} {D : Addr} {l : List (Str × Value)} (hl : ∀ q ∈ l, PySem.W.nsIn K D q.1 = some (some q.2))
    (h : ∀ us rest ws : List Value, us.length = ps.length → ws.length = ks.length → KwEnd D l (bindArgs fd ⟨us ++ rest, ks.zip ws⟩) (newTuple rest >>= fun t => pure (ps.zip us ++ kp.zip (ws ++ mv) ++ [(pv, t)]))) : BindS P w K fd ps kp ks pv mv := fun us rest ws h1 h2 A s Q E X hq =>
  KwEnd.wp X hl (h us rest ws h1 h2) (wpAny_bind (wpAny_mono hq (fun _ _ z => wpAny_pure z) fun _ _ z => z))
section
variable {P : Program} {w : World} {K : PySem.W.Frag} {mg : Str → Option Value} {base : Heap} {k : Nat} {f : Addr} {fd : FuncData} {x qual : Str} {st : Stmt} {N ps kp ks : List Str} {pv : Str} {S : DSp}
theorem FnKC.fn {CX : CXT} {sp : Sp} (h : FnKC P w K mg base CX k f [] sp) : Gd.FnG P w K mg base CX k f sp := fun A outer s H us vs Q E g hr e0 r hsp =>
  h A outer s H us [] vs [] Q E g hr e0 r .nil rfl (by rw [List.append_nil]; exact hsp)
theorem FnKC.mono {CX : CXT} {sp : Sp} {j : Nat} (h : FnKC P w K mg base CX j f ks sp) (hj : j ≤ k) : FnKC P w K mg base CX k f ks sp := fun A outer s H us ws vs zs Q E g hr => h A outer s H us ws vs zs Q E g (hr.mono hj)
theorem repL_split {as : List Addr} {F : Hp} : ∀ {xs ys : List D} {vs : List V}, RepL K as F vs (xs ++ ys) → ∃ v1 v2, vs = v1 ++ v2 ∧ RepL K as F v1 xs ∧ RepL K as F v2 ys
  | [], _, vs, r => ⟨[], vs, rfl, .nil, r⟩
  | _ :: xs, ys, _, .cons a r => by
    obtain ⟨v1, v2, rfl, r1, r2⟩ := repL_split (xs := xs) (ys := ys) r
    exact ⟨_ :: v1, v2, rfl, .cons a r1, r2⟩
/-- what a def with a star parameter is given: n values, the rest, m keywords' values; md the lacking ones' -/
def starS (n m : Nat) (md : List D) (S : DSp) : DSp := fun ds μ Q E => ∃ pd rest kd, ds = pd ++ rest ++ kd ∧ pd.length = n ∧ kd.length = m ∧ rest.length ≤ 1000 ∧ S (pd ++ (kd ++ md) ++ [.tup rest]) μ Q E
/-- def f(a, .., *v, k = .., ..) by its body -/
theorem okS {mv : List Value} {mw : List V} {md : List D} (Fu : DefAt K x qual st f fd) (Sc : FnScope N (ps ++ kp ++ [pv]) (defScope st)) (hkp : ks.length + mw.length = kp.length) (rmv : Vals mw mv) (rmd : ∀ as F, RepL K as F mw md) (hb : BindS P w K fd ps kp ks pv mv) (u : DTS)
    (body : ∀ (cdv : Value) (A : Around) (outer : List Env) (s : Shared) (H : Hp) (E' : XK), Gd.Calm0 A → Room k (A.deeper (envOfC qual (defScope st) s.heap.objs.size f cdv)) →
      ∃ t, BD (cxOf (L2.CX P w) P w K mg base N qual (defScope st) f cdv A outer s H E') K (fun _ => E') (defBody st) t u)
    (read : ∀ ds μ Q E, S ds μ Q E → u { nx := fun _ μ' => FZ μ Q .non μ', rt := FZ μ Q } (FZE μ E) (startD N ds) μ) : FnC P w K mg base (k + 1) f ks (starS ps.length ks.length md S) := by
  intro A outer s H us ws vs zs Q E g hr e0 r rz lz hsp
  obtain ⟨oc, od, dV, kV, doc, pm, an, cdv, ct, osl, rfl, lk, hcd⟩ := Fu.ex
  obtain ⟨Z, as, F, ds, μ, Qd, Ed, rr, M, ⟨pd, rest, kd, rfl, hp, hk, hrl, hS⟩, kQ, kE⟩ := hsp
  obtain ⟨v12, v3, e1, r12, r3⟩ := repL_split rr
  obtain ⟨rfl, rfl⟩ := List.append_inj' e1 (by rw [lz, r3.len, hk])
  obtain ⟨v1, v2, rfl, r1, r2⟩ := repL_split r12
  obtain ⟨u1, u2, rfl, ru1, ru2⟩ := StX.vals_split r
  have KX : K.In s.heap := e0.mod.kin.keeps fun b o e => (e0.bs b o e).1
  have hn : H s.heap.objs.size = Option.none := e0.hok.fresh (Nat.le_refl _)
  have hl1 : u1.length = ps.length := by rw [← ru1.length, r1.len, hp]
  have hl3 : ws.length = ks.length := by rw [← rz.length, lz]
  have hz : v2.length ≤ sizeLine := by rw [r2.len]; exact le_line hrl
  have hl2 : u2.length ≤ sizeLine := by rw [← ru2.length]; exact hz
  refine StX.run_bnd lk hcd Sc hr e0 (G := fun xs H2 => ∃ p, H p = Option.none ∧ xs = v1 ++ (zs ++ mw) ++ [V.ref p] ∧ H2 = upd H p (.tup v2)) (fun A' Ex Q' h => ?_) fun s2 H2 xs ⟨p, hp', ex, eH⟩ hr' => ?_
  · refine hb u1 u2 ws hl1 hl3 A' s _ _ KX (wpAny_newTuple ?_ hl2)
    have new : ObjOk P w (upd H s.heap.objs.size (.tup v2)) (s.heap.push ({ cls := .type "tuple", data := .seq u2.toArray } : Obj)) s.heap.objs.size (.tup v2) := ⟨hz, u2, ru2, ⟨_, Heap.get?_push_size _ rfl, rfl, _, rfl⟩⟩
    have un := StX.un_laid (fs := frs outer) (s := s) (o := ({ cls := .type "tuple", data := .seq u2.toArray } : Obj)) (u := .tup v2) hn
    have rk : Vals (zs ++ mw) (ws ++ mv) := rz.append rmv
    have z := h _ _ (v1 ++ (zs ++ mw) ++ [V.ref s.heap.objs.size]) (u1 ++ (ws ++ mv) ++ [Value.ref s.heap.objs.size]) (StX.env0_laid e0 new) un rfl (fun e s' => StX.cxUp outer s H _ _ E e s' un (fun b o q => Heap.get?_push_of_some _ q) rfl) ((ru1.append rk).append (.cons rfl .nil))
      (by have := r1.len; simp only [List.length_append, List.length_singleton]; omega) ⟨_, hn, rfl, rfl⟩
    rw [List.zip_append (by rw [List.length_append, List.length_append, hl1, List.length_append, hl3, ← rmv.length, hkp]), List.zip_append (by rw [hl1])] at z
    exact z
  · subst ex eH
    obtain ⟨t, ht⟩ := body cdv A outer s2 (upd H p (.tup v2)) E g hr'
    refine ⟨t, ht.pe, ?_⟩
    have g2 := Gr.upd (as := as) (o := .tup v2) (M.newF hp')
    have rb : RepL K as (upd F p (.tup v2)) (v1 ++ (zs ++ mw) ++ [V.ref p]) (pd ++ (kd ++ md) ++ [.tup rest]) := ((r1.up g2).append ((r3.up g2).append (rmd _ _))).append (.cons (.tup upd_same (r2.up g2)) .nil)
    exact ht.sim Z as _ _ (L2.start N _) (startD N (pd ++ (kd ++ md) ++ [.tup rest])) μ _ _ _ ⟨M.addF hp', env_start rb⟩ (fze_end (M.addF hp') fun C gs dx μ' as' F' H' g => kE C gs dx μ' as' F' H' (g2.trans g)) (read _ μ Qd Ed hS)
      (fun σ' ρ' μ' as' F' H' g R q => fz_end (M.addF hp') (fun v d μ' as' F' H' g => kQ v d μ' as' F' H' (g2.trans g)) g R.mm .non q) (fun v d μ' as' F' H' g M' r q => fz_end (M.addF hp') (fun v d μ' as' F' H' g => kQ v d μ' as' F' H' (g2.trans g)) g M' r q) (fun _ _ _ _ _ _ _ _ z => z.elim) (fun _ _ _ _ _ _ _ _ z => z.elim)
/-- called by keywords, no star: g puts the values in the parameters' order -/
def BindK (K : PySem.W.Frag) (fd : FuncData) (ps ks : List Str) (n : Nat) (mv : List Value) (g : {α : Type} → List α → List α → List α → List α) : Prop :=
  ∀ (s : Shared) (us ws : List Value), K.In s.heap → us.length = n → ws.length = ks.length → BindsTo s fd ⟨us, ks.zip ws⟩ (ps.zip (g us ws mv))
def kwS (n m : Nat) (md : List D) (g : List D → List D → List D → List D) (S : DSp) : DSp := fun ds μ Q E => ∃ pd kd, ds = pd ++ kd ∧ pd.length = n ∧ kd.length = m ∧ S (g pd kd md) μ Q E
theorem FnB.kw {n : Nat} {mv : List Value} {mw : List V} {md : List D} {g : {α : Type} → List α → List α → List α → List α} (Fb : FnB P w K mg base k f fd ps S) (rmv : Vals mw mv) (rmd : ∀ as F, RepL K as F mw md) (hb : BindK K fd ps ks n mv g)
    (hg1 : ∀ {vs zs : List V} {us ws : List Value}, Vals vs us → Vals zs ws → vs.length = n → zs.length = ks.length → Vals (g vs zs mw) (g us ws mv)) (hg2 : ∀ {as : List Addr} {F : Hp} {vs zs : List V} {ds es : List D}, RepL K as F vs ds → RepL K as F zs es → vs.length = n → zs.length = ks.length → RepL K as F (g vs zs mw) (g ds es md)) :
    FnC P w K mg base k f ks (kwS n ks.length md g S) := by
  intro A outer s H us ws vs zs Q E gd hr e0 r rz lz hsp
  obtain ⟨Z, as, F, ds, μ, Qd, Ed, rr, M, ⟨pd, kd, rfl, hp, hk, hS⟩, kQ, kE⟩ := hsp
  obtain ⟨v1, v2, e1, r1, r2⟩ := repL_split rr
  obtain ⟨rfl, rfl⟩ := List.append_inj' e1 (by rw [lz, r2.len, hk])
  have KX : K.In s.heap := e0.mod.kin.keeps fun b o e => (e0.bs b o e).1
  have hv : vs.length = n := by rw [r1.len, hp]
  exact Fb.run A outer s H ⟨us, ks.zip ws⟩ (g us ws mv) (g vs zs mw) Q E gd hr e0 (hb s us ws KX (by rw [← r.length, hv]) (by rw [← rz.length, lz])) (hg1 r rz hv lz) ⟨Z, as, F, g pd kd md, μ, Qd, Ed, hg2 r1 r2 hv lz, M, hS, kQ, kE⟩
end
/-! #### C(.., k = .., ..) -/
def tMakeC (C : Addr) (m : Nat) (sp : Sp) (E : L2.St → XK) (t tk : TA) : TE := fun σ H Q => t σ H fun vs H1 => tk σ H1 fun zs H2 => zs.length = m ∧ ∀ y dy, H2 y = none → H2 dy = none → dy ≠ y → sp (.ref y :: (vs ++ zs)) (upd (upd H2 dy (.own y)) y (.ins C dy [])) (fun v H3 => v = .non ∧ Q (.ref y) H3) (E σ)
section
variable {X : Cx} {CX : CXT} {k : Nat} {f C : Addr} {ks : List Str} {sp : Sp} {E : L2.St → XK}
theorem run_makeC {pn : List (Addr × Obj)} {σ : L2.St} {H : Hp} {s : Shared} {Q : VK} {us ws : List Value} {vs zs : List V} (M : Mk X.K C f) (F : FnKC X.prog X.w X.K X.mg X.base CX k f ks sp) (g : Gd.Calm0 X.A) (hr : Room (k + 1) X.A) (hx : PassesAt CX X σ (E σ)) (I : L2.Inv X pn σ H s) (r : Vals vs us) (rz : Vals zs ws) (lz : zs.length = ks.length)
    (h : ∀ y dy, H y = Option.none → H dy = Option.none → dy ≠ y → sp (V.ref y :: (vs ++ zs)) (upd (upd H dy (.own y)) y (.ins C dy [])) (fun v H2 => v = .non ∧ Q (.ref y) H2) (E σ)) : wpAny (model X.prog X.w) X.A (call (.ref C) us (ks.zip ws)) (EP X pn σ Q) X.xe s := by
  have J : L2.Inv X pn σ _ _ := L2.Inv.made (C := C) I
  have r1 : Vals (V.ref (s.heap.objs.size + 1) :: vs) (Value.ref (s.heap.objs.size + 1) :: us) := Paired.cons rfl r
  have hq := h (s.heap.objs.size + 1) s.heap.objs.size (I.hok.fresh (Nat.le_succ _)) (I.hok.fresh Nat.le.refl) (Nat.ne_of_lt (Nat.lt_succ_self _))
  refine wpAny_call (make_map (f := f) I.kIn M.makes M.init (beq_iff_eq.mp M.fn) (codeAny_mono (F _ X.stack _ _ (Value.ref (s.heap.objs.size + 1) :: us) ws (V.ref (s.heap.objs.size + 1) :: vs) zs _ (E σ) (make_calm g) (hr.make C us (ks.zip ws)) (J.env0.make C us (ks.zip ws)) r1 rz lz hq) fun z s2 y => ?_))
  match z, y with
  | .error er, y => exact hx pn _ _ er s2 J y
  | .ok (.ret u), y =>
    obtain ⟨v, H3, J3, rv, ev, q⟩ := J.after y
    subst ev
    exact ⟨rv, .ref (s.heap.objs.size + 1), H3, J3, rfl, q⟩
end
section
variable {M : Model} {A : Around} {E : Value → Shared → Prop} {s : Shared}
theorem ks_callK {f : Value} {first : List Value} {pos : Pos} {Q : Value → Shared → Prop} {P : Heap → Prop} {args : List (Bool × Sem Value)} {kw : List (Option Str × Sem Value)} (hst : args.any (·.1) = true)
    (hk : ∀ h, P h → ∃ k, (k = Keeper.frame ∨ k = Keeper.machine ∨ k = Keeper.boundFrame) ∧ PySem.W.Looks M h (keeperOf f) k)
    (h : wpAny M A (evalArgs f true args kw) (fun a s₁ => P s₁.heap ∧ wpAny M A (call f (first ++ a.pos) a.kw) Q E s₁) E s) : wpAny M A (callWith pos f first args kw) Q E s := by
  unfold callWith
  refine wpAny_bind (wpAny_holding (wpAny_mono h (fun a s₁ h₁ => wpAny_bind (wpAny_standAt ?_)) fun _ _ x => x))
  obtain ⟨k, hk', L⟩ := hk _ h₁.1
  simp only [hst, Bool.true_or]
  refine wpAny_bind (L.here ?_)
  have tail : ∀ {t : Sem Value}, wpAny M A t Q E s₁ → wpAny M A (t >>= fun r => holding [r] point >>= fun _ => pure r) Q E s₁ :=
    fun ht => wpAny_bind (wpAny_mono ht (fun r s₂ hr => wpAny_bind (wpAny_holding (wpAny_point (wpAny_pure hr)))) fun _ _ x => x)
  have marked (mk : Value) : wpAny M A (callMarked mk f (first ++ a.pos) a.kw) Q E s₁ := by unfold callMarked; exact Calls.wpAny_keep h₁.2
  rcases hk' with rfl | rfl | rfl <;> dsimp only <;> first | exact tail (marked _) | exact tail (wpAny_operating h₁.2)
theorem callWith_SK {K : PySem.W.Frag} {env : Env} {pos : Pos} {f : Value} {first : List Value} {Q : Value → Shared → Prop} {h₀ : Heap} {e : Expr} {rest : List Expr} {kws : List Keyword} (_X : K.In h₀) (hk : PySem.W.keepIn K f = true) (hall : (backToKw pos (keywordEach kws env)).all (·.1.isSome) = true)
    (h : wpAny M A (spliced (backTo pos (starEach (e :: rest) env))) (fun vs s₁ => wpAny M A (evalAll ((backToKw pos (keywordEach kws env)).map (·.2)))
      (fun ks s₂ => K.In s₂.heap ∧ wpAny M A (call f (first ++ vs) (((backToKw pos (keywordEach kws env)).filterMap (·.1)).zip ks)) Q E s₂) E s₁) E s)
    (hst : (backTo pos (starEach (e :: rest) env)).any (·.1) = true := by rfl) (he : starEach (e :: rest) env = (false, eval e env) :: starEach rest env := by rfl) :
    wpAny M A (callWith pos f first (backTo pos (starEach (e :: rest) env)) (backToKw pos (keywordEach kws env))) Q E s :=
  ks_callK hst (PySem.W.keeps_K hk) (PyProof.Rows.evalArgs_kw2 hall h he)
end
section
variable {X : Cx} {k : Nat} {f C : Addr} {ks : List Str} {sp : Sp} {Ex : L2.St → XK} {x : Str} {p pos : Pos} {e : Expr} {es : List Expr} {kws : List Keyword} {t tk : TA}
theorem pe_makeC0 (M : Mk X.K C f) (F : FnKC X.prog X.w X.K X.mg X.base (L2.CX X.prog X.w) k f ks sp) (g : Gd.Calm0 X.A) (hr : Room (k + 1) X.A) (hg : Gl X x) (hm : X.mg x = some (.ref C)) (tkx : Tk X Ex) (hkw : PK X kws tk)
    (hall : (backToKw pos (keywordEach kws X.env)).all (·.1.isSome) = true := by rfl) (hks : (backToKw pos (keywordEach kws X.env)).filterMap (·.1) = ks := by rfl) (hdb : (x == ("__debug__" : Str)) = false := by decide)
    (hpl : ((backTo pos (starEach [] X.env)).any (·.1) || (backToKw pos (keywordEach kws X.env)).any (·.1.isNone)) = false := by rfl) :
    PE X (.Call (.Name x p) [] kws pos) (tMakeC C ks.length sp Ex tNil tk) := by
  refine ⟨fun pins s σ H Q I h => ?_⟩
  refine wpAny_Call_Name_kw (ld_glob I hg hm ?_ hdb)
  refine PySem.W.callWith_KW0 (h₀ := X.base) I.ok.mod.kin M.kp hall ?_ hpl
  refine thn (hkw.run pos pins s σ H _ I h) fun ws s2 ⟨zs, H2, I2, rz, l2, q2⟩ => ⟨I2.kIn, ?_⟩
  rw [hks]
  exact run_makeC (us := []) (vs := []) M F g hr (tk_pass tkx σ) I2 .nil rz l2 q2
theorem pe_makeC (M : Mk X.K C f) (F : FnKC X.prog X.w X.K X.mg X.base (L2.CX X.prog X.w) k f ks sp) (g : Gd.Calm0 X.A) (hr : Room (k + 1) X.A) (hg : Gl X x) (hm : X.mg x = some (.ref C)) (tkx : Tk X Ex) (ha : PA X (e :: es) t) (hkw : PK X kws tk)
    (hall : (backToKw pos (keywordEach kws X.env)).all (·.1.isSome) = true := by rfl) (hks : (backToKw pos (keywordEach kws X.env)).filterMap (·.1) = ks := by rfl) (hdb : (x == ("__debug__" : Str)) = false := by decide)
    (he : starEach (e :: es) X.env = (false, eval e X.env) :: starEach es X.env := by rfl) (hpl : ((backTo pos (starEach (e :: es) X.env)).any (·.1) || (backToKw pos (keywordEach kws X.env)).any (·.1.isNone)) = false := by rfl) :
    PE X (.Call (.Name x p) (e :: es) kws pos) (tMakeC C ks.length sp Ex t tk) := by
  refine ⟨fun pins s σ H Q I h => ?_⟩
  refine wpAny_Call_Name_kw (ld_glob I hg hm ?_ hdb)
  refine PySem.W.callWith_KW (h₀ := X.base) I.ok.mod.kin M.kp hall (thn (ha.run pos pins s σ H _ I h) fun us s1 ⟨vs, H1, I1, r, q⟩ => ?_) hpl he
  refine thn (hkw.run pos pins s1 σ H1 _ I1 q) fun ws s2 ⟨zs, H2, I2, rz, l2, q2⟩ => ⟨I2.kIn, ?_⟩
  rw [hks]
  exact run_makeC M F g hr (tk_pass tkx σ) I2 r rz l2 q2
theorem pe_makeCS (M : Mk X.K C f) (F : FnKC X.prog X.w X.K X.mg X.base (L2.CX X.prog X.w) k f ks sp) (g : Gd.Calm0 X.A) (hr : Room (k + 1) X.A) (hg : Gl X x) (hm : X.mg x = some (.ref C)) (tkx : Tk X Ex) (ha : PA X (e :: es) t) (hkw : PK X kws tk)
    (hall : (backToKw pos (keywordEach kws X.env)).all (·.1.isSome) = true := by rfl) (hks : (backToKw pos (keywordEach kws X.env)).filterMap (·.1) = ks := by rfl) (hdb : (x == ("__debug__" : Str)) = false := by decide)
    (he : starEach (e :: es) X.env = (false, eval e X.env) :: starEach es X.env := by rfl) (hst : (backTo pos (starEach (e :: es) X.env)).any (·.1) = true := by rfl) :
    PE X (.Call (.Name x p) (e :: es) kws pos) (tMakeC C ks.length sp Ex t tk) := by
  refine ⟨fun pins s σ H Q I h => ?_⟩
  refine wpAny_Call_Name_kw (ld_glob I hg hm ?_ hdb)
  refine callWith_SK (h₀ := X.base) I.ok.mod.kin M.kp hall (thn (ha.run pos pins s σ H _ I h) fun us s1 ⟨vs, H1, I1, r, q⟩ => ?_) hst he
  refine thn (hkw.run pos pins s1 σ H1 _ I1 q) fun ws s2 ⟨zs, H2, I2, rz, l2, q2⟩ => ⟨I2.kIn, ?_⟩
  rw [hks]
  exact run_makeC M F g hr (tk_pass tkx σ) I2 r rz l2 q2
end
def uMakeCM (C : Addr) (m : Nat) (S : DSp) (u uk : DTA) : DTE := fun ρ μ Q E => u ρ μ (fun ds μ1 => uk ρ μ1 (fun es μ2 => es.length = m ∧ dMakeM C S (ds ++ es) μ2 Q (E ρ)) E) E
def uMakeCF (C : Addr) (m : Nat) (S : DSp) (u uk : DTA) : DTE := fun ρ μ Q E => u ρ μ (fun ds μ1 => uk ρ μ1 (fun es μ2 => es.length = m ∧ dMakeF C S (ds ++ es) μ2 Q (E ρ)) E) E
section
variable {K : PySem.W.Frag} {Z : Hp} {as as' as1 : List Addr} {F F' F1 H H' H1 : Hp} {Ex : L2.St → XK}
theorem sim_makeCM {C : Addr} {m : Nat} {S : DSp} {t tk : TA} {u uk : DTA} (a : SimA K Ex t u) (b : SimA K Ex tk uk) : Sim K Ex (tMakeC C m (toSp K S) Ex t tk) (uMakeCM C m S u uk) := fun Z as F H σ ρ μ Q E Q' R X h k =>
  a Z as F H σ ρ μ _ E _ R X h fun vs ds μ1 as1 F1 H1 g1 R1 r1 h1 => b Z as1 F1 H1 σ ρ μ1 _ E _ R1 (X.up g1) h1 fun zs es μ2 as2 F2 H2 g2 R2 r2 h2 => ⟨by rw [r2.len]; exact h2.1, fun y dy ny nd ne =>
    sim_makeV R2 (X.up (g1.trans g2)) ((r1.up g2).append r2) true (by rw [if_pos rfl]; exact h2.2) (fun v d μ' as' F' H' g M r q => k v d μ' as' F' H' ((g1.trans g2).trans g) M r q) ny nd ne⟩
theorem sim_makeCF {C : Addr} {m : Nat} {S : DSp} {t tk : TA} {u uk : DTA} (a : SimA K Ex t u) (b : SimA K Ex tk uk) : Sim K Ex (tMakeC C m (toSp K S) Ex t tk) (uMakeCF C m S u uk) := fun Z as F H σ ρ μ Q E Q' R X h k =>
  a Z as F H σ ρ μ _ E _ R X h fun vs ds μ1 as1 F1 H1 g1 R1 r1 h1 => b Z as1 F1 H1 σ ρ μ1 _ E _ R1 (X.up g1) h1 fun zs es μ2 as2 F2 H2 g2 R2 r2 h2 => ⟨by rw [r2.len]; exact h2.1, fun y dy ny nd ne =>
    sim_makeV R2 (X.up (g1.trans g2)) ((r1.up g2).append r2) false (by rw [if_neg Bool.false_ne_true]; exact h2.2) (fun v d μ' as' F' H' g M r q => k v d μ' as' F' H' ((g1.trans g2).trans g) M r q) ny nd ne⟩
end
section
variable {X : Cx} {K : PySem.W.Frag} {Ex : L2.St → XK} {k : Nat} {f C : Addr} {ks : List Str} {S : DSp} {x : Str} {p pos : Pos} {e : Expr} {es : List Expr} {kws : List Keyword} {t tk : TA} {u uk : DTA}
theorem d_makeCF (M : Mk K C f) (F : FnC X.prog X.w K X.mg X.base k f ks S) (hm : X.mg x = some (.ref C)) (g : Gd.Calm0 X.A) (hr : Room (k + 1) X.A) (tkx : Tk X Ex) (ha : AD X K Ex (e :: es) t u) (hkw : KD X K Ex kws tk uk) (hK : X.K = K := by rfl) (hg : Gl X x := by rfl)
    (hall : (backToKw pos (keywordEach kws X.env)).all (·.1.isSome) = true := by rfl) (hks : (backToKw pos (keywordEach kws X.env)).filterMap (·.1) = ks := by rfl) (hdb : (x == ("__debug__" : Str)) = false := by decide)
    (he : starEach (e :: es) X.env = (false, eval e X.env) :: starEach es X.env := by rfl) (hpl : ((backTo pos (starEach (e :: es) X.env)).any (·.1) || (backToKw pos (keywordEach kws X.env)).any (·.1.isNone)) = false := by rfl) :
    PD X K Ex (.Call (.Name x p) (e :: es) kws pos) (tMakeC C ks.length (toSp K S) Ex t tk) (uMakeCF C ks.length S u uk) := by
  subst hK
  exact ⟨pe_makeC M F g hr hg hm tkx ha.pe hkw.pe hall hks hdb he hpl, sim_makeCF ha.sim hkw.sim⟩
theorem d_makeCM (M : Mk K C f) (F : FnC X.prog X.w K X.mg X.base k f ks S) (hm : X.mg x = some (.ref C)) (g : Gd.Calm0 X.A) (hr : Room (k + 1) X.A) (tkx : Tk X Ex) (ha : AD X K Ex (e :: es) t u) (hkw : KD X K Ex kws tk uk) (hK : X.K = K := by rfl) (hg : Gl X x := by rfl)
    (hall : (backToKw pos (keywordEach kws X.env)).all (·.1.isSome) = true := by rfl) (hks : (backToKw pos (keywordEach kws X.env)).filterMap (·.1) = ks := by rfl) (hdb : (x == ("__debug__" : Str)) = false := by decide)
    (he : starEach (e :: es) X.env = (false, eval e X.env) :: starEach es X.env := by rfl) (hpl : ((backTo pos (starEach (e :: es) X.env)).any (·.1) || (backToKw pos (keywordEach kws X.env)).any (·.1.isNone)) = false := by rfl) :
    PD X K Ex (.Call (.Name x p) (e :: es) kws pos) (tMakeC C ks.length (toSp K S) Ex t tk) (uMakeCM C ks.length S u uk) := by
  subst hK
  exact ⟨pe_makeC M F g hr hg hm tkx ha.pe hkw.pe hall hks hdb he hpl, sim_makeCM ha.sim hkw.sim⟩
theorem d_makeCM0 (M : Mk K C f) (F : FnC X.prog X.w K X.mg X.base k f ks S) (hm : X.mg x = some (.ref C)) (g : Gd.Calm0 X.A) (hr : Room (k + 1) X.A) (tkx : Tk X Ex) (hkw : KD X K Ex kws tk uk) (hK : X.K = K := by rfl) (hg : Gl X x := by rfl)
    (hall : (backToKw pos (keywordEach kws X.env)).all (·.1.isSome) = true := by rfl) (hks : (backToKw pos (keywordEach kws X.env)).filterMap (·.1) = ks := by rfl) (hdb : (x == ("__debug__" : Str)) = false := by decide)
    (hpl : ((backTo pos (starEach [] X.env)).any (·.1) || (backToKw pos (keywordEach kws X.env)).any (·.1.isNone)) = false := by rfl) :
    PD X K Ex (.Call (.Name x p) [] kws pos) (tMakeC C ks.length (toSp K S) Ex tNil tk) (uMakeCM C ks.length S uNil uk) := by
  subst hK
  exact ⟨pe_makeC0 M F g hr hg hm tkx hkw.pe hall hks hdb hpl, sim_makeCM sim_nil hkw.sim⟩
theorem d_makeCSF (M : Mk K C f) (F : FnC X.prog X.w K X.mg X.base k f ks S) (hm : X.mg x = some (.ref C)) (g : Gd.Calm0 X.A) (hr : Room (k + 1) X.A) (tkx : Tk X Ex) (ha : AD X K Ex (e :: es) t u) (hkw : KD X K Ex kws tk uk) (hK : X.K = K := by rfl) (hg : Gl X x := by rfl)
    (hall : (backToKw pos (keywordEach kws X.env)).all (·.1.isSome) = true := by rfl) (hks : (backToKw pos (keywordEach kws X.env)).filterMap (·.1) = ks := by rfl) (hdb : (x == ("__debug__" : Str)) = false := by decide)
    (he : starEach (e :: es) X.env = (false, eval e X.env) :: starEach es X.env := by rfl) (hst : (backTo pos (starEach (e :: es) X.env)).any (·.1) = true := by rfl) :
    PD X K Ex (.Call (.Name x p) (e :: es) kws pos) (tMakeC C ks.length (toSp K S) Ex t tk) (uMakeCF C ks.length S u uk) := by
  subst hK
  exact ⟨pe_makeCS M F g hr hg hm tkx ha.pe hkw.pe hall hks hdb he hst, sim_makeCF ha.sim hkw.sim⟩
end
/-! #### o + x by an own method that may raise -/
structure AddI (K : PySem.W.Frag) (C f : Addr) : Prop where
  sf : PySem.W.selfFirst K C = true
  at_ : PySem.W.findIn K (.ref C) "__add__" = some (some (.ref f))
  fn : PySem.W.isFn K (.ref f) = true
  rf : PySem.W.findIn K (.ref C) "__radd__" = some none
structure AddT (K : PySem.W.Frag) (C : Addr) (T : String) : Prop where
  i1 : ∃ fo, PySem.W.findIn K (.type T) "__add__" = some fo
  i2 : ∃ ro, PySem.W.findIn K (.type T) "__radd__" = some ro
  sub : PySem.W.subIn K (.type T) (.ref C) = some false
section
variable {prog : Program} {w : World} {A : Around} {E : Value → Shared → Prop} {s : Shared} {h₀ : Heap} {L x C f : Addr} {m : Str → Option Value} {K : PySem.W.Frag} {T : String} {ox : Obj} {od : Option Obj}
theorem add_binT {b : Value} {fo ro : Option Value} {Q : Value → Shared → Prop} (F : PyProof.Rows.Fr h₀ L s.heap m) (X₀ : K.In h₀) (I : PySem.W.InstAt s.heap x ox C od) (hb : PySem.W.Looks (model prog w) s.heap (typeOf b) (.type T)) (hc : PySem.W.selfFirst K C = true)
    (hs : PySem.W.findIn K (.ref C) "__add__" = some (some (.ref f))) (hf : PySem.W.isFn K (.ref f) = true) (hr : PySem.W.findIn K (.ref C) "__radd__" = some none)
    (h1 : PySem.W.findIn K (.type T) "__add__" = some fo) (h2 : PySem.W.findIn K (.type T) "__radd__" = some ro) (hsub : PySem.W.subIn K (.type T) (.ref C) = some false)
    (h : wpAny (model prog w) A (call (.ref f) [.ref x, b]) (PySem.W.CmpBack Q) E s) : wpAny (model prog w) A (binaryOp .Add (.ref x) b) Q E s := by
  have X := X₀.keeps F.keep
  obtain ⟨cd, rest, hcd, hm⟩ := PySem.W.ksp_first hc
  have one := PySem.W.ksp_try X I hs hf h
  obtain ⟨hh, g, d, tt, os⟩ := s
  have L1 : PySem.W.Looks (model prog w) hh (typeOf (.ref x)) (.ref C) := I.type
  have L2 : PySem.W.Looks (model prog w) hh (typeOf b) (.type T) := hb
  have L3 : PySem.W.Looks (model prog w) hh (fillsNumberSlot (.ref C) (Operator.info .Add).2) true := PySem.W.fills_K X hcd hm hs
  have L4 : PySem.W.Looks (model prog w) hh (fillsNumberSlot (.type T) (Operator.info .Add).2) ((fo.isSome && !isSeqSlot fo) || (ro.isSome && !isSeqSlot ro)) := PySem.W.ksp_fillsT X h1 h2
  have L5 : PySem.W.Looks (model prog w) hh (isSubtype (.type T) (.ref C)) false := PySem.W.looks_subIn X hsub
  have L6 : PySem.W.Looks (model prog w) hh (numberSlotInPython (.ref C) (Operator.info .Add).2) true := PySem.W.ksp_inPy X hs hr (.inl rfl)
  have L7 : PySem.W.Looks (model prog w) hh (numberSlotInPython (.type T) (Operator.info .Add).2) false := PySem.W.Looks.of_pure rfl
  have L8 : PySem.W.Looks (model prog w) hh (typeLookup (.type T) (dunderR (Operator.info .Add).2)) ro := PySem.W.looks_findIn X h2
  generalize ((fo.isSome && !isSeqSlot fo) || (ro.isSome && !isSeqSlot ro)) = right at L4
  have hne : (Value.ref C == Value.type T) = false := Bool.eq_false_iff.mpr fun q => by cases beq_iff_eq.mp q
  rcases hi : Operator.info .Add with ⟨sym, nm'⟩
  rw [hi] at L3 L4 L6 L7 L8
  simp only [binaryOp, hi]
  refine wpAny_holding (wpAny_bind ?_)
  unfold binaryOp1
  refine wpAny_bind (L1.at (wpAny_bind (L2.at (wpAny_bind (L3.at ?_)))))
  simp only [hne, Bool.false_eq_true, if_false]
  have hd : PySem.dunder nm' = ("__add__" : Str) := by cases hi; rfl
  rw [← hd] at one
  cases right with
  | false =>
    ksp_lk
    refine wpAny_mono one (fun r s' hr' => ?_) fun _ _ e => e
    obtain ⟨v, rfl, hq⟩ := hr'
    ksp_lk
    exact hq
  | true =>
    ksp_lk
    refine wpAny_mono one (fun r s' hr' => ?_) fun _ _ e => e
    obtain ⟨v, rfl, hq⟩ := hr'
    ksp_lk
    exact hq
end
def tAddQ (K : PySem.W.Frag) (C : Addr) (sp : Sp) (E : L2.St → XK) (ta tb : TE) : TE := fun σ H Q => ta σ H fun x H1 => tb σ H1 fun y H2 => (∃ a dx fs, x = .ref a ∧ H2 a = some (.ins C dx fs)) ∧ (∃ T, TyX K H2 y (.type T) ∧ AddT K C T) ∧ sp [x, y] H2 Q (E σ)
section
variable {X : Cx} {k : Nat} {f C : Addr} {sp : Sp} {Ex : L2.St → XK} {a b : Expr} {pos : Pos} {ta tb : TE}
theorem pe_addQ (ha : PE X a ta) (hb : PE X b tb) (G : AddI X.K C f) (F : Gd.FnG X.prog X.w X.K X.mg X.base (L2.CX X.prog X.w) k f sp) (g : Gd.Calm0 X.A) (hr : Room k X.A) (tk : Tk X Ex) : PE X (.BinOp a .Add b pos) (tAddQ X.K C sp Ex ta tb) := by
  refine ⟨fun pins s σ H Q I h => ?_⟩
  refine wpAny_BinOp (binT ha hb I h fun v u s2 x y H2 I2 rx ry q => ?_)
  obtain ⟨⟨r, dx, fs, rfl, hr1⟩, ⟨T, ty, tt⟩, hsp⟩ := q
  have ev : v = Value.ref r := rx
  have cl := wpAny_mono (run_gW (us := [v, u]) (vs := [V.ref r, y]) F g hr (tk_pass tk σ) I2 (.cons rx (.cons ry .nil)) hsp) (fun _ _ z => Vx.cmpBack_of z) fun _ _ z => z
  subst ev
  obtain ⟨mA, J, _⟩ := ins_get I2.hok hr1
  obtain ⟨od, J, _⟩ := J.look
  obtain ⟨m, hF⟩ := I2.fr
  obtain ⟨PP, KX, hP, _⟩ := L2.kit_of I2 ry ty
  obtain ⟨fo, i1⟩ := tt.i1
  obtain ⟨ro, i2⟩ := tt.i2
  exact add_binT hF I2.ok.mod.kin J (KX.ty _ _ I2.kIn hP) G.sf G.at_ G.fn G.rf i1 i2 tt.sub cl
end
def tyT : Ty → String
  | .non => "NoneType"
  | .bl => "bool"
  | .int => "int"
  | .str => "str"
  | .byt => "bytes"
  | .lst => "list"
  | .tup => "tuple"
  | .dic => "dict"
  | .own _ => ""
def uAddO (K : PySem.W.Frag) (C : Addr) (S : DSp) (ua ub : DTE) : DTE := fun ρ μ Q E => ua ρ μ (fun x μ1 => ub ρ μ1 (fun y μ2 => isC C μ2 x ∧ (∃ t, tyOf μ2 y = some t ∧ (∀ C, t ≠ .own C) ∧ AddT K C (tyT t)) ∧ S [x, y] μ2 Q (E ρ)) E) E
section
variable {K : PySem.W.Frag} {Z : Hp} {as as' as1 : List Addr} {F F' F1 H H' H1 : Hp} {Ex : L2.St → XK}
theorem sim_addO {C : Addr} {S : DSp} {ta tb : TE} {ua ub : DTE} (a : Sim K Ex ta ua) (b : Sim K Ex tb ub) : Sim K Ex (tAddQ K C (toSp K S) Ex ta tb) (uAddO K C S ua ub) := fun Z as F H σ ρ μ Q E Q' R X h k =>
  a Z as F H σ ρ μ _ E _ R X h fun v d μ1 as1 F1 H1 g1 R1 r1 h1 => b Z as1 F1 H1 σ ρ μ1 _ E _ R1 (X.up g1) h1 fun v2 d2 μ2 as2 F2 H2 g2 R2 r2 h2 => by
    obtain ⟨hc, ⟨t, ht, ho, ha⟩, hs⟩ := h2
    refine ⟨isC_at R2.mm (r1.up g2) hc, ⟨tyT t, ?_, ha⟩, ?_⟩
    · have hk : TyOk K t := by cases t <;> first | exact absurd rfl (ho _) | trivial
      have := ty_of R2.mm r2 ht hk
      cases t <;> first | exact absurd rfl (ho _) | exact this
    · exact sp_use R2 (X.up (g1.trans g2)) (.cons (r1.up g2) (.cons r2 .nil)) hs fun v d μ' as' F' H' g M r q => k v d μ' as' F' H' ((g1.trans g2).trans g) (R2.up g M) r q
end
section
variable {X : Cx} {K : PySem.W.Frag} {Ex : L2.St → XK} {k : Nat} {f C : Addr} {S : DSp} {a b : Expr} {pos : Pos} {ta tb : TE} {ua ub : DTE}
theorem d_addO (G : AddI K C f) (F : FnD X.prog X.w K X.mg X.base k f S) (g : Gd.Calm0 X.A) (hr : Room k X.A) (tk : Tk X Ex) (ha : PD X K Ex a ta ua) (hb : PD X K Ex b tb ub) (hK : X.K = K := by rfl) : PD X K Ex (.BinOp a .Add b pos) (tAddQ K C (toSp K S) Ex ta tb) (uAddO K C S ua ub) := by
  subst hK
  exact ⟨pe_addQ ha.pe hb.pe G F g hr tk, sim_addO ha.sim hb.sim⟩
end
/-- a method with a star parameter -/
structure MetS (K : PySem.W.Frag) (C : Addr) (x qual : Str) (st : Stmt) (f : Addr) (fd : FuncData) : Prop where
  m : Meth K C x f
  d : DefAt K x qual st f fd
end DX
set_option Elab.async false
set_option linter.all false
set_option maxRecDepth 100000
set_option maxHeartbeats 4000000
namespace DX
open PySem PySem.Spec PyProof.Rows L2
/-! ### what many laws want -/
theorem take_snoc {α : Type} {xs : List α} {n : Nat} {x : α} (h : xs[n]? = some x) : xs.take (n + 1) = xs.take n ++ [x] := by
  rw [List.take_succ, h]; rfl
theorem cut_to (xs : List D) (k : Nat) : dcut xs none (some (k : Int)) = xs.take k := by
  unfold dcut
  rw [HT.sIx_none, HT.sIx_nat, List.drop_zero, Nat.sub_zero]
  exact List.take_eq_take_iff.mpr (by omega)
theorem cut_from (xs : List D) (k : Nat) : dcut xs (some (k : Int)) none = xs.drop k := by
  unfold dcut
  rw [HT.sIx_none, HT.sIx_nat]
  rcases Nat.le_total k xs.length with h | h
  · rw [Nat.min_eq_left h, List.take_of_length_le (by simp)]
  · rw [Nat.min_eq_right h, List.drop_eq_nil_iff.mpr h, List.drop_eq_nil_iff.mpr (Nat.le_refl _)]; simp
theorem deqv_refl {d : D} (h : dlay d = true) : deqv d d = true := by
  obtain ⟨p, hp, hc, _⟩ := lay_toP h
  rw [← toP_eqv hp hp]
  exact SeqAt.eqv_refl _ hc
theorem deqvL_refl {ds : List D} (h : dlayL ds = true) : deqvL ds ds = true := deqv_refl (d := .lst ds) h
theorem deqvL_len : ∀ {xs ys : List D}, xs.length ≠ ys.length → deqvL xs ys = false
  | [], [], h => absurd rfl h
  | [], _ :: _, _ => rfl
  | _ :: _, [], _ => rfl
  | x :: xs, y :: ys, h => by
    show (deqv x y && deqvL xs ys) = false
    rw [deqvL_len (xs := xs) (ys := ys) fun e => h (by simp [e]), Bool.and_false]
theorem deqv_lst (xs ys : List D) : deqv (.lst xs) (.lst ys) = deqvL xs ys := by simp only [deqv]
theorem deqv_tup (xs ys : List D) : deqv (.tup xs) (.tup ys) = deqvL xs ys := by simp only [deqv]
abbrev Lay (k : Nat) (d : D) : Prop := dlay d = true ∧ ddep d ≤ k
theorem dlayL_all : ∀ {ds : List D}, (∀ d ∈ ds, dlay d = true) → dlayL ds = true
  | [], _ => rfl
  | d :: ds, h => by
    show (dlay d && dlayL ds) = true
    rw [h d List.mem_cons_self, dlayL_all fun e he => h e (List.mem_cons_of_mem _ he)]
    rfl
theorem ddepL_all {k : Nat} : ∀ {ds : List D}, (∀ d ∈ ds, ddep d ≤ k) → ddepL ds ≤ k
  | [], _ => Nat.zero_le _
  | d :: ds, h => by
    show max (ddep d) (ddepL ds) ≤ k
    exact Nat.max_le.mpr ⟨h d List.mem_cons_self, ddepL_all fun e he => h e (List.mem_cons_of_mem _ he)⟩
theorem Lay.mono {j k : Nat} {d : D} (h : Lay j d) (hj : j ≤ k) : Lay k d := ⟨h.1, Nat.le_trans h.2 hj⟩
theorem lay_lst {ds : List D} {k : Nat} (h : ∀ d ∈ ds, Lay k d) : Lay (k + 1) (.lst ds) := ⟨dlayL_all fun d hd => (h d hd).1, Nat.succ_le_succ (ddepL_all fun d hd => (h d hd).2)⟩
theorem lay_tup {ds : List D} {k : Nat} (h : ∀ d ∈ ds, Lay k d) : Lay (k + 1) (.tup ds) := ⟨dlayL_all fun d hd => (h d hd).1, Nat.succ_le_succ (ddepL_all fun d hd => (h d hd).2)⟩
theorem lay_int (i : Int) : Lay 0 (.int i) := ⟨rfl, Nat.le_refl _⟩
theorem lay_bl (b : Bool) : Lay 0 (.bl b) := ⟨rfl, Nat.le_refl _⟩
theorem lay_non : Lay 0 .non := ⟨rfl, Nat.le_refl _⟩
theorem lay_str {s : Str} (h : PyData.strOk s = true) : Lay 0 (.str s) := ⟨h, Nat.le_refl _⟩
theorem all_nil {α : Type} {P : α → Prop} : ∀ d ∈ ([] : List α), P d := fun _ h => nomatch h
theorem all_cons {α : Type} {P : α → Prop} {x : α} {xs : List α} (h : P x) (r : ∀ d ∈ xs, P d) : ∀ d ∈ x :: xs, P d := fun d hd => by
  rcases List.mem_cons.mp hd with rfl | hd
  · exact h
  · exact r d hd
theorem all_map {α β : Type} {P : β → Prop} {f : α → β} {xs : List α} (h : ∀ x ∈ xs, P (f x)) : ∀ d ∈ xs.map f, P d := fun d hd => by
  obtain ⟨x, hx, rfl⟩ := List.mem_map.mp hd
  exact h x hx
theorem all_app {α : Type} {P : α → Prop} {xs ys : List α} (h : ∀ x ∈ xs, P x) (r : ∀ d ∈ ys, P d) : ∀ d ∈ xs ++ ys, P d := fun d hd => by
  rcases List.mem_append.mp hd with hd | hd
  · exact h d hd
  · exact r d hd
theorem eqok {x y : D} (hx : Lay 60 x) (hy : Lay 60 y) : dEqOk x y = true := by
  unfold dEqOk dok
  rw [hx.1, hy.1, decide_eq_true hx.2, decide_eq_true hy.2]
  simp
theorem eqokF {x y : D} (hx : dflat x = true) (hy : dflat y = true) : dEqOk x y = true := by
  unfold dEqOk
  rw [hx, hy]; rfl
theorem inokF {x c : D} {ds : List D} (hx : dflat x = true) (hy : ds.all dflat = true) : dInOk x c ds = true := by
  unfold dInOk
  rw [hx, hy]; rfl
theorem inok {x c : D} {ds : List D} (hx : Lay 60 x) (hy : Lay 60 c) : dInOk x c ds = true := by
  unfold dInOk dok
  rw [hx.1, hy.1, decide_eq_true hx.2, decide_eq_true hy.2]
  simp
theorem b_not {b : Bool} (h : ¬ b = true) : b = false := by cases b <;> simp_all
/-- a choice by a truth value, without an instance -/
def iteB (b : Bool) (p q : Prop) : Prop := match b with
  | true => p
  | false => q
theorem ite_iteB {b : Bool} {i : Decidable (b = true)} {p q : Prop} : @ite Prop (b = true) i p q = iteB b p q := by
  cases b with
  | true => exact if_pos rfl
  | false => exact if_neg Bool.false_ne_true
theorem iteB_t {p q : Prop} : iteB true p q = p := rfl
theorem iteB_f {p q : Prop} : iteB false p q = q := rfl
theorem ifb {b : Bool} {p q : Prop} (x : b = true → p) (y : ¬ b = true → q) : iteB b p q := by
  cases b with
  | true => exact x rfl
  | false => exact y Bool.false_ne_true
/-! a comprehension that changes nothing -/
def fmI (g : Nat → D → Option D) : Nat → List D → List D
  | _, [] => []
  | n, d :: r => (g n d).toList ++ fmI g (n + 1) r
theorem fmI_len (g : Nat → D → Option D) : ∀ (n : Nat) (ds : List D), (fmI g n ds).length ≤ ds.length
  | _, [] => Nat.le_refl _
  | n, d :: r => by
    show ((g n d).toList ++ fmI g (n + 1) r).length ≤ r.length + 1
    have := fmI_len g (n + 1) r
    have h2 : (g n d).toList.length ≤ 1 := by cases g n d <;> simp
    rw [List.length_append]; omega
theorem fmI_snoc (g : Nat → D → Option D) : ∀ (n : Nat) (ds : List D) (d : D), fmI g n (ds ++ [d]) = fmI g n ds ++ (g (n + ds.length) d).toList
  | n, [], d => by simp [fmI]
  | n, e :: r, d => by
    show (g n e).toList ++ fmI g (n + 1) (r ++ [d]) = ((g n e).toList ++ fmI g (n + 1) r) ++ _
    rw [fmI_snoc g (n + 1) r d, List.append_assoc, show n + 1 + r.length = n + (e :: r).length by simp; omega]
theorem lc_pure {ug : DTG} {ut : DTT} {ue : DTE} {ρw : Rho} {chk : Mem → Prop} {fin : List D → Mem → Prop} {ds : List D} {μ : Mem} (g : Nat → D → Option D) (hl : ds.length < 1000000) (hc : chk μ)
    (hs : ∀ (n : Nat) (d : D) (acc : List D) (go : List D → Mem → Prop), ds[n]? = some d → acc.length < 1000000 → go (acc ++ (g n d).toList) μ → ug d ρw μ (fun ρ1 μ1 => ut ρ1 μ1 (fun b μ2 => if b = true then ue ρ1 μ2 (fun y μ3 => acc.length < 1000000 ∧ go (acc ++ [y]) μ3) XN else go acc μ2) XN) XN)
    (hn : fin (fmI g 0 ds) μ) : uLcGo ug ut ue ρw chk fin ds [] μ := by
  refine lc_map (fun n acc μ1 => n ≤ ds.length ∧ acc = fmI g 0 (ds.take n) ∧ μ1 = μ) ⟨Nat.zero_le _, by simp [fmI], rfl⟩ (fun n acc μ1 h => by rw [h.2.2]; exact hc) ?_ ?_
  · rintro acc μ1 ⟨_, rfl, rfl⟩
    rw [List.take_length]; exact hn
  · rintro n d acc μ1 go hd ⟨hle, rfl, rfl⟩ k
    have hlt := lt_of_at hd
    refine hs n d _ go hd ?_ (k _ _ ⟨hlt, ?_, rfl⟩)
    · have := fmI_len g 0 (ds.take n)
      rw [List.length_take] at this
      omega
    · rw [take_snoc hd, fmI_snoc, List.length_take, Nat.min_eq_left (Nat.le_of_lt hlt), Nat.zero_add]
/-- all are taken -/
theorem fmI_some (f : D → D) : ∀ (n : Nat) (ds : List D), fmI (fun _ d => some (f d)) n ds = ds.map f
  | _, [] => rfl
  | n, d :: r => by
    show [f d] ++ fmI _ (n + 1) r = _
    rw [fmI_some f (n + 1) r]; rfl
theorem fmI_congr {g h : Nat → D → Option D} : ∀ {n : Nat} {ds : List D}, (∀ i d, ds[i]? = some d → g (n + i) d = h (n + i) d) → fmI g n ds = fmI h n ds
  | _, [], _ => rfl
  | n, d :: r, e => by
    show (g n d).toList ++ fmI g (n + 1) r = (h n d).toList ++ fmI h (n + 1) r
    have h0 : g n d = h n d := e 0 d rfl
    have h1 : fmI g (n + 1) r = fmI h (n + 1) r := fmI_congr fun i d' hd => by
      have := e (i + 1) d' (by simpa using hd)
      rwa [show n + (i + 1) = n + 1 + i by omega] at this
    rw [h0, h1]
theorem fmI_ints (f : Nat → D) : ∀ (lo n k : Nat), fmI (fun i _ => some (f i)) lo (dints k n) = (List.range' lo n).map f
  | _, 0, _ => rfl
  | lo, n + 1, k => by
    show [f lo] ++ fmI _ (lo + 1) (dints ((k : Int) + 1) n) = _
    rw [show ((k : Int) + 1) = ((k + 1 : Nat) : Int) by omega, fmI_ints f (lo + 1) n (k + 1)]; rfl
/-- by numbers -/
theorem fmI_getf (g : Nat → D → Option D) (xs : List D) : fmI (fun i _ => xs[i]?.bind (g i)) 0 (dints 0 xs.length) = fmI g 0 xs := by
  have go : ∀ (ys : List D) (m : Nat), (∀ i : Nat, ys[i]? = xs[m + i]?) → fmI (fun i _ => xs[i]?.bind (g i)) m (dints m ys.length) = fmI g m ys := by
    intro ys
    induction ys with
    | nil => intro m _; rfl
    | cons y ys ih =>
      intro m hm
      show (xs[m]?.bind (g m)).toList ++ fmI _ (m + 1) (dints ((m : Int) + 1) ys.length) = (g m y).toList ++ fmI g (m + 1) ys
      rw [show ((m : Int) + 1) = ((m + 1 : Nat) : Int) by omega, ih (m + 1) fun i => by
        have := hm (i + 1)
        rw [show m + 1 + i = m + (i + 1) by omega]; simpa using this]
      rw [show xs[m]? = some y from (hm 0).symm]; rfl
  exact go xs 0 fun i => by rw [Nat.zero_add]
theorem fmI_get (xs : List D) : fmI (fun i _ => xs[i]?) 0 (dints 0 xs.length) = xs := by
  have h := fmI_getf (fun _ d => some (id d)) xs
  rw [fmI_some, List.map_id] at h
  refine Eq.trans (fmI_congr fun i d _ => ?_) h
  cases xs[0 + i]? <;> rfl
/-! a walk that looks for the first that is wrong -/
theorem for_first {ug : DTG} {ub : DTS} {chk : Mem → Prop} {De : DEnds} {E : XD} {ds : List D} {ρ : Rho} {μ : Mem} (R : Rho → Prop) (bad : Nat → D → Bool) (hR : R ρ) (hc : chk μ)
    (hn : ∀ ρ, R ρ → (∀ i d, ds[i]? = some d → bad i d = false) → De.nx ρ μ)
    (hs : ∀ (n : Nat) (d : D) (ρ : Rho) (go : Rho → Mem → Prop), ds[n]? = some d → R ρ → (∀ i e, i < n → ds[i]? = some e → bad i e = false) → (bad n d = false → ∀ ρ, R ρ → go ρ μ) → ug d ρ μ (fun ρ1 μ1 => ub { De with nx := go, ct := go, bk := De.nx } E ρ1 μ1) E) : uForGo ug ub chk De E ds ρ μ := by
  refine for_map (fun n ρ μ1 => μ1 = μ ∧ R ρ ∧ ∀ i e, i < n → ds[i]? = some e → bad i e = false) ⟨rfl, hR, fun i e h => absurd h (Nat.not_lt_zero _)⟩ (fun n ρ μ1 h => by rw [h.1]; exact hc) ?_ ?_
  · rintro ρ μ1 ⟨rfl, hr, ha⟩
    exact hn ρ hr fun i d hd => ha i d (lt_of_at hd) hd
  · rintro n d ρ μ1 go hd ⟨rfl, hr, ha⟩ k
    refine hs n d ρ go hd hr ha fun hb ρ' hr' => k _ _ ⟨rfl, hr', fun i e hi he => ?_⟩
    rcases Nat.lt_succ_iff_lt_or_eq.mp hi with z | z
    · exact ha i e z he
    · subst z; rw [hd] at he; cases he; exact hb
/-- the first place at which p holds -/
theorem find_none {ds : List D} {p : D → Bool} (h : ds.findIdx? p = none) : ∀ (i : Nat) d, ds[i]? = some d → p d = false := fun i d hd => by
  have := List.findIdx?_eq_none_iff.mp h d (List.mem_of_getElem? hd)
  exact this
theorem find_some {ds : List D} {p : D → Bool} {k : Nat} (h : ds.findIdx? p = some k) : (∃ d, ds[k]? = some d ∧ p d = true) ∧ ∀ (i : Nat) d, i < k → ds[i]? = some d → p d = false := by
  rw [List.findIdx?_eq_some_iff_getElem] at h
  obtain ⟨h1, h2, h3⟩ := h
  refine ⟨⟨ds[k], List.getElem?_eq_getElem h1, h2⟩, fun i d hi hd => ?_⟩
  obtain ⟨hl, rfl⟩ := List.getElem?_eq_some_iff.mp hd
  exact b_not (h3 i hi)
/-- the first of ds at which p holds is k -/
theorem find_at {ds : List D} {p : D → Bool} {k : Nat} {d : D} (h : ds[k]? = some d) (hp : p d = true) (hb : ∀ (i : Nat) e, i < k → ds[i]? = some e → p e = false) : ds.findIdx? p = some k := by
  rw [List.findIdx?_eq_some_iff_getElem]
  obtain ⟨hl, rfl⟩ := List.getElem?_eq_some_iff.mp h
  exact ⟨hl, hp, fun j hj => by rw [hb j _ hj (List.getElem?_eq_getElem (by omega))]; exact Bool.false_ne_true⟩
theorem find_no {ds : List D} {p : D → Bool} (h : ∀ (i : Nat) d, ds[i]? = some d → p d = false) : ds.findIdx? p = none := by
  rw [List.findIdx?_eq_none_iff]
  intro x hx
  obtain ⟨i, hi⟩ := List.getElem?_of_mem hx
  exact h i x hi
/-- flat values: their kinds -/
theorem flat_ty {μ : Mem} {d : D} (h : dflat d = true) : ∃ t, tyOf μ d = some t ∧ (∀ C, t ≠ .own C) ∧ view μ d = d := by
  cases d <;> first | (cases h; done) | exact ⟨_, rfl, (by intro C z; cases z), rfl⟩
/-- the law itself, with nothing in the memory -/
def SLaw0 : DSp := fun ds μ Q _ => μ = [] ∧ ∃ ns : List Int, ds = [.kl (ns.map .int)] ∧ ns.length ≤ 63 ∧ ∀ μ', Q (.bl true) μ'
theorem lawG0 {P : Program} {w : World} {K : PySem.W.Frag} {mg : Str → Option Value} {base : Heap} {k : Nat} {f : Addr} (h : FnD P w K mg base k f SLaw0) : Gd.FnG P w K mg base CX0 k f (spLaw K) := by
  intro A outer s H us vs Q E g hr e0 r hsp
  obtain ⟨a, ns, rfl, hS, hl, q⟩ := hsp
  refine codeAny_mono (h A outer s H us _ Q E0 g hr e0 r ⟨fun _ => none, [], H, [.kl (ns.map .int)], [], (fun d _ => d = .bl true), fun _ _ _ => False, .cons (.kl hS (rep_ints ns)) .nil, ⟨Same.refl H, rfl, List.nodup_nil, fun _ z => (nomatch z), fun k m e => by simp at e, fun _ _ z => (nomatch z)⟩,
    ⟨rfl, ns, rfl, hl, fun μ' => rfl⟩, fun v d μ' as' F' H' g M r z => ?_, fun _ _ _ _ _ _ _ _ _ _ z => z.elim⟩) fun r s' hq => ?_
  · have z : d = .bl true := z
    subst z
    cases r
    exact q H'
  · match r, hq with
    | .error e, hq =>
      obtain ⟨_, _, _, _, _, _, _, _, _, _, _, _, z⟩ := hq
      exact z.elim
    | .ok (.ret u), hq => exact hq
end DX
local macro_rules
  | `(tactic| push_cast) => `(tactic| simp (maxSteps := 4000000) only [↓DX.ite_iteB, DX.iteB_t, DX.iteB_f, DX.at_r0, DX.set_r0, DX.putD_nil, DX.putD_hd, DX.look_hd, DX.atI_nat, DX.at0, DX.at1, DX.at2, DX.at3, DX.eqok_int, DX.eqok_str, DX.eqok_bl, DX.deqv_int, DX.deqv_str, DX.deqv_bl, DX.uMakeM, DX.uMakeF, DX.uMakeSF, DX.uMakeCM, DX.uMakeCF, DX.uAddO, DX.uStar, DX.uStarT, DX.uProp, DX.uGName, DX.uGNil, DX.uGCons, DX.uGTup, DX.uGSet, DX.uAsg, DX.uDrop, DX.uRet, DX.uRetN, DX.uNext, DX.uBreak, DX.uCont, DX.uNever, DX.uSeq, DX.uIfS, DX.uCut, DX.uAug, DX.uSetF, DX.uISeq, DX.uIRng1, DX.uIRng2, DX.uFor, DX.uWhile, DX.uLc, DX.uYes, DX.uRaise, DX.uTry, DX.uXf, DX.uIsX, DX.uGet, DX.uGSetO, DX.uSMeth, DX.uIEnum, DX.uIZip, DX.uGUn, DX.uPar, DX.uVar, DX.uC, DX.uNil, DX.uCons, DX.uTup, DX.uLst, DX.uLstM, DX.uOp, DX.dI, DX.dIC, DX.dEq, DX.dNe, DX.dAdd, DX.uUn, DX.uIsN, DX.dTru, DX.uTru, DX.uTest, DX.uAndB, DX.uOrB, DX.uNotB, DX.uAnd, DX.uOr, DX.uNot, DX.uIf, DX.uChain, DX.dIx, DX.uNoPart, DX.uPart, DX.uSl, DX.dIn, DX.uFld, DX.uCB, DX.one, DX.dLen, DX.dIsB, DX.uIs, DX.dIsO, DX.dInt, DX.dList, DX.dTuple, DX.uBM, DX.dAppend, DX.dExtend, DX.dIndex, DX.uM1, DX.uCall, DX.uMeth, DX.dTwo, DX.dRep, DX.dLenO, DX.dCmpO, DX.dNeO, DX.dInO, DX.isC, DX.isIns, DX.insAt, DX.uDNew, DX.uDGet, DX.uDIn, DX.uDGet1, DX.uDPut, DX.uRev, DX.uLstRg,   List.getElem?_cons_zero, List.getElem?_cons_succ, List.getElem?_nil, List.set_cons_zero, List.set_cons_succ, List.length_cons, List.length_nil, List.length_map, List.map_cons, List.map_nil, List.cons_append, List.nil_append, List.take_succ_cons, List.take_zero, List.drop_zero, List.drop_succ_cons, List.take_nil, List.drop_nil, DX.wipeD, DX.tyIs, DX.v_non, DX.vT_non, DX.ty_non, DX.v_bl, DX.vT_bl, DX.ty_bl, DX.v_int, DX.vT_int, DX.ty_int, DX.v_str, DX.vT_str, DX.ty_str, DX.v_byt, DX.vT_byt, DX.ty_byt, DX.v_lst, DX.vT_lst, DX.ty_lst, DX.v_tup, DX.vT_tup, DX.ty_tup, DX.v_kt, DX.vT_kt, DX.ty_kt, DX.v_kl, DX.vT_kl, DX.ty_kl, DX.v_ins, DX.vT_ins, DX.ty_ins, DX.v_val, DX.vT_val, DX.ty_val, if_true, if_false, Bool.false_eq_true, reduceIte, Bool.not_true, Bool.not_false, true_and, and_true, List.isEmpty_cons, List.isEmpty_nil, Nat.reduceAdd])
  | `(tactic| push_cast [$ts,*]) => `(tactic| simp (maxSteps := 4000000) only [$ts,*, ↓DX.ite_iteB, DX.iteB_t, DX.iteB_f, DX.at_r0, DX.set_r0, DX.putD_nil, DX.putD_hd, DX.look_hd, DX.atI_nat, DX.at0, DX.at1, DX.at2, DX.at3, DX.eqok_int, DX.eqok_str, DX.eqok_bl, DX.deqv_int, DX.deqv_str, DX.deqv_bl, DX.uMakeM, DX.uMakeF, DX.uMakeSF, DX.uMakeCM, DX.uMakeCF, DX.uAddO, DX.uStar, DX.uStarT, DX.uProp, DX.uGName, DX.uGNil, DX.uGCons, DX.uGTup, DX.uGSet, DX.uAsg, DX.uDrop, DX.uRet, DX.uRetN, DX.uNext, DX.uBreak, DX.uCont, DX.uNever, DX.uSeq, DX.uIfS, DX.uCut, DX.uAug, DX.uSetF, DX.uISeq, DX.uIRng1, DX.uIRng2, DX.uFor, DX.uWhile, DX.uLc, DX.uYes, DX.uRaise, DX.uTry, DX.uXf, DX.uIsX, DX.uGet, DX.uGSetO, DX.uSMeth, DX.uIEnum, DX.uIZip, DX.uGUn, DX.uPar, DX.uVar, DX.uC, DX.uNil, DX.uCons, DX.uTup, DX.uLst, DX.uLstM, DX.uOp, DX.dI, DX.dIC, DX.dEq, DX.dNe, DX.dAdd, DX.uUn, DX.uIsN, DX.dTru, DX.uTru, DX.uTest, DX.uAndB, DX.uOrB, DX.uNotB, DX.uAnd, DX.uOr, DX.uNot, DX.uIf, DX.uChain, DX.dIx, DX.uNoPart, DX.uPart, DX.uSl, DX.dIn, DX.uFld, DX.uCB, DX.one, DX.dLen, DX.dIsB, DX.uIs, DX.dIsO, DX.dInt, DX.dList, DX.dTuple, DX.uBM, DX.dAppend, DX.dExtend, DX.dIndex, DX.uM1, DX.uCall, DX.uMeth, DX.dTwo, DX.dRep, DX.dLenO, DX.dCmpO, DX.dNeO, DX.dInO, DX.isC, DX.isIns, DX.insAt, DX.uDNew, DX.uDGet, DX.uDIn, DX.uDGet1, DX.uDPut, DX.uRev, DX.uLstRg,   List.getElem?_cons_zero, List.getElem?_cons_succ, List.getElem?_nil, List.set_cons_zero, List.set_cons_succ, List.length_cons, List.length_nil, List.length_map, List.map_cons, List.map_nil, List.cons_append, List.nil_append, List.take_succ_cons, List.take_zero, List.drop_zero, List.drop_succ_cons, List.take_nil, List.drop_nil, DX.wipeD, DX.tyIs, DX.v_non, DX.vT_non, DX.ty_non, DX.v_bl, DX.vT_bl, DX.ty_bl, DX.v_int, DX.vT_int, DX.ty_int, DX.v_str, DX.vT_str, DX.ty_str, DX.v_byt, DX.vT_byt, DX.ty_byt, DX.v_lst, DX.vT_lst, DX.ty_lst, DX.v_tup, DX.vT_tup, DX.ty_tup, DX.v_kt, DX.vT_kt, DX.ty_kt, DX.v_kl, DX.vT_kl, DX.ty_kl, DX.v_ins, DX.vT_ins, DX.ty_ins, DX.v_val, DX.vT_val, DX.ty_val, if_true, if_false, Bool.false_eq_true, reduceIte, Bool.not_true, Bool.not_false, true_and, and_true, List.isEmpty_cons, List.isEmpty_nil, Nat.reduceAdd])
set_option Elab.async false
set_option linter.all false
set_option maxRecDepth 100000
namespace Toy
open PySem PySem.Spec PyProof.Rows L2
def topS (i : Nat) : Stmt := PySem.Challenge.pw_trustedpages_k21_casts_refused.main.body.getD i (.Pass ⟨0, 0, 0, 0⟩)
abbrev s_BadCast_init : Stmt := inClass (topS 2) 0
theorem sc_BadCast_init : FnScope ["self", "at"] ["self", "at"] (defScope s_BadCast_init) := ⟨rfl, rfl, rfl, by decide +kernel, rfl, by decide +kernel, by decide +kernel⟩
abbrev s_NoStep_init : Stmt := inClass (topS 3) 0
theorem sc_NoStep_init : FnScope ["self", "at"] ["self", "at"] (defScope s_NoStep_init) := ⟨rfl, rfl, rfl, by decide +kernel, rfl, by decide +kernel, by decide +kernel⟩
abbrev s_is_whole : Stmt := topS 5
theorem sc_is_whole : FnScope ["value"] ["value"] (defScope s_is_whole) := ⟨rfl, rfl, rfl, by decide +kernel, rfl, by decide +kernel, by decide +kernel⟩
abbrev s_is_between : Stmt := topS 6
theorem sc_is_between : FnScope ["value", "low", "high"] ["value", "low", "high"] (defScope s_is_between) := ⟨rfl, rfl, rfl, by decide +kernel, rfl, by decide +kernel, by decide +kernel⟩
abbrev s_is_one_of : Stmt := topS 7
theorem sc_is_one_of : FnScope ["value", "known"] ["value", "known"] (defScope s_is_one_of) := ⟨rfl, rfl, rfl, by decide +kernel, rfl, by decide +kernel, by decide +kernel⟩
abbrev s_is_hand : Stmt := topS 12
theorem sc_is_hand : FnScope ["value", "word", "rest"] ["value"] (defScope s_is_hand) := ⟨rfl, rfl, rfl, by decide +kernel, rfl, by decide +kernel, by decide +kernel⟩
abbrev s_putters_of : Stmt := topS 13
theorem sc_putters_of : FnScope ["old", "hands", "k", "hand"] ["old", "hands"] (defScope s_putters_of) := ⟨rfl, rfl, rfl, by decide +kernel, rfl, by decide +kernel, by decide +kernel⟩
abbrev s_check_hands : Stmt := topS 14
theorem sc_check_hands : FnScope ["old", "hands", "k", "hand", "many"] ["old", "hands"] (defScope s_check_hands) := ⟨rfl, rfl, rfl, by decide +kernel, rfl, by decide +kernel, by decide +kernel⟩
abbrev s_Cast_init : Stmt := inClass (topS 15) 0
theorem sc_Cast_init : FnScope ["self", "old", "marked", "hands"] ["self", "old", "marked", "hands"] (defScope s_Cast_init) := ⟨rfl, rfl, rfl, by decide +kernel, rfl, by decide +kernel, by decide +kernel⟩
abbrev s_Cast_old : Stmt := inClass (topS 15) 1
theorem sc_Cast_old : FnScope ["self"] ["self"] (defScope s_Cast_old) := ⟨rfl, rfl, rfl, by decide +kernel, rfl, by decide +kernel, by decide +kernel⟩
abbrev s_Cast_marked : Stmt := inClass (topS 15) 2
theorem sc_Cast_marked : FnScope ["self"] ["self"] (defScope s_Cast_marked) := ⟨rfl, rfl, rfl, by decide +kernel, rfl, by decide +kernel, by decide +kernel⟩
abbrev s_Cast_rows : Stmt := inClass (topS 15) 3
theorem sc_Cast_rows : FnScope ["self"] ["self"] (defScope s_Cast_rows) := ⟨rfl, rfl, rfl, by decide +kernel, rfl, by decide +kernel, by decide +kernel⟩
abbrev s_Cast_putter : Stmt := inClass (topS 15) 4
theorem sc_Cast_putter : FnScope ["self", "row"] ["self", "row"] (defScope s_Cast_putter) := ⟨rfl, rfl, rfl, by decide +kernel, rfl, by decide +kernel, by decide +kernel⟩
abbrev s_Cast_enders : Stmt := inClass (topS 15) 5
theorem sc_Cast_enders : FnScope ["self", "row", "k", "hand"] ["self", "row"] (defScope s_Cast_enders) := ⟨rfl, rfl, rfl, by decide +kernel, rfl, by decide +kernel, by decide +kernel⟩
abbrev s_Cast_len : Stmt := inClass (topS 15) 6
theorem sc_Cast_len : FnScope ["self"] ["self"] (defScope s_Cast_len) := ⟨rfl, rfl, rfl, by decide +kernel, rfl, by decide +kernel, by decide +kernel⟩
abbrev s_Cast_iter : Stmt := inClass (topS 15) 7
theorem sc_Cast_iter : FnScope ["self"] ["self"] (defScope s_Cast_iter) := ⟨rfl, rfl, rfl, by decide +kernel, rfl, by decide +kernel, by decide +kernel⟩
abbrev s_Cast_getitem : Stmt := inClass (topS 15) 8
theorem sc_Cast_getitem : FnScope ["self", "at"] ["self", "at"] (defScope s_Cast_getitem) := ⟨rfl, rfl, rfl, by decide +kernel, rfl, by decide +kernel, by decide +kernel⟩
abbrev s_Cast_add : Stmt := inClass (topS 15) 9
theorem sc_Cast_add : FnScope ["self", "hand", "hands"] ["self", "hand"] (defScope s_Cast_add) := ⟨rfl, rfl, rfl, by decide +kernel, rfl, by decide +kernel, by decide +kernel⟩
abbrev s_Cast_eq : Stmt := inClass (topS 15) 10
theorem sc_Cast_eq : FnScope ["self", "other"] ["self", "other"] (defScope s_Cast_eq) := ⟨rfl, rfl, rfl, by decide +kernel, rfl, by decide +kernel, by decide +kernel⟩
abbrev s_law_pot : Stmt := topS 17
theorem sc_law_pot : FnScope ["script", "cell"] ["script"] (defScope s_law_pot) := ⟨rfl, rfl, rfl, by decide +kernel, rfl, by decide +kernel, by decide +kernel⟩
abbrev s_law_draw : Stmt := topS 18
theorem sc_law_draw : FnScope ["pot", "many", "cells", "at", "cell"] ["pot", "many"] (defScope s_law_draw) := ⟨rfl, rfl, rfl, by decide +kernel, rfl, by decide +kernel, by decide +kernel⟩
abbrev s_law_odd : Stmt := topS 19
theorem sc_law_odd : FnScope ["pot", "odd"] ["pot"] (defScope s_law_odd) := ⟨rfl, rfl, rfl, by decide +kernel, rfl, by decide +kernel, by decide +kernel⟩
abbrev s_law_hands : Stmt := topS 20
theorem sc_law_hands : FnScope ["pot", "old", "many", "kinds", "kind", "rows", "hands", "outcome", "row", "k"] ["pot", "old", "many"] (defScope s_law_hands) := ⟨rfl, rfl, rfl, by decide +kernel, rfl, by decide +kernel, by decide +kernel⟩
abbrev s_law_cast : Stmt := topS 21
theorem sc_law_cast : FnScope ["old", "h", "is_set"] ["old", "h", "is_set"] (defScope s_law_cast) := ⟨rfl, rfl, rfl, by decide +kernel, rfl, by decide +kernel, by decide +kernel⟩
abbrev s_law_putters : Stmt := topS 22
theorem sc_law_putters : FnScope ["old", "hands", "at"] ["old", "hands"] (defScope s_law_putters) := ⟨rfl, rfl, rfl, by decide +kernel, rfl, by decide +kernel, by decide +kernel⟩
abbrev s_law_made : Stmt := topS 23
theorem sc_law_made : FnScope ["old", "hands", "is_set", "told", "e"] ["old", "hands", "is_set"] (defScope s_law_made) := ⟨rfl, rfl, rfl, by decide +kernel, rfl, by decide +kernel, by decide +kernel⟩
abbrev s_law_is_number : Stmt := topS 24
theorem sc_law_is_number : FnScope ["value"] ["value"] (defScope s_law_is_number) := ⟨rfl, rfl, rfl, by decide +kernel, rfl, by decide +kernel, by decide +kernel⟩
abbrev s_law_has_form : Stmt := topS 25
theorem sc_law_has_form : FnScope ["hand"] ["hand"] (defScope s_law_has_form) := ⟨rfl, rfl, rfl, by decide +kernel, rfl, by decide +kernel, by decide +kernel⟩
abbrev s_law_due : Stmt := topS 26
theorem sc_law_due : FnScope ["old", "hands", "is_set", "at", "hand", "rows"] ["old", "hands", "is_set"] (defScope s_law_due) := ⟨rfl, rfl, rfl, by decide +kernel, rfl, by decide +kernel, by decide +kernel⟩
abbrev s_law_strange : Stmt := topS 27
theorem sc_law_strange : FnScope ["pot", "strange"] ["pot"] (defScope s_law_strange) := ⟨rfl, rfl, rfl, by decide +kernel, rfl, by decide +kernel, by decide +kernel⟩
abbrev s_law_asked : Stmt := topS 28
theorem sc_law_asked : FnScope ["cast", "value", "told", "way", "e"] ["cast", "value"] (defScope s_law_asked) := ⟨rfl, rfl, rfl, by decide +kernel, rfl, by decide +kernel, by decide +kernel⟩
abbrev s_law : Stmt := topS 29
theorem sc_law : FnScope ["script", "pot", "old", "hands", "is_set", "k", "odd_old", "odd_set", "values", "due", "good", "cast", "hand", "told", "e", "odd", "at"] ["script"] (defScope s_law) := ⟨rfl, rfl, rfl, by decide +kernel, rfl, by decide +kernel, by decide +kernel⟩
end Toy
set_option Elab.async false
set_option linter.all false
set_option maxRecDepth 100000
set_option maxHeartbeats 4000000
namespace Toy
open PySem PySem.Spec PyProof.Rows L2 DX
abbrev spLaw := DX.spLaw
structure Wd (P : Program) (w : World) (K : PySem.W.Frag) (mg : Str → Option Value) (base : Heap) where
  C_Cast : Addr
  c_Cast : ClsF K mg "Cast" C_Cast
  f_is_whole : Addr
  fd_is_whole : FuncData
  t_is_whole : TopF K mg "is_whole" "is_whole" s_is_whole f_is_whole fd_is_whole ["value"]
  f_is_between : Addr
  fd_is_between : FuncData
  t_is_between : TopF K mg "is_between" "is_between" s_is_between f_is_between fd_is_between ["value", "low", "high"]
  f_is_one_of : Addr
  fd_is_one_of : FuncData
  t_is_one_of : TopF K mg "is_one_of" "is_one_of" s_is_one_of f_is_one_of fd_is_one_of ["value", "known"]
  f_law_pot : Addr
  fd_law_pot : FuncData
  t_law_pot : TopF K mg "_law_pot" "_law_pot" s_law_pot f_law_pot fd_law_pot ["script"]
  f_law_draw : Addr
  fd_law_draw : FuncData
  t_law_draw : TopF K mg "_law_draw" "_law_draw" s_law_draw f_law_draw fd_law_draw ["pot", "many"]
  f_is_hand : Addr
  fd_is_hand : FuncData
  t_is_hand : TopF K mg "_is_hand" "_is_hand" s_is_hand f_is_hand fd_is_hand ["value"]
  f_putters_of : Addr
  fd_putters_of : FuncData
  t_putters_of : TopF K mg "_putters_of" "_putters_of" s_putters_of f_putters_of fd_putters_of ["old", "hands"]
  f_check_hands : Addr
  fd_check_hands : FuncData
  t_check_hands : TopF K mg "_check_hands" "_check_hands" s_check_hands f_check_hands fd_check_hands ["old", "hands"]
  f_Cast_init : Addr
  fd_Cast_init : FuncData
  t_Cast_init : MetS K C_Cast "__init__" "Cast.__init__" s_Cast_init f_Cast_init fd_Cast_init
  f_Cast_len : Addr
  fd_Cast_len : FuncData
  t_Cast_len : MetF K C_Cast "__len__" "Cast.__len__" s_Cast_len f_Cast_len fd_Cast_len ["self"]
  f_Cast_putter : Addr
  fd_Cast_putter : FuncData
  t_Cast_putter : MetF K C_Cast "putter" "Cast.putter" s_Cast_putter f_Cast_putter fd_Cast_putter ["self", "row"]
  f_Cast_getitem : Addr
  fd_Cast_getitem : FuncData
  t_Cast_getitem : MetF K C_Cast "__getitem__" "Cast.__getitem__" s_Cast_getitem f_Cast_getitem fd_Cast_getitem ["self", "at"]
  f_Cast_enders : Addr
  fd_Cast_enders : FuncData
  t_Cast_enders : MetF K C_Cast "enders" "Cast.enders" s_Cast_enders f_Cast_enders fd_Cast_enders ["self", "row"]
  f_Cast_add : Addr
  fd_Cast_add : FuncData
  t_Cast_add : MetF K C_Cast "__add__" "Cast.__add__" s_Cast_add f_Cast_add fd_Cast_add ["self", "hand"]
  f_law_hands : Addr
  fd_law_hands : FuncData
  t_law_hands : TopF K mg "_law_hands" "_law_hands" s_law_hands f_law_hands fd_law_hands ["pot", "old", "many"]
  f_law_cast : Addr
  fd_law_cast : FuncData
  t_law_cast : TopF K mg "_law_cast" "_law_cast" s_law_cast f_law_cast fd_law_cast ["old", "h", "is_set"]
  f_law_putters : Addr
  fd_law_putters : FuncData
  t_law_putters : TopF K mg "_law_putters" "_law_putters" s_law_putters f_law_putters fd_law_putters ["old", "hands"]
  f_law_odd : Addr
  fd_law_odd : FuncData
  t_law_odd : TopF K mg "_law_odd" "_law_odd" s_law_odd f_law_odd fd_law_odd ["pot"]
  f_law_strange : Addr
  fd_law_strange : FuncData
  t_law_strange : TopF K mg "_law_strange" "_law_strange" s_law_strange f_law_strange fd_law_strange ["pot"]
  f_law_is_number : Addr
  fd_law_is_number : FuncData
  t_law_is_number : TopF K mg "_law_is_number" "_law_is_number" s_law_is_number f_law_is_number fd_law_is_number ["value"]
  f_law_has_form : Addr
  fd_law_has_form : FuncData
  t_law_has_form : TopF K mg "_law_has_form" "_law_has_form" s_law_has_form f_law_has_form fd_law_has_form ["hand"]
  f_law_made : Addr
  fd_law_made : FuncData
  t_law_made : TopF K mg "_law_made" "_law_made" s_law_made f_law_made fd_law_made ["old", "hands", "is_set"]
  f_law_due : Addr
  fd_law_due : FuncData
  t_law_due : TopF K mg "_law_due" "_law_due" s_law_due f_law_due fd_law_due ["old", "hands", "is_set"]
  f_law_asked : Addr
  fd_law_asked : FuncData
  t_law_asked : TopF K mg "_law_asked" "_law_asked" s_law_asked f_law_asked fd_law_asked ["cast", "value"]
  f_law : Addr
  fd_law : FuncData
  t_law : TopF K mg "law" "law" s_law f_law fd_law ["script"]
  ad_Cast : AddI K C_Cast f_Cast_add
  n_Cast_hands : NoAttr K C_Cast "_hands"
  n_Cast_marked : NoAttr K C_Cast "_marked"
  n_Cast_old : NoAttr K C_Cast "_old"
  n_Cast_putters : NoAttr K C_Cast "_putters"
  gi_Cast : GetI K C_Cast f_Cast_getitem
  g_MOST_HANDS : GlobC K mg "MOST_HANDS" (V.int 5) (D.int 5)
  g_MOST_OLD : GlobC K mg "MOST_OLD" (V.int 2) (D.int 2)
  T_OUTCOMES : Addr
  g_OUTCOMES : GlobC K mg "OUTCOMES" (V.ref T_OUTCOMES) (D.kt [.str (Str.ofString "done"), .str (Str.ofString "gone")])
  z_ValueError : mg "ValueError" = none
  z_bool : mg "bool" = none
  z_enumerate : mg "enumerate" = none
  z_int : mg "int" = none
  z_isinstance : mg "isinstance" = none
  z_len : mg "len" = none
  z_max : mg "max" = none
  z_range : mg "range" = none
  z_repr : mg "repr" = none
  z_str : mg "str" = none
  z_tuple : mg "tuple" = none
  k_Cast_init_marked : BindS P w K fd_Cast_init ["self", "old"] ["marked"] ["marked"] "hands" []
  ln_Cast : LenI K C_Cast f_Cast_len
  mk_Cast : Mk K C_Cast f_Cast_init
  X_BadCast : Addr
  fi_BadCast : Addr
  fdi_BadCast : FuncData
  e_BadCast : ErrD P w K mg base "BadCast" "at" X_BadCast fi_BadCast fdi_BadCast
  xm_BadCast : PySem.W.exmOne K (.ref X_BadCast) (.ref X_BadCast) = some true
  xf_BadCast : XfC K X_BadCast
  xx_BadCast : Vx.ExcX K X_BadCast
  A_PagesError : Addr
  m_PagesError : mg "PagesError" = some (.ref A_PagesError)
  A_NoStep : Addr
  m_NoStep : mg "NoStep" = some (.ref A_NoStep)
  k1 : PySem.W.kitOne K (.ref X_BadCast) (.ref A_PagesError) = some true
  k2 : PySem.W.kitOne K (.ref X_BadCast) (.type "ValueError") = some true
  k3 : PySem.W.kitOne K (.ref X_BadCast) (.ref A_NoStep) = some false
  at_NoneType : AddT K C_Cast "NoneType"
  at_int : AddT K C_Cast "int"
  at_str : AddT K C_Cast "str"
  at_list : AddT K C_Cast "list"
  at_tuple : AddT K C_Cast "tuple"

section
variable {P : Program} {w : World} {K : PySem.W.Frag} {mg : Str → Option Value} {base : Heap}
variable (W : Wd P w K mg base)

def wholeF (x : D) : Bool := match x with
  | .int _ => true
  | _ => false
def S_is_whole (_ : Wd P w K mg base) : DSp := fun ds μ Q _ => match ds with
  | [x] => (∃ t, tyOf μ x = some t ∧ ∀ C, t ≠ .own C) ∧ Q (.bl (wholeF x)) μ
  | _ => False
theorem ty_whole {μ : Mem} {x : D} {t : Ty} (h : tyOf μ x = some t) (ho : ∀ C, t ≠ .own C) : wholeF x = (tyIs t .int && !tyIs t .bl) := by
  cases x <;> first | (cases h; done) | (cases h; rfl) | (cases h; exact absurd rfl (ho _)) | skip
  · have h : (match μ[(_ : Nat)]? with | some (DX.M.lst _) => some Ty.lst | some (.ins C _) => some (.own C) | some (.dic _) => some .dic | none => none) = some t := h
    split at h <;> first | (cases h; done) | (cases h; rfl) | (cases h; exact absurd rfl (ho _)) | cases h

theorem ok_is_whole (W : Wd P w K mg base) : FnD P w K mg base 2 W.f_is_whole (S_is_whole W) := by
  refine (okB W.t_is_whole.d sc_is_whole (by (intro ds μ Q E h; unfold S_is_whole at h; split at h <;> first | rfl | exact h.elim)) _ (fun cdv A outer s H E' g hr => ⟨_, (b_one (s_ret (d_and (d_isB .int (by intro _ z; cases z) rfl W.z_isinstance W.z_int (d_var 0)) (d_one (d_not (d_isB .bl (by intro _ z; cases z) rfl W.z_isinstance W.z_bool (d_var 0)))))))⟩) (fun ds μ Q E h => ?_)).fn0 W.t_is_whole.b
  unfold S_is_whole at h
  split at h
  · rename_i x
    obtain ⟨⟨t, ht, ho⟩, q⟩ := h
    rw [show startD ["value"] [x] = [some x] from rfl]
    rw [ty_whole ht ho] at q
    push_cast
    rw [ht]
    cases t <;> first | exact absurd rfl (ho _) | exact .inl q
  · exact h.elim

def betF (x : D) (lo hi : Int) : Bool := match x with
  | .int i => decide (lo ≤ i) && decide (i ≤ hi)
  | _ => false
def S_is_between (_ : Wd P w K mg base) : DSp := fun ds μ Q _ => match ds with
  | [x, .int lo, .int hi] => (∃ t, tyOf μ x = some t ∧ ∀ C, t ≠ .own C) ∧ Q (.bl (betF x lo hi)) μ
  | _ => False

theorem ok_is_between (W : Wd P w K mg base) : FnD P w K mg base 3 W.f_is_between (S_is_between W) := by
  refine (okB W.t_is_between.d sc_is_between (by (intro ds μ Q E h; unfold S_is_between at h; split at h <;> first | rfl | exact h.elim)) _ (fun cdv A outer s H E' g hr => ⟨_, (b_one (s_ret (d_and (d_call (ok_is_whole W) W.t_is_whole.a W.t_is_whole.d.kp g hr (takes_of rfl rfl rfl rfl) (a_cons (d_var 0) a_nil)) (d_one (d_chain op_le sim_le op_le sim_le (d_var 1) (d_var 0) (d_var 2))))))⟩) (fun ds μ Q E h => ?_)).fn0 W.t_is_between.b
  unfold S_is_between at h
  split at h
  · rename_i x lo hi
    obtain ⟨ht, q⟩ := h
    rw [show startD ["value", "low", "high"] [x, .int lo, .int hi] = [some x, some (.int lo), some (.int hi)] from rfl]
    push_cast [S_is_whole]
    refine ⟨ht, ?_⟩
    cases x with
    | int i =>
      push_cast [show wholeF (.int i) = true from rfl]
      by_cases h1 : lo ≤ i
      · rw [decide_eq_true h1]
        push_cast
        simp only [betF, h1, decide_true, Bool.true_and] at q
        exact .inl q
      · rw [decide_eq_false h1]
        push_cast
        simp only [betF, h1, decide_false, Bool.false_and] at q
        exact .inl q
    | _ => exact .inl q
  · exact h.elim

def oneF (x : D) (ws : List Str) : Bool := match x with
  | .str s => ws.any fun e => e == s
  | _ => false
def S_is_one_of (_ : Wd P w K mg base) : DSp := fun ds μ Q _ => match ds with
  | [x, .kt ys] => ∃ ws : List Str, ys = ws.map .str ∧ (∃ t, tyOf μ x = some t ∧ ∀ C, t ≠ .own C) ∧ Q (.bl (oneF x ws)) μ
  | _ => False
theorem oneF_no {μ : Mem} {x : D} {ws : List Str} {t : Ty} (h : tyOf μ x = some t) (hs : tyIs t .str = false) : oneF x ws = false := by
  cases x <;> first | rfl | (cases h; done) | (cases h; cases hs)
theorem ty_strv {μ : Mem} {x : D} {t : Ty} (h : tyOf μ x = some t) (hs : tyIs t .str = true) (ho : ∀ C, t ≠ .own C) : ∃ s, x = .str s := by
  cases x <;> first | exact ⟨_, rfl⟩ | (cases h; done) | (cases h; first | (cases hs; done) | exact absurd rfl (ho _)) | skip
  · have h : (match μ[(_ : Nat)]? with | some (DX.M.lst _) => some Ty.lst | some (.ins C _) => some (.own C) | some (.dic _) => some .dic | none => none) = some t := h
    split at h <;> first | (cases h; done) | (cases h; first | (cases hs; done) | exact absurd rfl (ho _)) | cases h

theorem ok_is_one_of (W : Wd P w K mg base) : FnD P w K mg base 2 W.f_is_one_of (S_is_one_of W) := by
  refine (okB W.t_is_one_of.d sc_is_one_of (by (intro ds μ Q E h; unfold S_is_one_of at h; split at h <;> first | rfl | exact h.elim)) _ (fun cdv A outer s H E' g hr => ⟨_, (b_one (s_ret (d_and (d_isB .str (by intro _ z; cases z) rfl W.z_isinstance W.z_str (d_var 0)) (d_one (d_cmp (op_inA hr.units rfl) (sim_in false) (d_var 0) (d_var 1) (by rfl))))))⟩) (fun ds μ Q E h => ?_)).fn0 W.t_is_one_of.b
  unfold S_is_one_of at h
  split at h
  · rename_i x ys
    obtain ⟨ws, rfl, ⟨t, ht, ho⟩, q⟩ := h
    rw [show startD ["value", "known"] [x, .kt (ws.map .str)] = [some x, some (.kt (ws.map .str))] from rfl]
    push_cast
    rw [ht]
    cases e : tyIs t .str with
    | false =>
      rw [oneF_no ht e] at q
      cases t <;> first | exact absurd rfl (ho _) | (cases e; done) | exact .inl q
    | true =>
      obtain ⟨s, rfl⟩ := ty_strv ht e ho
      cases ht
      push_cast
      refine ⟨inokF rfl ?_, .inl ?_⟩
      · rw [List.all_map]; exact List.all_eq_true.mpr fun _ _ => rfl
      · rw [show ((ws.map D.str).any fun e => deqv e (.str s)) = oneF (.str s) ws by rw [List.any_map]; rfl]
        exact q
  · exact h.elim

end
end Toy
set_option Elab.async false
set_option linter.all false
set_option maxRecDepth 100000
set_option maxHeartbeats 4000000
namespace Toy
open PySem PySem.Spec PyProof.Rows L2 DX
section
variable {P : Program} {w : World} {K : PySem.W.Frag} {mg : Str → Option Value} {base : Heap}
/-- the draws' pot: the cells, and where they are -/
structure PotHd (c p : DX.M) : Prop where
  ex : ∃ (ns : List Int) (at_ : Nat) (sd : Int), c = .lst (ns.map .int) ∧ p = .lst [.ob 0, .int at_, .int sd] ∧ ns.length ≤ 63 ∧ at_ ≤ 63 ∧ 0 ≤ sd ∧ sd < 2147483647
theorem pot_stays {c0 p0 c p : DX.M} {l m : Mem} (h : PotHd c p) : stays (c0 :: p0 :: l).length (c0 :: p0 :: l) (c :: p :: (l ++ m)) := by
  refine ⟨by simp, fun k x hk hx => ?_⟩
  obtain ⟨ns, at_, sd, rfl, rfl, _⟩ := h
  match k, hk, hx with
  | 0, _, hx =>
    cases hx
    exact .inr (cldL_all (all_map fun i _ => rfl))
  | 1, _, hx => cases hx; exact .inr (by simp [cldM, cldL, cld])
  | k + 2, hk, hx =>
    have hk : k < l.length := by simp at hk; omega
    have hx : (l ++ m)[k]? = some x := hx
    rw [at_l hk] at hx
    exact .inl hx
/-- the end of a def that draws -/
theorem fz_pot {c0 p0 c p : DX.M} {l m : Mem} {Q : D → Mem → Prop} {d : D} (h : PotHd c p) (hc : cld (l.length + 1 + 1) (fz (c :: p :: (l ++ m)) (l.length + 1 + 1) 6 d) = true) (q : Q (fz (c :: p :: (l ++ m)) (l.length + 1 + 1) 6 d) (c :: p :: l)) : FZ (c0 :: p0 :: l) Q d (c :: p :: (l ++ m)) := by
  refine .inr ⟨pot_stays h, hc, ?_⟩
  have e : (c :: p :: (l ++ m)).take (c0 :: p0 :: l).length = c :: p :: l := by
    show (c :: p :: (l ++ m)).take (l.length + 2) = _
    rw [List.take_succ_cons, List.take_succ_cons, take_n rfl]
  rw [e]; exact q
theorem fz_pot0 {c0 p0 c p : DX.M} {l : Mem} {Q : D → Mem → Prop} {d : D} (q : Q d (c :: p :: l)) : FZ (c0 :: p0 :: l) Q d (c :: p :: l) := .inl q
theorem pick {xs : List D} {d n : Nat} (h : (d : Int) < n) (hn : xs.length = n) : ∃ x, xs[d]? = some x ∧ x ∈ xs := ⟨xs[d]'(by omega), List.getElem?_eq_getElem (by omega), List.getElem_mem (by omega)⟩

def S_law_pot (W : Wd P w K mg base) : DSp := fun ds μ Q E => match ds with
  | [sc] => ∃ ns : List Int, sc = .kl (ns.map .int) ∧ ns.length ≤ 63 ∧ μ = [] ∧ ∀ c p, PotHd c p → Q (.ob 1) [c, p]
  | _ => False

theorem ok_law_pot (W : Wd P w K mg base) : FnD P w K mg base 2 W.f_law_pot (S_law_pot W) := by
  refine (okB W.t_law_pot.d sc_law_pot (by (intro ds μ Q E h; unfold S_law_pot at h; split at h <;> first | rfl | exact h.elim)) _ (fun cdv A outer s H E' g hr => ⟨_, (b_one (s_ret (d_lstM (a_cons (d_lc true [("cell", 1)] sc_law_pot.nd (i_seq (d_sl false (d_var 0) o_none (o_some d_int))) (blkOk_by (own := [("cell", 1)]) (N := ["script", "cell"]) (sc := defScope s_law_pot) (by decide +kernel)) (fun _ _ _ _ _ => (g_name 1 sc_law_pot.nd)) (fun _ _ _ _ _ => ts_nil) (fun _ _ _ _ _ => (d_callTy call_int1 sim_int W.z_int (a_cons (d_var 1) a_nil))) (wip_name (by decide)) mono_name) (a_cons d_int (a_cons d_int a_nil))))))⟩) (fun ds μ Q E h => ?_)).fn0 W.t_law_pot.b
  unfold S_law_pot at h
  split at h
  · rename_i sc
    obtain ⟨ns, rfl, hn, rfl, q⟩ := h
    rw [show startD ["script", "cell"] [.kl (ns.map .int)] = [some (.kl (ns.map .int)), none] from rfl]
    push_cast
    rw [show dcut (ns.map D.int) none (some 63) = ns.map D.int by rw [show (63 : Int) = ((63 : Nat) : Int) from rfl, cut_to, List.take_of_length_le (by rw [List.length_map]; exact hn)]]
    refine lc_pure (fun _ d => some d) (by rw [List.length_map]; omega) (by first | trivial | rfl) ?_ ?_
    · intro n d acc go hd hl k
      rw [List.getElem?_map] at hd
      obtain ⟨i, hi, rfl⟩ := Option.map_eq_some_iff.mp hd
      push_cast
      exact ⟨hl, k⟩
    · rw [show (fun (_ : Nat) (d : D) => some d) = fun _ d => some (id d) from rfl, fmI_some, List.map_id]
      push_cast
      exact ⟨by decide, .inl (q _ _ ⟨ns, 0, 7, rfl, rfl, hn, by decide, by decide, by decide⟩)⟩
  · exact h.elim

end
end Toy
set_option Elab.async false
set_option linter.all false
set_option maxRecDepth 100000
set_option maxHeartbeats 4000000
namespace Toy
open PySem PySem.Spec PyProof.Rows L2 DX
section
variable {P : Program} {w : World} {K : PySem.W.Frag} {mg : Str → Option Value} {base : Heap}
def S_law_draw (W : Wd P w K mg base) : DSp := fun ds μ Q E => match ds, μ with
  | [.ob 1, .int m], c :: p :: l => PotHd c p ∧ 0 < m ∧ m < 1000000 ∧ ∀ (d : Nat) c' p', (d : Int) < m → PotHd c' p' → Q (.int d) (c' :: p' :: l)
  | _, _ => False

theorem ok_law_draw (W : Wd P w K mg base) : FnD P w K mg base 2 W.f_law_draw (S_law_draw W) := by
  refine (okB W.t_law_draw.d sc_law_draw (by (intro ds μ Q E h; unfold S_law_draw at h; split at h <;> first | rfl | exact h.elim)) _ (fun cdv A outer s H E' g hr => ⟨_, (b_cons (s_set 2 sc_law_draw.nd (d_ix (d_var 0) d_int))
      (b_cons (s_set 3 sc_law_draw.nd (d_ix (d_var 0) d_int))
      (b_cons (s_set 4 sc_law_draw.nd d_int)
      (b_cons (s_if (t_cmp op_lt sim_lt (d_var 3) (d_callB (call_lenA rfl) sim_len W.z_len (a_cons (d_var 2) a_nil)) (nomark _)) (b_cons (s_set 4 sc_law_draw.nd (d_ix (d_var 2) (d_var 3)))
      (b_cons (s_if (t_cmp op_ge sim_ge (d_var 4) (d_op op_pow sim_pow d_int d_int) (nomark _)) (b_cons (s_asg (d_op op_fdivW sim_fdivW (d_var 4) (d_var 1)) (g_set (d_var 2) (d_var 3)))
      (b_one (s_ret (d_op op_mod sim_mod (d_callTy call_int1 sim_int W.z_int (a_cons (d_var 4) a_nil)) (d_var 1))))) b_nil)
      (b_one (s_asg (d_op (op_addA rfl) sim_add (d_var 3) d_int) (g_set (d_var 0) d_int))))) b_nil)
      (b_cons (s_asg (d_op op_mod sim_mod (d_callTy call_int1 sim_int W.z_int (a_cons (d_op (op_addA rfl) sim_add (d_op (op_addA rfl) sim_add (d_op op_mul sim_mul (d_ix (d_var 0) d_int) d_int) (d_op op_mul sim_mul (d_var 4) d_int)) d_int) a_nil)) d_int) (g_set (d_var 0) d_int))
      (b_one (s_ret (d_op op_mod sim_mod (d_callTy call_int1 sim_int W.z_int (a_cons (d_op (op_addA rfl) sim_add (d_op op_fdivW sim_fdivW (d_op op_mul sim_mul (d_ix (d_var 0) d_int) d_int) d_int) (d_ix (d_var 0) d_int)) a_nil)) (d_var 1)))))))))⟩) (fun ds μ Q E h => ?_)).fn0 W.t_law_draw.b
  unfold S_law_draw at h
  split at h
  · rename_i m c p l
    obtain ⟨⟨ns, at_, sd, rfl, rfl, hn, ha, hs0, hs1⟩, hm0, hm1, q⟩ := h
    rw [show startD ["pot", "many", "cells", "at", "cell"] [.ob 1, .int m] = [some (.ob 1), some (.int m), none, none, none] from rfl]
    have lg : m.natAbs.log2 < 9000 := (Nat.log2_lt (by omega)).mpr (Nat.lt_of_lt_of_le (by omega : m.natAbs < 2 ^ 20) (Nat.pow_le_pow_right (by decide) (by decide)))
    have vb : ∀ (c p : DX.M) (l : Mem) (xs : List D), p = .lst xs → view (c :: p :: l) (.ob 1) = .lst xs := fun c p l xs e => v_obL (by rw [e]; rfl)
    have va : ∀ (c p : DX.M) (l : Mem) (xs : List D), c = .lst xs → view (c :: p :: l) (.ob 0) = .lst xs := fun c p l xs e => v_obL (by rw [e]; rfl)
    have c1 : ∀ x : Int, CMul x 48271 := fun x => .inr ⟨by decide, by decide⟩
    have c2 : ∀ x : Int, CMul x 69621 := fun x => .inr ⟨by decide, by decide⟩
    have c3 : ∀ x : Int, CMul x 16807 := fun x => .inr ⟨by decide, by decide⟩
    have c4 : ∀ x : Int, CDivW x 128 := fun x => ⟨by decide, by decide⟩
    have c5 : ∀ x : Int, CDivW x m := fun x => ⟨hm0, lg⟩
    have i0 : ixN 3 0 = some 0 := rfl
    have i1 : ixN 3 1 = some 1 := rfl
    have i2 : ixN 3 2 = some 2 := rfl
    have tail : ∀ (cell : Int) (at' : Nat), at' ≤ 63 → ∀ (o : DTS), o = uSeq (uAsg (uOp (dIC (fun x j => 0 < j) fun i j => D.int (i % j)) (uCB dInt (uCons (uOp dAdd (uOp dAdd (uOp (dIC CMul fun i j => D.int (i * j)) (uOp dIx (uVar 0) (uC (D.int 2))) (uC (D.int 48271))) (uOp (dIC CMul fun i j => D.int (i * j)) (uVar 4) (uC (D.int 69621)))) (uC (D.int 11))) uNil)) (uC (D.int 2147483647))) (uGSet (uVar 0) (uC (D.int 2))))
            (uRet (uOp (dIC (fun x j => 0 < j) fun i j => D.int (i % j)) (uCB dInt (uCons (uOp dAdd (uOp (dIC CDivW fun i j => D.int (i / j)) (uOp (dIC CMul fun i j => D.int (i * j)) (uOp dIx (uVar 0) (uC (D.int 2))) (uC (D.int 16807))) (uC (D.int 128))) (uOp dIx (uVar 0) (uC (D.int 2)))) uNil)) (uVar 1))) →
        o { nx := fun x μ' => FZ (M.lst (List.map D.int ns) :: M.lst [D.ob 0, D.int ↑at_, D.int sd] :: l) Q D.non μ', rt := FZ (M.lst (List.map D.int ns) :: M.lst [D.ob 0, D.int ↑at_, D.int sd] :: l) Q } (FZE (M.lst (List.map D.int ns) :: M.lst [D.ob 0, D.int ↑at_, D.int sd] :: l) E)
          [some (D.ob 1), some (D.int m), some (.ob 0), some (.int at_), some (.int cell)] (M.lst (List.map D.int ns) :: M.lst [D.ob 0, D.int at', D.int sd] :: l) := by
      rintro cell at' ha' o rfl
      push_cast [vb _ _ _ _ rfl, c1, c2, c3, c4, i2]
      have p0 : (0 : Int) < 2147483647 := by decide
      refine ⟨p0, hm0, .inl ?_⟩
      generalize hx : (sd * 48271 + cell * 69621 + 11) % 2147483647 = x
      have x0 : 0 ≤ x := by rw [← hx]; exact Int.emod_nonneg _ (by decide)
      have x1 : x < 2147483647 := by rw [← hx]; exact Int.emod_lt_of_pos _ (by decide)
      obtain ⟨k, hk⟩ := Int.eq_ofNat_of_zero_le (Int.emod_nonneg (x * 16807 / 128 + x) (show m ≠ 0 by omega))
      have hk2 := Int.emod_lt_of_pos (x * 16807 / 128 + x) hm0
      rw [hk] at hk2 ⊢
      exact q k _ _ hk2 ⟨ns, at', x, rfl, rfl, hn, ha', x0, x1⟩
    refine seq_step fun nx hnx => ?_
    push_cast [vb _ _ _ _ rfl]
    refine hnx _ _ ?_
    clear hnx nx
    refine seq_step fun nx hnx => ?_
    push_cast [vb _ _ _ _ rfl]
    refine hnx _ _ ?_
    clear hnx nx
    refine seq_step fun nx hnx => ?_
    push_cast
    refine hnx _ _ ?_
    clear hnx nx
    refine seq_step fun nx hnx => ?_
    have hnx : ∀ (cell : Int) (at' : Nat), at' ≤ 63 → nx [some (.ob 1), some (.int m), some (.ob 0), some (.int at_), some (.int cell)] (M.lst (List.map D.int ns) :: M.lst [D.ob 0, D.int at', D.int sd] :: l) := fun cell at' h => hnx _ _ (tail cell at' h _ rfl)
    clear tail
    push_cast [va _ _ _ _ rfl]
    refine ifb (fun hlt => ?_) (fun hlt => hnx 0 at_ ha)
    have hlt : at_ < ns.length := by have := of_decide_eq_true hlt; omega
    have hcell : ns[at_]? = some ns[at_] := List.getElem?_eq_getElem hlt
    push_cast [va _ _ _ _ rfl, List.getElem?_map, hcell, Option.map_some]
    generalize ns[at_] = cell
    refine ⟨by unfold CPow; decide, ifb (fun hb => ?_) (fun hb => ?_)⟩
    · rw [ixN_nat hlt]
      push_cast
      obtain ⟨k, hk⟩ := Int.eq_ofNat_of_zero_le (Int.emod_nonneg cell (show m ≠ 0 by omega))
      have hk2 := Int.emod_lt_of_pos cell hm0
      rw [hk] at hk2 ⊢
      refine ⟨c5 _, hm0, .inl ?_⟩
      rw [show (ns.map D.int).set at_ (D.int (cell / m)) = (ns.set at_ (cell / m)).map D.int from (List.map_set).symm]
      exact q k _ _ hk2 ⟨ns.set at_ (cell / m), at_, sd, rfl, rfl, by rw [List.length_set]; exact hn, ha, hs0, hs1⟩
    · rw [i1]
      push_cast
      exact hnx cell (at_ + 1) (by omega)
  · exact h.elim

end
end Toy
set_option Elab.async false
set_option linter.all false
set_option maxRecDepth 100000
set_option maxHeartbeats 4000000
namespace Toy
open PySem PySem.Spec PyProof.Rows L2 DX
section
variable {P : Program} {w : World} {K : PySem.W.Frag} {mg : Str → Option Value} {base : Heap}
/-- frozen data, no own object -/
def plainD : D → Bool
  | .ob _ => false
  | .ins _ _ => false
  | .exc _ _ _ _ => false
  | .val _ => false
  | _ => true
theorem ty_plain {μ : Mem} {d : D} (h : plainD d = true) : ∃ t, tyOf μ d = some t ∧ ∀ C, t ≠ .own C := by
  cases d <;> first | (cases h; done) | exact ⟨_, rfl, by intro C z; cases z⟩
/-- values that a hand may be asked of -/
def HDom (x : D) : Prop := match x with
  | .non => True
  | .bl _ => True
  | .int _ => True
  | .str _ => True
  | .lst _ => True
  | .tup ds => ds.length ≤ 100 ∧ ds.all dflat = true
  | _ => False
def sPut : Str := Str.ofString "put"
def sEnd : Str := Str.ofString "end"
def sClean : Str := Str.ofString "clean"
def sRead : Str := Str.ofString "read"
def outW : List Str := [Str.ofString "done", Str.ofString "gone"]
def isWd (w : D) (s : Str) : Bool := deqv w (.str s)
/-- a tuple of the form of a hand -/
def isHandF (x : D) : Bool := match x with
  | .tup (w :: rest) => if isWd w sPut then (rest.length == 1 && oneF (rest.getD 0 .non) outW)
    else if isWd w sEnd then (rest.length == 2 && (wholeF (rest.getD 0 .non) && oneF (rest.getD 1 .non) outW))
    else if isWd w sClean then rest.length == 0
    else (isWd w sRead && (rest.length == 1 && wholeF (rest.getD 0 .non)))
  | _ => false

def S_is_hand (W : Wd P w K mg base) : DSp := fun ds μ Q E => match ds with
  | [x] => HDom x ∧ Q (.bl (isHandF x)) μ
  | _ => False
theorem nat_beq (a b : Nat) : ((a : Int) == (b : Int)) = (a == b) := by
  by_cases h : a = b
  · subst h; rw [beq_self_eq_true, beq_self_eq_true]
  · rw [beq_eq_false_iff_ne.mpr h, beq_eq_false_iff_ne.mpr (by omega)]
theorem ty_flat {μ : Mem} {d : D} (h : dflat d = true) : ∃ t, tyOf μ d = some t ∧ ∀ C, t ≠ .own C := by
  obtain ⟨t, h1, h2, _⟩ := flat_ty (μ := μ) h
  exact ⟨t, h1, h2⟩

theorem ok_is_hand (W : Wd P w K mg base) : FnD P w K mg base 3 W.f_is_hand (S_is_hand W) := by
  refine (okB W.t_is_hand.d sc_is_hand (by (intro ds μ Q E h; unfold S_is_hand at h; split at h <;> first | rfl | exact h.elim)) _ (fun cdv A outer s H E' g hr => ⟨_, (b_cons (s_if (WD.td (w_or (t_not (t_tru (d_isB .tup (by intro _ z; cases z) rfl W.z_isinstance W.z_tuple (d_var 0)))) (w_or1 (t_cmp (op_eqA hr.units rfl) sim_eq (d_callB (call_lenA rfl) sim_len W.z_len (a_cons (d_var 0) a_nil)) d_int (nomark _))))) (b_one (s_ret d_bl)) b_nil)
      (b_cons (s_asg (d_var 0) (g_starT 2 1 (gs_cons (g_name 1 sc_is_hand.nd) (gs_star (g_name 2 sc_is_hand.nd) gs_nil))))
      (b_cons (s_if (t_cmp (op_eqA hr.units rfl) sim_eq (d_var 1) d_str (nomark _)) (b_one (s_ret (d_and (d_cmp (op_eqA hr.units rfl) sim_eq (d_callB (call_lenA rfl) sim_len W.z_len (a_cons (d_var 2) a_nil)) d_int (nomark _)) (d_one (d_call (ok_is_one_of W) W.t_is_one_of.a W.t_is_one_of.d.kp g hr (takes_of rfl rfl rfl rfl) (a_cons (d_ix (d_var 2) d_int) (a_cons (d_glob W.g_OUTCOMES.m W.g_OUTCOMES.r W.g_OUTCOMES.p) a_nil))))))) b_nil)
      (b_cons (s_if (t_cmp (op_eqA hr.units rfl) sim_eq (d_var 1) d_str (nomark _)) (b_one (s_ret (d_and (d_cmp (op_eqA hr.units rfl) sim_eq (d_callB (call_lenA rfl) sim_len W.z_len (a_cons (d_var 2) a_nil)) d_int (nomark _)) (d_and (d_call (ok_is_whole W) W.t_is_whole.a W.t_is_whole.d.kp g hr (takes_of rfl rfl rfl rfl) (a_cons (d_ix (d_var 2) d_int) a_nil)) (d_one (d_call (ok_is_one_of W) W.t_is_one_of.a W.t_is_one_of.d.kp g hr (takes_of rfl rfl rfl rfl) (a_cons (d_ix (d_var 2) d_int) (a_cons (d_glob W.g_OUTCOMES.m W.g_OUTCOMES.r W.g_OUTCOMES.p) a_nil)))))))) b_nil)
      (b_cons (s_if (t_cmp (op_eqA hr.units rfl) sim_eq (d_var 1) d_str (nomark _)) (b_one (s_ret (d_cmp (op_eqA hr.units rfl) sim_eq (d_callB (call_lenA rfl) sim_len W.z_len (a_cons (d_var 2) a_nil)) d_int (nomark _)))) b_nil)
      (b_one (s_ret (d_and (d_cmp (op_eqA hr.units rfl) sim_eq (d_var 1) d_str (nomark _)) (d_and (d_cmp (op_eqA hr.units rfl) sim_eq (d_callB (call_lenA rfl) sim_len W.z_len (a_cons (d_var 2) a_nil)) d_int (nomark _)) (d_one (d_call (ok_is_whole W) W.t_is_whole.a W.t_is_whole.d.kp g hr (takes_of rfl rfl rfl rfl) (a_cons (d_ix (d_var 2) d_int) a_nil))))))))))))⟩) (fun ds μ Q E h => ?_)).fn0 W.t_is_hand.b
  unfold S_is_hand at h
  split at h
  · rename_i x
    obtain ⟨hx, q⟩ := h
    rw [show startD ["value", "word", "rest"] [x] = [some x, none, none] from rfl]
    cases x with
    | tup ds =>
      obtain ⟨hl, hf⟩ := hx
      have hl16 : ds.length ≤ 1000 := by omega
      cases ds with
      | nil =>
        push_cast
        exact .inl q
      | cons w rest =>
        have hl' : rest.length + 1 ≤ 100 := hl
        have hw : dflat w = true := by simp at hf; exact hf.1
        have hr : rest.all dflat = true := by simp at hf; simpa using hf.2
        have vw : ∀ μ : Mem, view μ w = w := fun μ => by obtain ⟨_, _, _, e⟩ := flat_ty (μ := μ) hw; exact e
        have ew : ∀ s : Str, dEqOk w (.str s) = true := fun s => eqokF hw rfl
        refine seq_step fun nx hnx => ?_
        push_cast
        have z : ((((rest.length + 1 : Nat) : Int)) == 0) = false := beq_eq_false_iff_ne.mpr (by omega)
        push_cast [z]
        refine hnx _ _ ?_
        clear hnx nx
        refine seq_step fun nx hnx => ?_
        push_cast
        have hcut : rest.take (rest.length + 1 + 1 - 2) = rest := List.take_of_length_le (by omega)
        have hdrop : rest.drop (rest.length + 1 + 1 - 2) = [] := List.drop_eq_nil_iff.mpr (by omega)
        push_cast [hcut, hdrop]
        refine ⟨⟨by decide, by omega, by omega⟩, hnx _ _ ?_⟩
        clear hnx nx hcut hdrop z
        have e1 : ∀ (n : Nat) (k : Nat), ((n : Int) == (k : Int)) = (n == k) := nat_beq
        have len1 : ∀ k : Nat, (rest.length == k) = true → rest.length = k := fun k h => by simpa using h
        have fl : ∀ (i : Nat) d, rest[i]? = some d → dflat d = true := fun i d hd => List.all_eq_true.mp hr d (List.mem_of_getElem? hd)
        have gd : ∀ (i : Nat) d, rest[i]? = some d → rest.getD i .non = d := fun i d hd => by rw [List.getD_eq_getElem?_getD, hd]; rfl
        refine seq_step fun nx hnx => ?_
        push_cast [vw]
        refine ⟨ew _, ifb (fun h1 => ?_) (fun h1 => hnx _ _ ?_)⟩
        · clear hnx nx
          have hq : isHandF (.tup (w :: rest)) = (rest.length == 1 && oneF (rest.getD 0 .non) outW) := if_pos h1
          rw [hq] at q
          rw [show (1 : Int) = ((1 : Nat) : Int) from rfl, e1]
          refine ifb (fun h2 => ?_) (fun h2 => ?_)
          · obtain ⟨a, ha⟩ : ∃ a, rest[0]? = some a := ⟨_, List.getElem?_eq_getElem (by have := len1 1 h2; omega)⟩
            push_cast [ha, S_is_one_of]
            rw [h2, gd 0 a ha] at q
            exact ⟨outW, rfl, ty_flat (fl 0 a ha), .inl q⟩
          · rw [b_not h2] at q ⊢
            exact .inl q
        · clear hnx nx
          refine seq_step fun nx hnx => ?_
          push_cast [vw]
          refine ⟨ew _, ifb (fun h1' => ?_) (fun h1' => hnx _ _ ?_)⟩
          · clear hnx nx
            have hq : isHandF (.tup (w :: rest)) = (rest.length == 2 && (wholeF (rest.getD 0 .non) && oneF (rest.getD 1 .non) outW)) := (if_neg h1).trans (if_pos h1')
            rw [hq] at q
            rw [show (2 : Int) = ((2 : Nat) : Int) from rfl, e1]
            refine ifb (fun h2 => ?_) (fun h2 => ?_)
            · obtain ⟨a, ha⟩ : ∃ a, rest[0]? = some a := ⟨_, List.getElem?_eq_getElem (by have := len1 2 h2; omega)⟩
              obtain ⟨b, hb⟩ : ∃ b, rest[1]? = some b := ⟨_, List.getElem?_eq_getElem (by have := len1 2 h2; omega)⟩
              push_cast [ha, hb, S_is_one_of, S_is_whole]
              rw [h2, gd 0 a ha, gd 1 b hb] at q
              refine ⟨ty_flat (fl 0 a ha), ifb (fun h3 => ?_) (fun h3 => ?_)⟩
              · rw [h3] at q
                exact ⟨outW, rfl, ty_flat (fl 1 b hb), .inl q⟩
              · rw [b_not h3] at q ⊢
                exact .inl q
            · rw [b_not h2] at q ⊢
              exact .inl q
          · clear hnx nx
            refine seq_step fun nx hnx => ?_
            push_cast [vw]
            refine ⟨ew _, ifb (fun h2' => ?_) (fun h2' => hnx _ _ ?_)⟩
            · clear hnx nx
              have hq : isHandF (.tup (w :: rest)) = (rest.length == 0) := (if_neg h1).trans ((if_neg h1').trans (if_pos h2'))
              rw [hq] at q
              rw [show (0 : Int) = ((0 : Nat) : Int) from rfl, e1]
              exact .inl q
            · clear hnx nx
              have hq : isHandF (.tup (w :: rest)) = (isWd w sRead && (rest.length == 1 && wholeF (rest.getD 0 .non))) := (if_neg h1).trans ((if_neg h1').trans (if_neg h2'))
              rw [hq] at q
              push_cast [vw]
              refine ⟨ew _, ifb (fun h3 => ?_) (fun h3 => ?_)⟩
              · have h3 : isWd w sRead = true := h3
                rw [h3] at q
                rw [show (1 : Int) = ((1 : Nat) : Int) from rfl, e1]
                refine ifb (fun h4 => ?_) (fun h4 => ?_)
                · obtain ⟨a, ha⟩ : ∃ a, rest[0]? = some a := ⟨_, List.getElem?_eq_getElem (by have := len1 1 h4; omega)⟩
                  push_cast [ha, S_is_whole]
                  rw [h4, gd 0 a ha] at q
                  exact ⟨ty_flat (fl 0 a ha), .inl q⟩
                · rw [b_not h4] at q ⊢
                  exact .inl q
              · have h3 : isWd w sRead = false := b_not h3
                have h3' : deqv w (.str (Str.ofString "read")) = false := h3
                rw [h3] at q
                rw [h3']
                exact .inl q
    | _ => first | exact hx.elim | (push_cast; exact .inl q)
  · exact h.elim

end
end Toy
set_option Elab.async false
set_option linter.all false
set_option maxRecDepth 100000
set_option maxHeartbeats 4000000
namespace Toy
open PySem PySem.Spec PyProof.Rows L2 DX
section
variable {P : Program} {w : World} {K : PySem.W.Frag} {mg : Str → Option Value} {base : Heap}
theorem isWd_comm {w : D} (h : dflat w = true) (s : Str) : deqv (.str s) w = isWd w s := by
  cases w with
  | str a =>
    show (s == a) = (a == s)
    by_cases e : s = a
    · subst e; rfl
    · rw [beq_eq_false_iff_ne.mpr e, beq_eq_false_iff_ne.mpr (Ne.symm e)]
  | non => rfl
  | bl _ => rfl
  | int _ => rfl
  | _ => cases h
theorem hand_shape {x : D} (h : isHandF x = true) : ∃ w rest, x = .tup (w :: rest) := by
  unfold isHandF at h
  split at h
  · exact ⟨_, _, rfl⟩
  · cases h
theorem hand_flat {w : D} {rest : List D} (h : HDom (.tup (w :: rest))) : dflat w = true ∧ (∀ d ∈ rest, dflat d = true) ∧ rest.length ≤ 99 := by
  obtain ⟨h1, h2⟩ := h
  have h1 : rest.length + 1 ≤ 100 := h1
  have h3 := List.all_eq_true.mp h2
  exact ⟨h3 w List.mem_cons_self, fun d hd => h3 d (List.mem_cons_of_mem _ hd), by omega⟩
def isPutF (x : D) : Bool := match x with
  | .tup (w :: _) => isWd w sPut
  | _ => false
def puttersN (n : Nat) (xs : List D) : List D := List.replicate n .non ++ fmI (fun k d => if isPutF d = true then some (.int k) else none) 0 xs
theorem rep_flat {α : Type} (n : Nat) (x : α) : (List.replicate n [x]).flatten = List.replicate n x := by
  induction n with
  | zero => rfl
  | succ n _ => simp

def S_putters_of (W : Wd P w K mg base) : DSp := fun ds μ Q E => match ds with
  | [.int i, .tup xs] => ∃ n : Nat, i = n ∧ n ≤ 1000 ∧ xs.length ≤ 1000 ∧ (∀ x ∈ xs, isHandF x = true ∧ HDom x) ∧ Q (.lst (puttersN n xs)) μ
  | _ => False

theorem ok_putters_of (W : Wd P w K mg base) : FnD P w K mg base 2 W.f_putters_of (S_putters_of W) := by
  refine (okB W.t_putters_of.d sc_putters_of (by (intro ds μ Q E h; unfold S_putters_of at h; split at h <;> first | rfl | exact h.elim)) _ (fun cdv A outer s H E' g hr => ⟨_, (b_one (s_ret (d_op (op_addA rfl) sim_add (d_op op_rep (sim_rep false) (d_lst (a_cons d_non a_nil)) (d_var 0)) (d_lc false [("k", 2), ("hand", 3)] sc_putters_of.nd (i_enum W.z_enumerate (a_cons (d_var 1) a_nil)) (blkOk_by (own := [("k", 2), ("hand", 3)]) (N := ["old", "hands", "k", "hand"]) (sc := defScope s_putters_of) (by decide +kernel)) (fun _ _ _ _ _ => (g_tup 2 (gs_cons (g_name 2 sc_putters_of.nd) (gs_cons (g_name 3 sc_putters_of.nd) gs_nil)))) (fun _ _ _ _ _ => (ts_one (t_cmp (op_eqA hr.units rfl) sim_eq (d_ix (d_var 3) d_int) d_str (nomark _)))) (fun _ _ _ _ _ => (d_var 2)) (wip_tup (wip_cons mono_name (mono_cons mono_name mono_nil) (wip_name (by decide)) (wip_cons mono_name mono_nil (wip_name (by decide)) wip_nil))) (mono_tup (mono_cons mono_name (mono_cons mono_name mono_nil)))))))⟩) (fun ds μ Q E h => ?_)).fn0 W.t_putters_of.b
  unfold S_putters_of at h
  split at h
  · rename_i i xs
    obtain ⟨n, rfl, hn, hl, ha, q⟩ := h
    rw [show startD ["old", "hands", "k", "hand"] [.int (n : Nat), .tup xs] = [some (.int (n : Nat)), some (.tup xs), none, none] from rfl]
    push_cast
    have z : n ≤ sizeLine := Nat.le_trans hn (by decide)
    have z2 : (1 : Nat) * (n : Int).toNat ≤ sizeLine := by rw [Int.toNat_natCast, Nat.one_mul]; exact z
    refine ⟨by decide, ⟨by omega, by omega, z2⟩, ?_⟩
    refine lc_pure (fun _ e => match e with | .tup [.int k, d] => if isPutF d = true then some (.int k) else none | _ => none) (by rw [denum_len]; omega) (by first | trivial | rfl) ?_ ?_
    · intro k e acc go he hacc kk
      obtain ⟨x, hx, rfl⟩ := denum_get he
      obtain ⟨hh, hd⟩ := ha x (List.mem_of_getElem? hx)
      obtain ⟨w, rest, rfl⟩ := hand_shape hh
      obtain ⟨fw, _, _⟩ := hand_flat hd
      obtain ⟨_, _, _, vw⟩ := flat_ty (μ := μ) fw
      push_cast [vw]
      refine ⟨eqokF fw rfl, ifb (fun h1 => ?_) (fun h1 => ?_)⟩
      · have h1 : isPutF (.tup (w :: rest)) = true := h1
        simp only [h1, if_true] at kk
        exact ⟨hacc, kk⟩
      · have h1 : isPutF (.tup (w :: rest)) = false := b_not h1
        simp only [h1, Bool.false_eq_true, if_false, Option.toList_none, List.append_nil] at kk
        exact kk
    · have e1 : ∀ (m : Nat) (ys : List D), fmI (fun _ e => match e with | .tup [.int k, d] => if isPutF d = true then some (.int k) else none | _ => none) m (denum m ys) = fmI (fun k d => if isPutF d = true then some (.int (k : Nat)) else none) m ys := by
        intro m ys
        induction ys generalizing m with
        | nil => rfl
        | cons y ys ih =>
          show _ ++ fmI _ (m + 1) (denum (m + 1) ys) = _ ++ fmI _ (m + 1) ys
          rw [ih (m + 1)]
      rw [e1]
      have l1 := fmI_len (fun k d => if isPutF d = true then some (.int (k : Nat)) else none) 0 xs
      rw [rep_flat, Int.toNat_natCast, List.length_replicate]
      exact ⟨Nat.le_trans (show _ ≤ 2000 by omega) (by decide), .inl q⟩
  · exact h.elim

end
end Toy
set_option Elab.async false
set_option linter.all false
set_option maxRecDepth 100000
set_option maxHeartbeats 4000000
namespace Toy
open PySem PySem.Spec PyProof.Rows L2 DX
section
variable {P : Program} {w : World} {K : PySem.W.Frag} {mg : Str → Option Value} {base : Heap}
/-- the row that a hand ends or reads -/
def rowF (x : D) : Option D := match x with
  | .tup (w :: r :: _) => if (isWd w sEnd || isWd w sRead) = true then some r else none
  | _ => none
def badRowF (many : Nat) (x : D) : Bool := match rowF x with
  | some r => !betF r 0 ((many : Int) - 1)
  | none => false
/-- the hand that a cast is refused for -/
def dueH (n : Nat) (xs : List D) : Option Nat := match xs.findIdx? (fun x => !isHandF x) with
  | some k => some k
  | none => match xs.findIdx? (badRowF (puttersN n xs).length) with
    | some k => some k
    | none => if 5 < xs.length then some 5 else none
theorem dueH_form {n : Nat} {xs : List D} (h : ∀ (i : Nat) d, xs[i]? = some d → isHandF d = true) : dueH n xs = match xs.findIdx? (badRowF (puttersN n xs).length) with
    | some k => some k
    | none => if 5 < xs.length then some 5 else none := by
  unfold dueH
  rw [find_no fun i d hd => by rw [h i d hd]; rfl]
/-- the second part of a hand with a row -/
theorem hand_row {w : D} {rest : List D} (h : isHandF (.tup (w :: rest)) = true) (hw : (isWd w sEnd || isWd w sRead) = true) : ∃ r more, rest = r :: more := by
  cases rest with
  | cons r more => exact ⟨r, more, rfl⟩
  | nil =>
    exfalso
    have h : (if isWd w sPut then (([] : List D).length == 1 && oneF (([] : List D).getD 0 .non) outW) else if isWd w sEnd then (([] : List D).length == 2 && (wholeF (([] : List D).getD 0 .non) && oneF (([] : List D).getD 1 .non) outW)) else if isWd w sClean then ([] : List D).length == 0 else (isWd w sRead && (([] : List D).length == 1 && wholeF (([] : List D).getD 0 .non)))) = true := h
    cases hp : isWd w sPut with
    | true => rw [hp] at h; cases h
    | false =>
      cases he : isWd w sEnd with
      | true => rw [hp, he] at h; cases h
      | false =>
        cases hc : isWd w sClean with
        | true =>
          rw [he, Bool.false_or] at hw
          cases w with
          | str a =>
            have h1 : (a == sClean) = true := hc
            have h2 : (a == sRead) = true := hw
            have h3 := eq_of_beq h1
            rw [h3] at h2
            exact absurd h2 (by decide)
          | _ => cases hw
        | false => rw [hp, he, hc] at h; simp at h

def S_check_hands (W : Wd P w K mg base) : DSp := fun ds μ Q E => match ds with
  | [.int i, .tup xs] => ∃ n : Nat, i = n ∧ n ≤ 1000 ∧ xs.length ≤ 1000 ∧ (∀ x ∈ xs, HDom x) ∧ (∀ k, dueH n xs = some k → E W.X_BadCast [("at", .int k)] μ) ∧ (dueH n xs = none → Q .non μ)
  | _ => False

theorem ok_check_hands (W : Wd P w K mg base) : FnD P w K mg base 4 W.f_check_hands (S_check_hands W) := by
  refine (okB W.t_check_hands.d sc_check_hands (by (intro ds μ Q E h; unfold S_check_hands at h; split at h <;> first | rfl | exact h.elim)) _ (fun cdv A outer s H E' g hr => ⟨_, (b_cons (s_for (passes_of rfl) (i_enum W.z_enumerate (a_cons (d_var 1) a_nil)) (g_un 2 (gs_cons (g_name 2 sc_check_hands.nd) (gs_cons (g_name 3 sc_check_hands.nd) gs_nil)))
      (b_one (s_if (t_not (t_tru (d_call (ok_is_hand W) W.t_is_hand.a W.t_is_hand.d.kp g hr (takes_of rfl rfl rfl rfl) (a_cons (d_var 3) a_nil)))) (b_one (s_raise W.e_BadCast (hr.mono (by decide)) (takes_of rfl rfl rfl rfl) (a_cons (d_var 2) a_nil))) b_nil)))
      (b_cons (s_set 4 sc_check_hands.nd (d_callB (call_lenA rfl) sim_len W.z_len (a_cons (d_call (ok_putters_of W) W.t_putters_of.a W.t_putters_of.d.kp g (hr.mono (by decide)) (takes_of rfl rfl rfl rfl) (a_cons (d_var 0) (a_cons (d_var 1) a_nil))) a_nil)))
      (b_cons (s_for (passes_of rfl) (i_enum W.z_enumerate (a_cons (d_var 1) a_nil)) (g_un 2 (gs_cons (g_name 2 sc_check_hands.nd) (gs_cons (g_name 3 sc_check_hands.nd) gs_nil)))
      (b_one (s_if (WD.td (w_and (t_cmp (op_inA hr.units rfl) (sim_in false) (d_ix (d_var 3) d_int) (d_tup (a_cons d_str (a_cons d_str a_nil))) (by rfl)) (w_and1 (t_not (t_tru (d_call (ok_is_between W) W.t_is_between.a W.t_is_between.d.kp g hr (takes_of rfl rfl rfl rfl) (a_cons (d_ix (d_var 3) d_int) (a_cons d_int (a_cons (d_op op_sub sim_sub (d_var 4) d_int) a_nil))))))))) (b_one (s_raise W.e_BadCast (hr.mono (by decide)) (takes_of rfl rfl rfl rfl) (a_cons (d_var 2) a_nil))) b_nil)))
      (b_one (s_if (t_cmp op_gt sim_gt (d_callB (call_lenA rfl) sim_len W.z_len (a_cons (d_var 1) a_nil)) (d_glob W.g_MOST_HANDS.m W.g_MOST_HANDS.r W.g_MOST_HANDS.p) (nomark _)) (b_one (s_raise W.e_BadCast (hr.mono (by decide)) (takes_of rfl rfl rfl rfl) (a_cons (d_glob W.g_MOST_HANDS.m W.g_MOST_HANDS.r W.g_MOST_HANDS.p) a_nil))) b_nil)))))⟩) (fun ds μ Q E h => ?_)).fn0 W.t_check_hands.b
  unfold S_check_hands at h
  split at h
  · rename_i i xs
    obtain ⟨n, rfl, hn, hl, ha, qe, q⟩ := h
    rw [show startD ["old", "hands", "k", "hand", "many"] [.int (n : Nat), .tup xs] = [some (.int (n : Nat)), some (.tup xs), none, none, none] from rfl]
    refine seq_step fun nx hnx => ?_
    push_cast
    refine for_first (fun ρ => ∃ o2 o3, ρ = [some (.int (n : Nat)), some (.tup xs), o2, o3, none]) (fun i e => match e with | .tup [_, d] => !isHandF d | _ => false) ⟨_, _, rfl⟩ (by first | trivial | rfl) ?_ ?_
    rotate_left
    · rintro k e ρ go he ⟨o2, o3, rfl⟩ hb kk
      obtain ⟨x, hx, rfl⟩ := denum_get he
      rw [Nat.zero_add]
      push_cast [S_is_hand]
      refine ⟨ha x (List.mem_of_getElem? hx), ifb (fun h1 => ?_) (fun h1 => ?_)⟩
      · have hk : dueH n xs = some k := by
          unfold dueH
          rw [find_at hx h1 fun i d hi hd => ?_]
          have hlt := lt_of_at hx
          obtain ⟨e', he'⟩ : ∃ e', (denum 0 xs)[i]? = some e' := ⟨_, List.getElem?_eq_getElem (by rw [denum_len]; omega)⟩
          have := hb i e' hi he'
          obtain ⟨y, hy, rfl⟩ := denum_get he'
          rw [hd] at hy
          cases hy
          exact this
        exact .inl (qe k hk)
      · exact kk (b_not h1) _ ⟨_, _, rfl⟩
    · rintro ρ ⟨o2, o3, rfl⟩ hb
      have hh : ∀ (i : Nat) d, xs[i]? = some d → isHandF d = true := fun i d hd => by
        have hlt := lt_of_at hd
        obtain ⟨e', he'⟩ : ∃ e', (denum 0 xs)[i]? = some e' := ⟨_, List.getElem?_eq_getElem (by rw [denum_len]; omega)⟩
        have := hb i e' he'
        obtain ⟨y, hy, rfl⟩ := denum_get he'
        rw [hd] at hy
        cases hy
        have this : (!isHandF d) = false := this
        simpa using this
      clear hb
      refine hnx _ _ ?_
      clear hnx nx
      rw [dueH_form hh] at q
      have qe : ∀ k, (match xs.findIdx? (badRowF (puttersN n xs).length) with
        | some k => some k
        | none => if 5 < xs.length then some 5 else none) = some k → E W.X_BadCast [("at", .int k)] μ := fun k hk => qe k (by rw [dueH_form hh]; exact hk)
      have ha2 : ∀ x ∈ xs, isHandF x = true ∧ HDom x := fun x hx => by
        obtain ⟨i, hi⟩ := List.getElem?_of_mem hx
        exact ⟨hh i x hi, ha x hx⟩
      refine seq_step fun nx hnx => ?_
      push_cast [S_putters_of]
      refine ⟨n, rfl, hn, hl, ha2, hnx _ _ ?_⟩
      clear hnx nx
      generalize (puttersN n xs).length = many at q qe
      refine seq_step fun nx hnx => ?_
      push_cast
      refine for_first (fun ρ => ∃ o2 o3, ρ = [some (.int (n : Nat)), some (.tup xs), o2, o3, some (.int (many : Nat))]) (fun i e => match e with | .tup [_, d] => badRowF many d | _ => false) ⟨_, _, rfl⟩ (by first | trivial | rfl) ?_ ?_
      · rintro ρ ⟨o2', o3', rfl⟩ hb
        refine hnx _ _ ?_
        clear hnx nx
        have hno : xs.findIdx? (badRowF many) = none := find_no fun i d hd => by
          have hlt := lt_of_at hd
          obtain ⟨e', he'⟩ : ∃ e', (denum 0 xs)[i]? = some e' := ⟨_, List.getElem?_eq_getElem (by rw [denum_len]; omega)⟩
          have := hb i e' he'
          obtain ⟨y, hy, rfl⟩ := denum_get he'
          rw [hd] at hy
          cases hy
          exact this
        rw [hno] at q qe
        push_cast
        refine ifb (fun h1 => .inl ?_) (fun h1 => .inl (q ?_))
        · exact qe 5 (if_pos (by have := of_decide_eq_true h1; omega))
        · exact if_neg (by have := of_decide_eq_false (b_not h1); omega)
      · rintro k e ρ go he ⟨o2', o3', rfl⟩ hb kk
        obtain ⟨x, hx, rfl⟩ := denum_get he
        rw [Nat.zero_add]
        obtain ⟨w, rest, rfl⟩ := hand_shape (hh k x hx)
        obtain ⟨fw, fr, _⟩ := hand_flat (ha _ (List.mem_of_getElem? hx))
        obtain ⟨_, _, _, vw⟩ := flat_ty (μ := μ) fw
        push_cast [vw]
        have hany : ([D.str (Str.ofString "end"), D.str (Str.ofString "read")].any fun e => deqv e w) = (isWd w sEnd || isWd w sRead) := by
          show (deqv (.str sEnd) w || (deqv (.str sRead) w || false)) = _
          rw [isWd_comm fw, isWd_comm fw, Bool.or_false]
        rw [hany]
        refine ⟨by decide, inokF fw rfl, ifb (fun h1 => ?_) (fun h1 => ?_)⟩
        · obtain ⟨r, more, rfl⟩ := hand_row (hh k _ hx) h1
          have hrow : badRowF many (.tup (w :: r :: more)) = !betF r 0 ((many : Int) - 1) := by
            have hrow' : rowF (.tup (w :: r :: more)) = some r := if_pos h1
            unfold badRowF
            rw [hrow']
          push_cast [S_is_between]
          refine ⟨ty_flat (fr r List.mem_cons_self), ?_⟩
          cases hb2 : betF r 0 ((many : Int) - 1) with
          | true =>
            push_cast
            exact kk (by show badRowF many _ = false; rw [hrow, hb2]; rfl) _ ⟨_, _, rfl⟩
          | false =>
            push_cast
            have hp : badRowF many (.tup (w :: r :: more)) = true := by rw [hrow, hb2]; rfl
            have hk : xs.findIdx? (badRowF many) = some k := find_at hx hp fun i d hi hd => by
              have hlt := lt_of_at hx
              obtain ⟨e', he'⟩ : ∃ e', (denum 0 xs)[i]? = some e' := ⟨_, List.getElem?_eq_getElem (by rw [denum_len]; omega)⟩
              have := hb i e' hi he'
              obtain ⟨y, hy, rfl⟩ := denum_get he'
              rw [hd] at hy
              cases hy
              exact this
            rw [hk] at qe
            exact .inl (qe k rfl)
        · have hrow : badRowF many (.tup (w :: rest)) = false := by
            unfold badRowF rowF
            split
            · rename_i r hr
              split at hr
              · rename_i hx'
                cases hx'
                rw [if_neg h1] at hr
                cases hr
              · cases hr
            · rfl
          exact kk hrow _ ⟨_, _, rfl⟩
  · exact h.elim

end
end Toy
set_option Elab.async false
set_option linter.all false
set_option maxRecDepth 100000
set_option maxHeartbeats 4000000
namespace Toy
open PySem PySem.Spec PyProof.Rows L2 DX
section
variable {P : Program} {w : World} {K : PySem.W.Frag} {mg : Str → Option Value} {base : Heap}
/-- a cast that is none: what is told -/
def dueC (o m : D) (xs : List D) : Option D := match o with
  | .int i => if 0 ≤ i ∧ i ≤ 2 then match m with
      | .bl _ => (dueH i.toNat xs).map fun k : Nat => (.int (k : Int) : D)
      | _ => some (.str "marked")
    else some (.str "old")
  | _ => some (.str "old")
def castFs (n : Nat) (b : Bool) (xs : List D) : List (Str × D) := [("_old", .int n), ("_marked", .bl b), ("_hands", .tup xs), ("_putters", .lst (puttersN n xs))]
def castD (W : Wd P w K mg base) (n : Nat) (b : Bool) (xs : List D) : D := .ins W.C_Cast (castFs n b xs)

def S_Cast_init (W : Wd P w K mg base) : DSp := fun ds μ Q E => match ds with
  | [.ob k, o, m, .tup xs] => μ[k]? = some (.ins W.C_Cast []) ∧ plainD o = true ∧ plainD m = true ∧ xs.length ≤ 1000 ∧ (∀ x ∈ xs, HDom x) ∧ (∀ e, dueC o m xs = some e → E W.X_BadCast [("at", e)] μ) ∧
    (∀ (n : Nat) b, o = .int n → m = .bl b → n ≤ 2 → dueH n xs = none → Q .non (μ.set k (.ins W.C_Cast (castFs n b xs))))
  | _ => False

theorem okk_Cast_init (W : Wd P w K mg base) {ks : List Str} {mv : List Value} {mw : List V} {md : List D} (hkp : ks.length + mw.length = 1) (rmv : Vals mw mv) (rmd : ∀ as F, RepL K as F mw md) (hb : BindS P w K W.fd_Cast_init ["self", "old"] ["marked"] ks "hands" mv) : FnC P w K mg base 5 W.f_Cast_init ks (starS 2 ks.length md (S_Cast_init W)) := by
  refine okS W.t_Cast_init.d sc_Cast_init hkp rmv rmd hb _ (fun cdv A outer s H E' g hr => ⟨_, (b_cons (s_if (t_not (t_tru (d_call (ok_is_between W) W.t_is_between.a W.t_is_between.d.kp g (hr.mono (by decide)) (takes_of rfl rfl rfl rfl) (a_cons (d_var 1) (a_cons d_int (a_cons (d_glob W.g_MOST_OLD.m W.g_MOST_OLD.r W.g_MOST_OLD.p) a_nil)))))) (b_one (s_raise W.e_BadCast (hr.mono (by decide)) (takes_of rfl rfl rfl rfl) (a_cons d_str a_nil))) b_nil)
      (b_cons (s_if (t_not (t_tru (d_isB .bl (by intro _ z; cases z) rfl W.z_isinstance W.z_bool (d_var 2)))) (b_one (s_raise W.e_BadCast (hr.mono (by decide)) (takes_of rfl rfl rfl rfl) (a_cons d_str a_nil))) b_nil)
      (b_cons (s_expr (d_call (ok_check_hands W) W.t_check_hands.a W.t_check_hands.d.kp g hr (takes_of rfl rfl rfl rfl) (a_cons (d_var 1) (a_cons (d_var 3) a_nil))))
      (b_cons (s_fld W.c_Cast.cl W.n_Cast_old (d_var 0) (d_var 1))
      (b_cons (s_fld W.c_Cast.cl W.n_Cast_marked (d_var 0) (d_var 2))
      (b_cons (s_fld W.c_Cast.cl W.n_Cast_hands (d_var 0) (d_var 3))
      (b_one (s_fld W.c_Cast.cl W.n_Cast_putters (d_var 0) (d_call (ok_putters_of W) W.t_putters_of.a W.t_putters_of.d.kp g (hr.mono (by decide)) (takes_of rfl rfl rfl rfl) (a_cons (d_var 1) (a_cons (d_var 3) a_nil)))))))))))⟩) (fun ds μ Q E h => ?_)
  unfold S_Cast_init at h
  split at h
  · rename_i k o m xs
    obtain ⟨hk, fo, fm, hl, ha, qe, q⟩ := h
    rw [show startD ["self", "old", "marked", "hands"] [.ob k, o, m, .tup xs] = [some (.ob k), some o, some m, some (.tup xs)] from rfl]
    refine seq_step fun nx hnx => ?_
    push_cast [S_is_between]
    refine ⟨ty_plain fo, ?_⟩
    cases hb : betF o 0 2 with
    | false =>
      push_cast
      refine .inl (qe _ ?_)
      cases o with
      | int i =>
        have hb : (decide (0 ≤ i) && decide (i ≤ 2)) = false := hb
        exact if_neg (by rintro ⟨h1, h2⟩; rw [decide_eq_true h1, decide_eq_true h2] at hb; cases hb)
      | _ => rfl
    | true =>
      obtain ⟨n, rfl, hn⟩ : ∃ n : Nat, o = .int n ∧ n ≤ 2 := by
        cases o with
        | int i =>
          have hb : (decide (0 ≤ i) && decide (i ≤ 2)) = true := hb
          rw [Bool.and_eq_true, decide_eq_true_iff, decide_eq_true_iff] at hb
          exact ⟨i.toNat, by rw [Int.toNat_of_nonneg hb.1], by omega⟩
        | _ => cases hb
      push_cast
      refine hnx _ _ ?_
      clear hnx nx hb
      refine seq_step fun nx hnx => ?_
      obtain ⟨t, ht, ho⟩ := ty_plain (μ := μ) fm
      by_cases hm : ∃ b, m = .bl b
      · obtain ⟨b, rfl⟩ := hm
        push_cast
        refine hnx _ _ ?_
        clear hnx nx
        have hd : dueC (.int n) (.bl b) xs = (dueH n xs).map fun k : Nat => (.int (k : Int) : D) := by
          unfold dueC
          simp only [show (0 ≤ (n : Int) ∧ (n : Int) ≤ 2) = True from eq_true ⟨by omega, by omega⟩, if_true, Int.toNat_natCast]
        rw [hd] at qe
        refine seq_step fun nx hnx => ?_
        push_cast [S_check_hands]
        refine ⟨n, rfl, by omega, hl, ha, fun k hk => .inl (qe _ (by rw [hk]; rfl)), fun hno => hnx _ _ ?_⟩
        clear hnx nx
        have q := q n b rfl rfl hn hno
        have hs : ∀ x : DX.M, (μ.set k x)[k]? = some x := fun x => List.getElem?_set_self (lt_of_at hk)
        have h2 : ∀ x ∈ xs, isHandF x = true ∧ HDom x := fun x hx => by
          refine ⟨?_, ha x hx⟩
          obtain ⟨i, hi⟩ := List.getElem?_of_mem hx
          unfold dueH at hno
          split at hno
          · cases hno
          · rename_i hf
            have := find_none hf i x hi
            simpa using this
        push_cast [hk, hs, List.set_set, S_putters_of]
        exact ⟨by decide, by decide, (by decide : (2 : Nat) < 1000), n, rfl, by omega, hl, h2, (by decide : (3 : Nat) < 1000), .inl q⟩
      · have hd : dueC (.int n) m xs = some (.str "marked") := (if_pos ⟨by omega, by omega⟩).trans (by cases m <;> first | rfl | exact absurd ⟨_, rfl⟩ hm)
        have he : tyIs t .bl = false := by cases m <;> first | (cases fm; done) | (cases ht; first | rfl | exact absurd ⟨_, rfl⟩ hm)
        push_cast [ht]
        cases t <;> first | exact absurd rfl (ho _) | (cases he; done) | (push_cast; exact .inl (qe _ hd))
  · exact h.elim

theorem ok_Cast_init_marked (W : Wd P w K mg base) : FnC P w K mg base 5 W.f_Cast_init ["marked"] (starS 2 1 [] (S_Cast_init W)) := okk_Cast_init W (mv := []) (mw := []) (md := []) rfl .nil (fun _ _ => .nil) W.k_Cast_init_marked
end
end Toy
set_option Elab.async false
set_option linter.all false
set_option maxRecDepth 100000
set_option maxHeartbeats 4000000
namespace Toy
open PySem PySem.Spec PyProof.Rows L2 DX
section
variable {P : Program} {w : World} {K : PySem.W.Frag} {mg : Str → Option Value} {base : Heap}
structure CastOk (n : Nat) (xs : List D) : Prop where
  n2 : n ≤ 2
  due : dueH n xs = none
  dom : ∀ x ∈ xs, HDom x
theorem CastOk.hand {n : Nat} {xs : List D} (c : CastOk n xs) : ∀ x ∈ xs, isHandF x = true := fun x hx => by
  obtain ⟨i, hi⟩ := List.getElem?_of_mem hx
  have h := c.due
  unfold dueH at h
  split at h
  · cases h
  · rename_i hf
    have := find_none hf i x hi
    simpa using this
theorem CastOk.len {n : Nat} {xs : List D} (c : CastOk n xs) : xs.length ≤ 5 := by
  have h := c.due
  rw [dueH_form fun i d hd => c.hand d (List.mem_of_getElem? hd)] at h
  split at h
  · cases h
  · split at h
    · cases h
    · omega
theorem putters_len (n : Nat) (xs : List D) : (puttersN n xs).length ≤ n + xs.length := by
  unfold puttersN
  have := fmI_len (fun k d => if isPutF d = true then some (.int (k : Nat)) else none) 0 xs
  rw [List.length_append, List.length_replicate]; omega

def S_Cast_len (W : Wd P w K mg base) : DSp := fun ds μ Q E => match ds with
  | [x] => ∃ n b xs, x = castD W n b xs ∧ Q (.int (xs.length : Nat)) μ
  | _ => False

theorem ok_Cast_len (W : Wd P w K mg base) : FnD P w K mg base 2 W.f_Cast_len (S_Cast_len W) := by
  refine (okB W.t_Cast_len.d sc_Cast_len (by (intro ds μ Q E h; unfold S_Cast_len at h; split at h <;> first | rfl | exact h.elim)) _ (fun cdv A outer s H E' g hr => ⟨_, (b_one (s_ret (d_callB (call_lenA rfl) sim_len W.z_len (a_cons (d_fld W.c_Cast.cl W.n_Cast_hands (d_var 0)) a_nil))))⟩) (fun ds μ Q E h => ?_)).fn0 W.t_Cast_len.b
  unfold S_Cast_len at h
  split at h
  · rename_i x
    obtain ⟨n, b, xs, rfl, q⟩ := h
    rw [show startD ["self"] [castD W n b xs] = [some (castD W n b xs)] from rfl]
    push_cast [castD, castFs]
    have e : List.lookup (Str.ofString "_hands") [(Str.ofString "_old", D.int (n : Nat)), (Str.ofString "_marked", .bl b), (Str.ofString "_hands", .tup xs), (Str.ofString "_putters", .lst (puttersN n xs))] = some (.tup xs) := rfl
    push_cast [e]
    exact .inl q
  · exact h.elim

theorem bet_nat {r : D} {n : Nat} (h : betF r 0 ((n : Int) - 1) = true) : ∃ i : Nat, r = .int i ∧ i < n := by
  cases r with
  | int i =>
    have h : (decide (0 ≤ i) && decide (i ≤ (n : Int) - 1)) = true := h
    rw [Bool.and_eq_true, decide_eq_true_iff, decide_eq_true_iff] at h
    exact ⟨i.toNat, by rw [Int.toNat_of_nonneg h.1], by omega⟩
  | _ => cases h
theorem bet_yes {i n : Nat} (h : i < n) : betF (.int i) 0 ((n : Int) - 1) = true := by
  show (decide (0 ≤ (i : Int)) && decide ((i : Int) ≤ (n : Int) - 1)) = true
  rw [decide_eq_true (by omega), decide_eq_true (by omega)]; rfl
/-- an item by its number, or the error -/
def itemS (ds : List D) (r : D) (q : D → Prop) (e : Prop) : Prop := (betF r 0 ((ds.length : Int) - 1) = false → e) ∧ ∀ (i : Nat) d, r = .int i → ds[i]? = some d → q d
def S_Cast_putter (W : Wd P w K mg base) : DSp := fun ds μ Q E => match ds with
  | [x, r] => ∃ n b xs, x = castD W n b xs ∧ plainD r = true ∧ itemS (puttersN n xs) r (fun d => Q d μ) (E W.X_BadCast [("at", r)] μ)
  | _ => False

theorem ok_Cast_putter (W : Wd P w K mg base) : FnD P w K mg base 4 W.f_Cast_putter (S_Cast_putter W) := by
  refine (okB W.t_Cast_putter.d sc_Cast_putter (by (intro ds μ Q E h; unfold S_Cast_putter at h; split at h <;> first | rfl | exact h.elim)) _ (fun cdv A outer s H E' g hr => ⟨_, (b_cons (s_if (t_not (t_tru (d_call (ok_is_between W) W.t_is_between.a W.t_is_between.d.kp g hr (takes_of rfl rfl rfl rfl) (a_cons (d_var 1) (a_cons d_int (a_cons (d_op op_sub sim_sub (d_callB (call_lenA rfl) sim_len W.z_len (a_cons (d_fld W.c_Cast.cl W.n_Cast_putters (d_var 0)) a_nil)) d_int) a_nil)))))) (b_one (s_raise W.e_BadCast (hr.mono (by decide)) (takes_of rfl rfl rfl rfl) (a_cons (d_var 1) a_nil))) b_nil)
      (b_one (s_ret (d_ix (d_fld W.c_Cast.cl W.n_Cast_putters (d_var 0)) (d_var 1)))))⟩) (fun ds μ Q E h => ?_)).fn0 W.t_Cast_putter.b
  unfold S_Cast_putter at h
  split at h
  · rename_i x r
    obtain ⟨n, b, xs, rfl, hr, he, q⟩ := h
    rw [show startD ["self", "row"] [castD W n b xs, r] = [some (castD W n b xs), some r] from rfl]
    have e : List.lookup (Str.ofString "_putters") (castFs n b xs) = some (.lst (puttersN n xs)) := rfl
    refine seq_step fun nx hnx => ?_
    push_cast [castD, e, S_is_between]
    refine ⟨ty_plain hr, ?_⟩
    cases hb : betF r 0 (((puttersN n xs).length : Int) - 1) with
    | false =>
      push_cast
      exact .inl (he hb)
    | true =>
      push_cast
      refine hnx _ _ ?_
      obtain ⟨i, rfl, hi⟩ := bet_nat hb
      have hd : (puttersN n xs)[i]? = some (puttersN n xs)[i] := List.getElem?_eq_getElem hi
      push_cast [castD, e, hd]
      exact .inl (q i _ rfl hd)
  · exact h.elim

def S_Cast_getitem (W : Wd P w K mg base) : DSp := fun ds μ Q E => match ds with
  | [x, r] => ∃ n b xs, x = castD W n b xs ∧ plainD r = true ∧ itemS xs r (fun d => Q d μ) (E W.X_BadCast [("at", r)] μ)
  | _ => False

theorem ok_Cast_getitem (W : Wd P w K mg base) : FnD P w K mg base 4 W.f_Cast_getitem (S_Cast_getitem W) := by
  refine (okB W.t_Cast_getitem.d sc_Cast_getitem (by (intro ds μ Q E h; unfold S_Cast_getitem at h; split at h <;> first | rfl | exact h.elim)) _ (fun cdv A outer s H E' g hr => ⟨_, (b_cons (s_if (t_not (t_tru (d_call (ok_is_between W) W.t_is_between.a W.t_is_between.d.kp g hr (takes_of rfl rfl rfl rfl) (a_cons (d_var 1) (a_cons d_int (a_cons (d_op op_sub sim_sub (d_callB (call_lenA rfl) sim_len W.z_len (a_cons (d_fld W.c_Cast.cl W.n_Cast_hands (d_var 0)) a_nil)) d_int) a_nil)))))) (b_one (s_raise W.e_BadCast (hr.mono (by decide)) (takes_of rfl rfl rfl rfl) (a_cons (d_var 1) a_nil))) b_nil)
      (b_one (s_ret (d_ix (d_fld W.c_Cast.cl W.n_Cast_hands (d_var 0)) (d_var 1)))))⟩) (fun ds μ Q E h => ?_)).fn0 W.t_Cast_getitem.b
  unfold S_Cast_getitem at h
  split at h
  · rename_i x r
    obtain ⟨n, b, xs, rfl, hr, he, q⟩ := h
    rw [show startD ["self", "at"] [castD W n b xs, r] = [some (castD W n b xs), some r] from rfl]
    have e : List.lookup (Str.ofString "_hands") (castFs n b xs) = some (.tup xs) := rfl
    refine seq_step fun nx hnx => ?_
    push_cast [castD, e, S_is_between]
    refine ⟨ty_plain hr, ?_⟩
    cases hb : betF r 0 ((xs.length : Int) - 1) with
    | false =>
      push_cast
      exact .inl (he hb)
    | true =>
      push_cast
      refine hnx _ _ ?_
      obtain ⟨i, rfl, hi⟩ := bet_nat hb
      have hd : xs[i]? = some xs[i] := List.getElem?_eq_getElem hi
      push_cast [castD, e, hd]
      exact .inl (q i _ rfl hd)
  · exact h.elim

end
end Toy
set_option Elab.async false
set_option linter.all false
set_option maxRecDepth 100000
set_option maxHeartbeats 4000000
namespace Toy
open PySem PySem.Spec PyProof.Rows L2 DX
section
variable {P : Program} {w : World} {K : PySem.W.Frag} {mg : Str → Option Value} {base : Heap}
def isEndF (i : Int) (d : D) : Bool := match d with
  | .tup (w :: r :: _) => isWd w sEnd && deqv r (.int i)
  | _ => false
def endersN (xs : List D) (i : Int) : List D := fmI (fun k d => if isEndF i d = true then some (.int (k : Nat)) else none) 0 xs
theorem fmI_enum (p : D → Bool) : ∀ (m : Nat) (ys : List D), fmI (fun _ e => match e with | .tup [.int k, d] => if p d = true then some (.int k) else none | _ => none) m (denum m ys) = fmI (fun k d => if p d = true then some (.int (k : Nat)) else none) m ys
  | _, [] => rfl
  | m, y :: ys => by
    show _ ++ fmI _ (m + 1) (denum (m + 1) ys) = _ ++ fmI _ (m + 1) ys
    rw [fmI_enum p (m + 1) ys]

def S_Cast_enders (W : Wd P w K mg base) : DSp := fun ds μ Q E => match ds with
  | [x, r] => ∃ n b xs, x = castD W n b xs ∧ CastOk n xs ∧ plainD r = true ∧ (betF r 0 (((puttersN n xs).length : Int) - 1) = false → E W.X_BadCast [("at", r)] μ) ∧ ∀ i : Nat, r = .int i → i < (puttersN n xs).length → Q (.ob μ.length) (μ ++ [.lst (endersN xs i)])
  | _ => False

theorem ok_Cast_enders (W : Wd P w K mg base) : FnD P w K mg base 4 W.f_Cast_enders (S_Cast_enders W) := by
  refine (okB W.t_Cast_enders.d sc_Cast_enders (by (intro ds μ Q E h; unfold S_Cast_enders at h; split at h <;> first | rfl | exact h.elim)) _ (fun cdv A outer s H E' g hr => ⟨_, (b_cons (s_if (t_not (t_tru (d_call (ok_is_between W) W.t_is_between.a W.t_is_between.d.kp g hr (takes_of rfl rfl rfl rfl) (a_cons (d_var 1) (a_cons d_int (a_cons (d_op op_sub sim_sub (d_callB (call_lenA rfl) sim_len W.z_len (a_cons (d_fld W.c_Cast.cl W.n_Cast_putters (d_var 0)) a_nil)) d_int) a_nil)))))) (b_one (s_raise W.e_BadCast (hr.mono (by decide)) (takes_of rfl rfl rfl rfl) (a_cons (d_var 1) a_nil))) b_nil)
      (b_one (s_ret (d_lc true [("k", 2), ("hand", 3)] sc_Cast_enders.nd (i_enum W.z_enumerate (a_cons (d_fld W.c_Cast.cl W.n_Cast_hands (d_var 0)) a_nil)) (blkOk_by (own := [("k", 2), ("hand", 3)]) (N := ["self", "row", "k", "hand"]) (sc := defScope s_Cast_enders) (by decide +kernel)) (fun _ _ _ _ _ => (g_tup 2 (gs_cons (g_name 2 sc_Cast_enders.nd) (gs_cons (g_name 3 sc_Cast_enders.nd) gs_nil)))) (fun _ _ _ _ _ => (ts_one (WD.td (w_and (t_cmp (op_eqA hr.units rfl) sim_eq (d_ix (d_var 3) d_int) d_str (nomark _)) (w_and1 (t_cmp (op_eqA hr.units rfl) sim_eq (d_ix (d_var 3) d_int) (d_var 1) (nomark _))))))) (fun _ _ _ _ _ => (d_var 2)) (wip_tup (wip_cons mono_name (mono_cons mono_name mono_nil) (wip_name (by decide)) (wip_cons mono_name mono_nil (wip_name (by decide)) wip_nil))) (mono_tup (mono_cons mono_name (mono_cons mono_name mono_nil)))))))⟩) (fun ds μ Q E h => ?_)).fn0 W.t_Cast_enders.b
  unfold S_Cast_enders at h
  split at h
  · rename_i x r
    obtain ⟨n, b, xs, rfl, ok, hr, he, q⟩ := h
    rw [show startD ["self", "row", "k", "hand"] [castD W n b xs, r] = [some (castD W n b xs), some r, none, none] from rfl]
    have e : List.lookup (Str.ofString "_putters") (castFs n b xs) = some (.lst (puttersN n xs)) := rfl
    have e2 : List.lookup (Str.ofString "_hands") (castFs n b xs) = some (.tup xs) := rfl
    refine seq_step fun nx hnx => ?_
    push_cast [castD, e, S_is_between]
    refine ⟨ty_plain hr, ?_⟩
    cases hb : betF r 0 (((puttersN n xs).length : Int) - 1) with
    | false =>
      push_cast
      exact .inl (he hb)
    | true =>
      push_cast
      refine hnx _ _ ?_
      clear hnx nx
      obtain ⟨i, rfl, hi⟩ := bet_nat hb
      push_cast [castD, e2]
      refine lc_pure (fun _ e => match e with | .tup [.int k, d] => if isEndF i d = true then some (.int k) else none | _ => none) (by have := ok.len; rw [denum_len]; omega) (by first | trivial | rfl) ?_ ?_
      · intro k e acc go he hacc kk
        obtain ⟨x, hx, rfl⟩ := denum_get he
        have hm := List.mem_of_getElem? hx
        have hh := ok.hand x hm
        obtain ⟨w, rest, rfl⟩ := hand_shape hh
        obtain ⟨fw, fr, _⟩ := hand_flat (ok.dom _ hm)
        obtain ⟨_, _, _, vw⟩ := flat_ty (μ := μ) fw
        push_cast [vw]
        refine ⟨eqokF fw rfl, ifb (fun h1 => ?_) (fun h1 => ?_)⟩
        · have h1 : isWd w sEnd = true := h1
          obtain ⟨a, more, rfl⟩ := hand_row hh (by rw [h1]; rfl)
          obtain ⟨_, _, _, va⟩ := flat_ty (μ := μ) (fr a List.mem_cons_self)
          have e3 : isEndF i (.tup (w :: a :: more)) = deqv a (.int i) := by
            show (isWd w sEnd && deqv a (.int i)) = _
            rw [h1, Bool.true_and]
          push_cast [va]
          refine ⟨eqokF (fr a List.mem_cons_self) rfl, ifb (fun h2 => ?_) (fun h2 => ?_)⟩
          · simp only [e3, h2, if_true] at kk
            exact ⟨hacc, kk⟩
          · simp only [e3, b_not h2, Bool.false_eq_true, if_false, Option.toList_none, List.append_nil] at kk
            exact kk
        · have h1 : isWd w sEnd = false := b_not h1
          have e3 : isEndF i (.tup (w :: rest)) = false := by
            cases rest with
            | nil => rfl
            | cons a more =>
              show (isWd w sEnd && deqv a (.int i)) = false
              rw [h1]; rfl
          simp only [e3, Bool.false_eq_true, if_false, Option.toList_none, List.append_nil] at kk
          exact kk
      · rw [fmI_enum]
        exact .inl (q i rfl hi)
  · exact h.elim

end
end Toy
set_option Elab.async false
set_option linter.all false
set_option maxRecDepth 100000
set_option maxHeartbeats 4000000
namespace Toy
open PySem PySem.Spec PyProof.Rows L2 DX
section
variable {P : Program} {w : World} {K : PySem.W.Frag} {mg : Str → Option Value} {base : Heap}
theorem cld_flat {n : Nat} {d : D} (h : dflat d = true) : cld n d = true := by cases d <;> first | rfl | cases h
theorem fmI_all {P : D → Prop} {g : Nat → D → Option D} : ∀ {n : Nat} {ds : List D}, (∀ i d y, d ∈ ds → g i d = some y → P y) → ∀ y ∈ fmI g n ds, P y
  | _, [], _, y, hy => nomatch hy
  | n, d :: r, h, y, hy => by
    rcases List.mem_append.mp (show y ∈ (g n d).toList ++ fmI g (n + 1) r from hy) with hy | hy
    · cases e : g n d with
      | none => rw [e] at hy; cases hy
      | some z => rw [e] at hy; rw [List.mem_singleton.mp hy]; exact h n d z List.mem_cons_self e
    · exact fmI_all (fun i d' y' hd => h i d' y' (List.mem_cons_of_mem _ hd)) y hy
theorem putters_each {n : Nat} {xs : List D} : ∀ y ∈ puttersN n xs, y = .non ∨ ∃ k : Nat, y = .int k := by
  unfold puttersN
  refine all_app (fun y hy => ?_) (fmI_all fun i d y hd hy => ?_)
  · exact .inl (List.eq_of_mem_replicate hy)
  · by_cases h : isPutF d = true
    · rw [if_pos h] at hy; cases hy; exact .inr ⟨i, rfl⟩
    · rw [if_neg h] at hy; cases hy
theorem hand_lay {x : D} (h : isHandF x = true) (hd : HDom x) : ∃ w rest, x = .tup (w :: rest) ∧ dflat w = true ∧ ∀ d ∈ rest, dflat d = true := by
  obtain ⟨w, rest, rfl⟩ := hand_shape h
  obtain ⟨fw, fr, _⟩ := hand_flat hd
  exact ⟨w, rest, rfl, fw, fr⟩
theorem cld_hand {n : Nat} {x : D} (h : isHandF x = true) (hd : HDom x) : cld n x = true := by
  obtain ⟨w, rest, rfl, fw, fr⟩ := hand_lay h hd
  exact cldL_all (all_cons (cld_flat fw) fun d hd => cld_flat (fr d hd))
theorem cld_cast {W : Wd P w K mg base} {k n : Nat} {b : Bool} {xs : List D} (ok : CastOk n xs) : cldF k (castFs n b xs) = true := by
  have h1 : cldL k xs = true := cldL_all fun x hx => cld_hand (ok.hand x hx) (ok.dom x hx)
  have h2 : cldL k (puttersN n xs) = true := cldL_all fun y hy => by
    rcases putters_each y hy with rfl | ⟨j, rfl⟩ <;> rfl
  simp [castFs, cldF, cld, h1, h2]
theorem dueC_flat {o m : D} {xs : List D} {e : D} (h : dueC o m xs = some e) : dflat e = true := by
  unfold dueC at h
  split at h
  · split at h
    · split at h
      · obtain ⟨k, _, rfl⟩ := Option.map_eq_some_iff.mp h; rfl
      · cases h; rfl
    · cases h; rfl
  · cases h; rfl
theorem stays_app {μ l : Mem} : stays μ.length μ (μ ++ l) := ⟨by rw [List.length_append]; omega, fun k m hk hm => by rw [at_l hk] at hm; exact .inl hm⟩
theorem make_cast (W : Wd P w K mg base) {μ : Mem} {o mm : D} {xs kd md : List D} {m' : Nat} {Q : D → Mem → Prop} {E : Addr → List (Str × D) → Mem → Prop} (hk : kd ++ md = [mm]) (hkl : kd.length = m') (fo : plainD o = true) (fm : plainD mm = true) (hl : xs.length ≤ 1000) (ha : ∀ x ∈ xs, HDom x)
    (qe : ∀ e, dueC o mm xs = some e → E W.X_BadCast [("at", e)] μ) (q : ∀ (n : Nat) b, o = .int n → mm = .bl b → CastOk n xs → Q (castD W n b xs) μ) : dMakeF W.C_Cast (starS 2 m' md (S_Cast_init W)) (o :: (xs ++ kd)) μ Q E := by
  refine ⟨[.ob μ.length, o], xs, kd, rfl, rfl, hkl, hl, ?_⟩
  rw [hk]
  refine ⟨at_r0, fo, fm, hl, ha, fun e he => ⟨?_, stays_app, ?_⟩, fun n b e1 e2 hn hd => ⟨rfl, castFs n b xs, set_r0, cld_cast (W := W) ⟨hn, hd, ha⟩, q n b e1 e2 ⟨hn, hd, ha⟩⟩⟩
  · simp [cldF, cld_flat (dueC_flat he)]
  · rw [take_n rfl]; exact qe e he

def S_Cast_add (W : Wd P w K mg base) : DSp := fun ds μ Q E => match ds with
  | [x, h] => ∃ n b xs, x = castD W n b xs ∧ CastOk n xs ∧ HDom h ∧ (∀ k, dueH n (xs ++ [h]) = some k → E W.X_BadCast [("at", .int k)] μ) ∧ (dueH n (xs ++ [h]) = none → Q (castD W n b (xs ++ [h])) μ)
  | _ => False

theorem ok_Cast_add (W : Wd P w K mg base) : FnD P w K mg base 7 W.f_Cast_add (S_Cast_add W) := by
  refine (okB W.t_Cast_add.d sc_Cast_add (by (intro ds μ Q E h; unfold S_Cast_add at h; split at h <;> first | rfl | exact h.elim)) _ (fun cdv A outer s H E' g hr => ⟨_, (b_cons (s_set 2 sc_Cast_add.nd (d_lst (a_star (d_fld W.c_Cast.cl W.n_Cast_hands (d_var 0)) (a_cons (d_var 1) a_nil))))
      (b_one (s_ret (d_makeCSF W.mk_Cast (ok_Cast_init_marked W) W.c_Cast.a g hr (takes_of rfl rfl rfl rfl) (a_cons (d_fld W.c_Cast.cl W.n_Cast_old (d_var 0)) (a_star (d_var 2) a_nil)) (k_cons (d_fld W.c_Cast.cl W.n_Cast_marked (d_var 0)) k_nil)))))⟩) (fun ds μ Q E h => ?_)).fn0 W.t_Cast_add.b
  unfold S_Cast_add at h
  split at h
  · rename_i x hd
    obtain ⟨n, b, xs, rfl, ok, hh, qe, q⟩ := h
    rw [show startD ["self", "hand", "hands"] [castD W n b xs, hd] = [some (castD W n b xs), some hd, none] from rfl]
    have e0 : List.lookup (Str.ofString "_old") (castFs n b xs) = some (.int n) := rfl
    have e1 : List.lookup (Str.ofString "_marked") (castFs n b xs) = some (.bl b) := rfl
    have e2 : List.lookup (Str.ofString "_hands") (castFs n b xs) = some (.tup xs) := rfl
    refine seq_step fun nx hnx => ?_
    push_cast [castD, e2]
    refine ⟨by have := ok.len; rw [List.length_append]; simp; omega, hnx _ _ ?_⟩
    clear hnx nx
    push_cast [castD, e0, e1]
    refine make_cast W (kd := [.bl b]) (md := []) rfl rfl rfl rfl ?_ ?_ ?_ ?_
    · have := ok.len; simp; omega
    · rw [List.append_nil]; exact all_app ok.dom (all_cons hh all_nil)
    · intro e he
      rw [List.append_nil] at he
      unfold dueC at he
      simp only [show (0 ≤ (n : Int) ∧ (n : Int) ≤ 2) = True from eq_true ⟨by omega, by have := ok.n2; omega⟩, if_true, Int.toNat_natCast] at he
      obtain ⟨k, hk, rfl⟩ := Option.map_eq_some_iff.mp he
      exact .inl (qe k hk)
    · intro n' b' e1 e2 ok'
      cases e2
      have e1 : (n : Int) = n' := by injection e1
      obtain rfl : n = n' := by omega
      rw [List.append_nil] at ok' ⊢
      exact .inl (q ok'.due)
  · exact h.elim

end
end Toy
set_option Elab.async false
set_option linter.all false
set_option maxRecDepth 100000
set_option maxHeartbeats 4000000
namespace Toy
open PySem PySem.Spec PyProof.Rows L2 DX
section
variable {P : Program} {w : World} {K : PySem.W.Frag} {mg : Str → Option Value} {base : Heap}
theorem hands_lay {n : Nat} {xs : List D} (ok : CastOk n xs) (hs : ∀ x ∈ xs, dlay x = true) : Lay 2 (.tup xs) := by
  refine lay_tup fun x hx => ⟨hs x hx, ?_⟩
  obtain ⟨w, rest, rfl, fw, fr⟩ := hand_lay (ok.hand x hx) (ok.dom x hx)
  refine Nat.succ_le_succ (ddepL_all (all_cons ?_ fun d hd => ?_))
  · cases w <;> first | exact Nat.le_refl _ | cases fw
  · have := fr d hd
    cases d <;> first | exact Nat.le_refl _ | cases this
/-- drawn hands -/
inductive Hd where
  | put (o : Bool) | clean | fin (r : Nat) (o : Bool) | read (r : Nat)
  deriving DecidableEq
def outS (o : Bool) : Str := if o then Str.ofString "gone" else Str.ofString "done"
def hdD : Hd → D
  | .put o => .tup [.str sPut, .str (outS o)]
  | .clean => .tup [.str sClean]
  | .fin r o => .tup [.str sEnd, .int r, .str (outS o)]
  | .read r => .tup [.str sRead, .int r]
def Hd.isPut : Hd → Bool
  | .put _ => true
  | _ => false
/-- the row of a hand is below -/
def Hd.below (n : Nat) : Hd → Prop
  | .fin r _ => r < n
  | .read r => r < n
  | _ => True
def putN (hs : List Hd) : Nat := (hs.filter Hd.isPut).length
theorem hd_fz (μ : Mem) (n f : Nat) (hs : List Hd) : (hs.map hdD).map (fz μ n (f + 2)) = hs.map hdD := by
  rw [List.map_map]
  refine List.map_congr_left fun h _ => ?_
  cases h <;> rfl
theorem hd_cld (n : Nat) (hs : List Hd) : cldL n (hs.map hdD) = true := cldL_all (all_map fun h _ => by cases h <;> rfl)

def S_law_hands (W : Wd P w K mg base) : DSp := fun ds μ Q E => match ds, μ with
  | [.ob 1, .int i, .int j], c :: p :: l => ∃ n m : Nat, i = n ∧ j = m ∧ n ≤ 2 ∧ m ≤ 6 ∧ PotHd c p ∧ ((∀ (hs : List Hd) c' p', hs.length = m → PotHd c' p' → (∀ h ∈ hs, h.below (n + putN hs)) → Q (.lst (hs.map hdD)) (c' :: p' :: l)) ∨
    ∀ (hs : List Hd) c' p', hs.length = m → PotHd c' p' → (∀ h ∈ hs, h.below (n + putN hs)) → Q (.ob (l.length + 1 + 1)) (c' :: p' :: (l ++ [.lst (hs.map hdD)])))
  | _, _ => False

theorem ok_law_hands (W : Wd P w K mg base) : FnD P w K mg base 3 W.f_law_hands (S_law_hands W) := by
  refine (okB W.t_law_hands.d sc_law_hands (by (intro ds μ Q E h; unfold S_law_hands at h; split at h <;> first | rfl | exact h.elim)) _ (fun cdv A outer s H E' g hr => ⟨_, (b_cons (s_setLc false 3 [("k", 9)] sc_law_hands.nd (i_rng1 W.z_range (a_cons (d_var 2) a_nil)) (blkOk_by (own := [("k", 9)]) (N := ["pot", "old", "many", "kinds", "kind", "rows", "hands", "outcome", "row", "k"]) (sc := defScope s_law_hands) (by decide +kernel)) (fun _ _ _ _ _ => (g_name 9 sc_law_hands.nd)) (fun _ _ _ _ _ => ts_nil) (fun _ _ _ _ _ => (d_call (ok_law_draw W) W.t_law_draw.a W.t_law_draw.d.kp g hr takes0 (a_cons (d_var 0) (a_cons d_int a_nil)))) (wip_name (by decide)) mono_name (sw_true rfl rfl rfl (by decide +kernel)))
      (b_cons (s_set 5 sc_law_hands.nd (d_op (op_addA rfl) sim_add (d_var 1) (d_callB (call_lenA rfl) sim_len W.z_len (a_cons (d_lc false [("kind", 4)] sc_law_hands.nd (i_seq (d_var 3)) (blkOk_by (own := [("kind", 4)]) (N := ["pot", "old", "many", "kinds", "kind", "rows", "hands", "outcome", "row", "k"]) (sc := defScope s_law_hands) (by decide +kernel)) (fun _ _ _ _ _ => (g_name 4 sc_law_hands.nd)) (fun _ _ _ _ _ => (ts_one (t_cmp (op_eqA hr.units rfl) sim_eq (d_var 4) d_int (nomark _)))) (fun _ _ _ _ _ => (d_var 4)) (wip_name (by decide)) mono_name) a_nil))))
      (b_cons (s_set 6 sc_law_hands.nd (d_lstM a_nil))
      (b_cons (s_for (passes_of rfl) (i_seq (d_var 3)) (g_name 4 sc_law_hands.nd)
      (b_cons (s_set 7 sc_law_hands.nd (d_ifExp (t_cmp (op_eqA hr.units rfl) sim_eq (d_call (ok_law_draw W) W.t_law_draw.a W.t_law_draw.d.kp g hr (takes_of rfl rfl rfl rfl) (a_cons (d_var 0) (a_cons d_int a_nil))) d_int (nomark _)) d_str d_str))
      (b_cons (s_set 8 sc_law_hands.nd (d_call (ok_law_draw W) W.t_law_draw.a W.t_law_draw.d.kp g hr (takes_of rfl rfl rfl rfl) (a_cons (d_var 0) (a_cons (d_callB (call_max2 rfl) sim_two W.z_max (a_cons d_int (a_cons (d_var 5) a_nil))) a_nil))))
      (b_one (s_if (t_cmp (op_eqA hr.units rfl) sim_eq (d_var 4) d_int (nomark _)) (b_one (s_expr (d_bm PySem.F.slot_list_append PySem.F.type_list_append mt_append sim_append (d_var 6) (a_cons (d_tup (a_cons d_str (a_cons (d_var 7) a_nil))) a_nil)))) (b_one (s_if (WD.td (w_or (t_cmp (op_eqA hr.units rfl) sim_eq (d_var 4) d_int (nomark _)) (w_or1 (t_cmp (op_eqA hr.units rfl) sim_eq (d_var 5) d_int (nomark _))))) (b_one (s_expr (d_bm PySem.F.slot_list_append PySem.F.type_list_append mt_append sim_append (d_var 6) (a_cons (d_tup (a_cons d_str a_nil)) a_nil)))) (b_one (s_if (t_cmp (op_eqA hr.units rfl) sim_eq (d_var 4) d_int (nomark _)) (b_one (s_expr (d_bm PySem.F.slot_list_append PySem.F.type_list_append mt_append sim_append (d_var 6) (a_cons (d_tup (a_cons d_str (a_cons (d_var 8) (a_cons (d_var 7) a_nil)))) a_nil)))) (b_one (s_expr (d_bm PySem.F.slot_list_append PySem.F.type_list_append mt_append sim_append (d_var 6) (a_cons (d_tup (a_cons d_str (a_cons (d_var 8) a_nil))) a_nil)))))))))))))
      (b_one (s_ret (d_var 6)))))))⟩) (fun ds μ Q E h => ?_)).fn0 W.t_law_hands.b
  unfold S_law_hands at h
  split at h
  · rename_i i j c p l
    obtain ⟨n, m, rfl, rfl, hn, hm, hp, q⟩ := h
    rw [show startD ["pot", "old", "many", "kinds", "kind", "rows", "hands", "outcome", "row", "k"] [.ob 1, .int (n : Nat), .int (m : Nat)] = [some (.ob 1), some (.int (n : Nat)), some (.int (m : Nat)), none, none, none, none, none, none, none] from rfl]
    refine seq_step fun nx hnx => ?_
    push_cast
    refine ⟨⟨by omega, by omega⟩, ?_⟩
    refine lc_map (fun k acc μ1 => ∃ (c p : DX.M) (ks : List Nat), PotHd c p ∧ ks.length = k ∧ k ≤ 6 ∧ acc = ks.map (fun k : Nat => D.int k) ∧ μ1 = c :: p :: l) ⟨c, p, [], hp, rfl, by omega, rfl, rfl⟩ (fun _ _ _ _ => True.intro) ?_ ?_
    rotate_left
    · rintro k e acc μ1 go he ⟨c, p, ks, hp, hk, hk6, rfl, rfl⟩ kk
      have hlt := lt_of_at he
      rw [dints_len, Int.toNat_natCast] at hlt
      push_cast [S_law_draw]
      refine ⟨hp, by decide, by decide, fun d c p hd hp => ⟨by omega, kk _ _ ⟨c, p, ks ++ [d], hp, by simp [hk], by omega, by simp, rfl⟩⟩⟩
    · rintro acc μ1 ⟨c, p, ks, hp, hk, hk6, rfl, rfl⟩
      rw [dints_len, Int.toNat_natCast] at hk
      refine hnx _ _ ?_
      clear hnx nx
      have key : ∀ j : Nat, ((j : Int) == 0) = (j == 0) := fun j => nat_beq j 0
      refine seq_step fun nx hnx => ?_
      push_cast
      refine lc_pure (fun _ e => match e with | .int j => if (j == 0) = true then some e else none | _ => none) (by simp; omega) (by first | trivial | rfl) ?_ ?_
      · intro i e acc go he hacc kk
        rw [List.getElem?_map] at he
        obtain ⟨j, hj, rfl⟩ := Option.map_eq_some_iff.mp he
        push_cast
        refine ifb (fun h1 => ?_) (fun h1 => ?_)
        · simp only [h1, if_true] at kk
          exact ⟨hacc, kk⟩
        · simp only [b_not h1, Bool.false_eq_true, if_false, Option.toList_none, List.append_nil] at kk
          exact kk
      · have e1 : ∀ (i : Nat) (ks : List Nat), (fmI (fun _ e => match e with | D.int j => if (j == 0) = true then some e else none | _ => none) i (ks.map fun k : Nat => D.int k)).length = (ks.filter fun k => k == 0).length := by
          intro i ks
          induction ks generalizing i with
          | nil => rfl
          | cons k ks ih =>
            show (_ ++ fmI _ (i + 1) (ks.map fun k : Nat => D.int k)).length = _
            rw [List.length_append, ih (i + 1), List.filter_cons]
            simp only [key]
            cases k == 0 <;> simp [Nat.add_comm]
        push_cast [e1]
        refine hnx _ _ ?_
        clear hnx nx e1
        have hz6 : (ks.filter fun k => k == 0).length ≤ 6 := Nat.le_trans (List.length_filter_le _ _) (by omega)
        generalize hz : (ks.filter fun k => k == 0).length = z at hz6
        refine seq_step fun nx hnx => ?_
        push_cast
        refine ⟨by decide, hnx _ _ ?_⟩
        clear hnx nx
        refine seq_step fun nx hnx => ?_
        push_cast
        have at2 : ∀ (c p : DX.M) (x : DX.M), (c :: p :: (l ++ [x]))[l.length + 1 + 1]? = some x := fun c p x => at_r0
        refine for_map (fun i ρ μ1 => ∃ (c p : DX.M) (hs : List Hd) (o4 o7 o8 : Option D), PotHd c p ∧ hs.length = i ∧ i ≤ 6 ∧ putN hs = ((ks.take i).filter fun k => k == 0).length ∧ (∀ h ∈ hs, h.below (n + z)) ∧ μ1 = c :: p :: (l ++ [.lst (hs.map hdD)]) ∧
          ρ = [some (D.ob 1), some (D.int n), some (D.int m), some (D.lst (ks.map fun k : Nat => D.int k)), o4, some (D.int (n + z)), some (.ob (l.length + 1 + 1)), o7, o8, none]) ⟨c, p, [], none, none, none, hp, rfl, by omega, rfl, all_nil, rfl, rfl⟩ (fun _ _ _ _ => by first | exact True.intro | rfl) ?_ ?_
        · rintro ρ μ1 ⟨c, p, hs, o4, o7, o8, hp, hl, h6, hput, hb, rfl, rfl⟩
          rw [List.length_map] at hl hput
          refine hnx _ _ ?_
          clear hnx nx
          push_cast
          have hz2 : putN hs = z := by rw [hput, List.take_of_length_le (by omega)]; exact hz
          rcases q with q | q
          · have e : fz (c :: p :: (l ++ [M.lst (hs.map hdD)])) (l.length + 1 + 1) 6 (.ob (l.length + 1 + 1)) = .lst (hs.map hdD) := by
              rw [fz_obL (by omega) (at2 _ _ _), hd_fz]
            refine fz_pot hp (by rw [e]; exact hd_cld _ _) ?_
            rw [e]
            exact q hs c p (by omega) hp (by rw [hz2]; exact hb)
          · exact .inl (q hs c p (by omega) hp (by rw [hz2]; exact hb))
        · rintro i e ρ μ1 go he ⟨c, p, hs, o4, o7, o8, hp, hl, h6, hput, hb, rfl, rfl⟩ kk
          have hlt := lt_of_at he
          rw [List.length_map] at hlt
          rw [List.getElem?_map] at he
          obtain ⟨j, hj, rfl⟩ := Option.map_eq_some_iff.mp he
          have kk : ∀ (c p : DX.M) (h : Hd) (o7 o8 : Option D), PotHd c p → h.isPut = (j == 0) → h.below (n + z) → go [some (D.ob 1), some (D.int n), some (D.int m), some (D.lst (ks.map fun k : Nat => D.int k)), some (.int j), some (D.int (n + z)), some (.ob (l.length + 1 + 1)), o7, o8, none] (c :: p :: (l ++ [.lst (hs.map hdD ++ [hdD h])])) := fun c p h o7 o8 hp h1 h2 =>
            kk _ _ ⟨c, p, hs ++ [h], _, o7, o8, hp, by simp [hl], by omega, by
              unfold putN at hput ⊢
              rw [take_snoc hj, List.filter_append, List.filter_append, List.length_append, List.length_append, hput, List.filter_cons, List.filter_cons, h1]; cases j == 0 <;> rfl, all_app hb (all_cons h2 all_nil), by simp, rfl⟩
          simp only [uGName, List.set_cons_zero, List.set_cons_succ]
          refine seq_step fun nx2 hnx2 => ?_
          have rest : ∀ (o : Bool) (c p : DX.M), PotHd c p → nx2 [some (D.ob 1), some (D.int n), some (D.int m), some (D.lst (ks.map fun k : Nat => D.int k)), some (.int j), some (D.int (n + z)), some (.ob (l.length + 1 + 1)), some (.str (outS o)), o8, none] (c :: p :: (l ++ [.lst (hs.map hdD)])) := by
            intro o c p hp
            refine hnx2 _ _ ?_
            clear hnx2 nx2
            refine seq_step fun nx2 hnx2 => ?_
            push_cast [S_law_draw]
            refine ⟨hp, by split <;> omega, by split <;> omega, fun r c p hr hp => hnx2 _ _ ?_⟩
            clear hnx2 nx2
            have len6 : hs.length < sizeLine := Nat.lt_of_le_of_lt (show hs.length ≤ 6 by omega) (by decide)
            push_cast [at2, List.set_cons_succ, set_r0]
            refine ifb (fun h1 => ?_) (fun h1 => ?_)
            · have h1 : (j == 0) = true := by rw [← key]; exact h1
              exact ⟨isLst_at at_r0, by decide, len6, kk c p (.put o) _ _ hp h1.symm trivial⟩
            · have h1 : (j == 0) = false := by rw [← key]; exact b_not h1
              refine ifb (fun h2 => ?_) (fun h2 => ?_)
              · exact ⟨isLst_at at_r0, by decide, len6, kk c p .clean _ _ hp h1.symm trivial⟩
              · refine ifb (fun h3 => ?_) (fun h3 => ?_)
                · exact ⟨isLst_at at_r0, by decide, len6, kk c p .clean _ _ hp h1.symm trivial⟩
                · have h3 : n + z ≠ 0 := fun e => h3 (by rw [beq_iff_eq]; omega)
                  have hr : r < n + z := by split at hr <;> omega
                  refine ifb (fun h4 => ?_) (fun h4 => ?_)
                  · exact ⟨isLst_at at_r0, by decide, len6, kk c p (.fin r o) _ _ hp h1.symm hr⟩
                  · exact ⟨isLst_at at_r0, by decide, len6, kk c p (.read r) _ _ hp h1.symm hr⟩
          push_cast [S_law_draw]
          refine ⟨hp, by decide, by decide, fun d c p hd hp => ?_⟩
          exact ifb (fun h1 => rest true c p hp) (fun h1 => rest false c p hp)
  · exact h.elim

end
end Toy
set_option Elab.async false
set_option linter.all false
set_option maxRecDepth 100000
set_option maxHeartbeats 4000000
namespace Toy
open PySem PySem.Spec PyProof.Rows L2 DX
section
variable {P : Program} {w : World} {K : PySem.W.Frag} {mg : Str → Option Value} {base : Heap}
theorem hd_dom (h : Hd) : HDom (hdD h) := by cases h <;> exact ⟨by simp, rfl⟩
theorem out_one (o : Bool) : oneF (.str (outS o)) outW = true := by cases o <;> decide +kernel
theorem hd_hand (h : Hd) : isHandF (hdD h) = true := by
  cases h with
  | put o => cases o <;> kernel_rfl
  | clean => kernel_rfl
  | fin r o => cases o <;> kernel_rfl
  | read r => kernel_rfl
theorem hd_put (h : Hd) : isPutF (hdD h) = h.isPut := by
  cases h with
  | put o => exact (by decide +kernel : isWd (.str sPut) sPut = true)
  | clean => exact (by decide +kernel : isWd (.str sClean) sPut = false)
  | fin r o => exact (by decide +kernel : isWd (.str sEnd) sPut = false)
  | read r => exact (by decide +kernel : isWd (.str sRead) sPut = false)
theorem putters_hd (n : Nat) (hs : List Hd) : (puttersN n (hs.map hdD)).length = n + putN hs := by
  unfold puttersN putN
  rw [List.length_append, List.length_replicate]
  congr 1
  have : ∀ i, (fmI (fun k d => if isPutF d = true then some (D.int (k : Nat)) else none) i (hs.map hdD)).length = (hs.filter Hd.isPut).length := by
    induction hs with
    | nil => intro i; rfl
    | cons h hs ih =>
      intro i
      show (_ ++ fmI _ (i + 1) (hs.map hdD)).length = _
      rw [List.length_append, ih (i + 1), List.filter_cons]
      simp only [hd_put]
      cases h.isPut <;> simp [Nat.add_comm]
  exact this 0
theorem hd_row (n : Nat) (h : Hd) (hb : h.below n) : badRowF n (hdD h) = false := by
  have go : ∀ (r : Nat), r < n → (!betF (.int r) 0 ((n : Int) - 1)) = false := fun r hr => by rw [bet_yes hr]; rfl
  cases h with
  | put o =>
    have e : rowF (hdD (.put o)) = none := by kernel_rfl
    unfold badRowF; rw [e]
  | clean => rfl
  | fin r o =>
    have e : rowF (hdD (.fin r o)) = some (.int r) := by kernel_rfl
    unfold badRowF; rw [e]; exact go r hb
  | read r =>
    have e : rowF (hdD (.read r)) = some (.int r) := by kernel_rfl
    unfold badRowF; rw [e]; exact go r hb
theorem hd_cast {n : Nat} {hs : List Hd} (hn : n ≤ 2) (hl : hs.length ≤ 5) (hb : ∀ h ∈ hs, h.below (n + putN hs)) : CastOk n (hs.map hdD) := by
  refine ⟨hn, ?_, all_map fun h _ => hd_dom h⟩
  rw [dueH_form fun i d hd => by
    rw [List.getElem?_map] at hd
    obtain ⟨h, _, rfl⟩ := Option.map_eq_some_iff.mp hd
    exact hd_hand h]
  rw [putters_hd, find_no fun i d hd => by
    rw [List.getElem?_map] at hd
    obtain ⟨h, hh, rfl⟩ := Option.map_eq_some_iff.mp hd
    exact hd_row _ h (hb h (List.mem_of_getElem? hh))]
  exact if_neg (by rw [List.length_map]; omega)
theorem hd_layS (h : Hd) : dlay (hdD h) = true := by
  have o1 : ∀ o, PyData.strOk (outS o) = true := fun o => by cases o <;> decide +kernel
  have h1 : PyData.strOk sPut = true := by decide +kernel
  have h2 : PyData.strOk sEnd = true := by decide +kernel
  have h3 : PyData.strOk sClean = true := by decide +kernel
  have h4 : PyData.strOk sRead = true := by decide +kernel
  cases h <;> simp [hdD, dlay, dlayL, o1, h1, h2, h3, h4]
theorem hds_lay (hs : List Hd) : ∀ x ∈ hs.map hdD, dlay x = true := all_map fun h _ => hd_layS h

def S_law_cast (W : Wd P w K mg base) : DSp := fun ds μ Q E => match ds with
  | [o, y, m] => ∃ xs, view μ y = .lst xs ∧ plainD o = true ∧ plainD m = true ∧ xs.length ≤ 6 ∧ (∀ x ∈ xs, HDom x) ∧ (∀ e, dueC o m xs = some e → E W.X_BadCast [("at", e)] μ) ∧ (∀ (n : Nat) b, o = .int n → m = .bl b → CastOk n xs → Q (castD W n b xs) μ)
  | _ => False

theorem ok_law_cast (W : Wd P w K mg base) : FnD P w K mg base 7 W.f_law_cast (S_law_cast W) := by
  refine (okB W.t_law_cast.d sc_law_cast (by (intro ds μ Q E h; unfold S_law_cast at h; split at h <;> first | rfl | exact h.elim)) _ (fun cdv A outer s H E' g hr => ⟨_, (b_cons (s_if (t_cmp (op_eqA hr.units rfl) sim_eq (d_callB (call_lenA rfl) sim_len W.z_len (a_cons (d_var 1) a_nil)) d_int (nomark _)) (b_one (s_ret (d_makeCF W.mk_Cast (ok_Cast_init_marked W) W.c_Cast.a g hr (takes_of rfl rfl rfl rfl) (a_cons (d_var 0) a_nil) (k_cons (d_var 2) k_nil)))) b_nil)
      (b_cons (s_if (t_cmp (op_eqA hr.units rfl) sim_eq (d_callB (call_lenA rfl) sim_len W.z_len (a_cons (d_var 1) a_nil)) d_int (nomark _)) (b_one (s_ret (d_makeCF W.mk_Cast (ok_Cast_init_marked W) W.c_Cast.a g hr (takes_of rfl rfl rfl rfl) (a_cons (d_var 0) (a_cons (d_ix (d_var 1) d_int) a_nil)) (k_cons (d_var 2) k_nil)))) b_nil)
      (b_cons (s_if (t_cmp (op_eqA hr.units rfl) sim_eq (d_callB (call_lenA rfl) sim_len W.z_len (a_cons (d_var 1) a_nil)) d_int (nomark _)) (b_one (s_ret (d_makeCF W.mk_Cast (ok_Cast_init_marked W) W.c_Cast.a g hr (takes_of rfl rfl rfl rfl) (a_cons (d_var 0) (a_cons (d_ix (d_var 1) d_int) (a_cons (d_ix (d_var 1) d_int) a_nil))) (k_cons (d_var 2) k_nil)))) b_nil)
      (b_cons (s_if (t_cmp (op_eqA hr.units rfl) sim_eq (d_callB (call_lenA rfl) sim_len W.z_len (a_cons (d_var 1) a_nil)) d_int (nomark _)) (b_one (s_ret (d_makeCF W.mk_Cast (ok_Cast_init_marked W) W.c_Cast.a g hr (takes_of rfl rfl rfl rfl) (a_cons (d_var 0) (a_cons (d_ix (d_var 1) d_int) (a_cons (d_ix (d_var 1) d_int) (a_cons (d_ix (d_var 1) d_int) a_nil)))) (k_cons (d_var 2) k_nil)))) b_nil)
      (b_cons (s_if (t_cmp (op_eqA hr.units rfl) sim_eq (d_callB (call_lenA rfl) sim_len W.z_len (a_cons (d_var 1) a_nil)) d_int (nomark _)) (b_one (s_ret (d_makeCF W.mk_Cast (ok_Cast_init_marked W) W.c_Cast.a g hr (takes_of rfl rfl rfl rfl) (a_cons (d_var 0) (a_cons (d_ix (d_var 1) d_int) (a_cons (d_ix (d_var 1) d_int) (a_cons (d_ix (d_var 1) d_int) (a_cons (d_ix (d_var 1) d_int) a_nil))))) (k_cons (d_var 2) k_nil)))) b_nil)
      (b_cons (s_if (t_cmp (op_eqA hr.units rfl) sim_eq (d_callB (call_lenA rfl) sim_len W.z_len (a_cons (d_var 1) a_nil)) d_int (nomark _)) (b_one (s_ret (d_makeCF W.mk_Cast (ok_Cast_init_marked W) W.c_Cast.a g hr (takes_of rfl rfl rfl rfl) (a_cons (d_var 0) (a_cons (d_ix (d_var 1) d_int) (a_cons (d_ix (d_var 1) d_int) (a_cons (d_ix (d_var 1) d_int) (a_cons (d_ix (d_var 1) d_int) (a_cons (d_ix (d_var 1) d_int) a_nil)))))) (k_cons (d_var 2) k_nil)))) b_nil)
      (b_one (s_ret (d_makeCF W.mk_Cast (ok_Cast_init_marked W) W.c_Cast.a g hr (takes_of rfl rfl rfl rfl) (a_cons (d_var 0) (a_cons (d_ix (d_var 1) d_int) (a_cons (d_ix (d_var 1) d_int) (a_cons (d_ix (d_var 1) d_int) (a_cons (d_ix (d_var 1) d_int) (a_cons (d_ix (d_var 1) d_int) (a_cons (d_ix (d_var 1) d_int) a_nil))))))) (k_cons (d_var 2) k_nil))))))))))⟩) (fun ds μ Q E h => ?_)).fn0 W.t_law_cast.b
  unfold S_law_cast at h
  split at h
  · rename_i o y m
    obtain ⟨xs, hv, fo, fm, hl, ha, qe, q⟩ := h
    rw [show startD ["old", "h", "is_set"] [o, y, m] = [some (o), some (y), some (m)] from rfl]
    have fin : ∀ (ys : List D), xs = ys → dMakeF W.C_Cast (starS 2 1 [] (S_Cast_init W)) (o :: (ys ++ [m])) μ (FZ μ Q) (FZE μ E [some o, some y, some m]) := by
      rintro ys rfl
      refine make_cast W (kd := [m]) (md := []) rfl rfl fo fm (by omega) ha (fun e he => .inl (qe e he)) (fun n b e1 e2 ok => .inl (q n b e1 e2 ok))
    have lb : ∀ k : Nat, ((xs.length : Int) == (k : Int)) = true → xs.length = k := fun k h => by rw [nat_beq] at h; simpa using h
    refine seq_step fun nx hnx => ?_
    push_cast [hv]
    refine ifb (fun h => ?_) (fun h => hnx _ _ ?_)
    · have h := lb 0 h
      clear hnx nx
      obtain rfl : xs = [] := List.eq_nil_of_length_eq_zero h
      exact fin [] rfl
    clear hnx nx
    have n0 : xs.length ≠ 0 := fun e => h (by rw [e]; rfl)
    clear h
    refine seq_step fun nx hnx => ?_
    push_cast [hv]
    refine ifb (fun h => ?_) (fun h => hnx _ _ ?_)
    · have h := lb 1 h
      clear hnx nx
      obtain ⟨x0, rfl⟩ : ∃ x0, xs = [x0] := by
        match xs, h with
        | [x0], _ => exact ⟨_, rfl⟩
      push_cast [hv]
      exact fin [x0] rfl
    clear hnx nx
    have n1 : xs.length ≠ 1 := fun e => h (by rw [e]; rfl)
    clear h
    refine seq_step fun nx hnx => ?_
    push_cast [hv]
    refine ifb (fun h => ?_) (fun h => hnx _ _ ?_)
    · have h := lb 2 h
      clear hnx nx
      obtain ⟨x0, x1, rfl⟩ : ∃ x0 x1, xs = [x0, x1] := by
        match xs, h with
        | [x0, x1], _ => exact ⟨_, _, rfl⟩
      push_cast [hv]
      exact fin [x0, x1] rfl
    clear hnx nx
    have n2 : xs.length ≠ 2 := fun e => h (by rw [e]; rfl)
    clear h
    refine seq_step fun nx hnx => ?_
    push_cast [hv]
    refine ifb (fun h => ?_) (fun h => hnx _ _ ?_)
    · have h := lb 3 h
      clear hnx nx
      obtain ⟨x0, x1, x2, rfl⟩ : ∃ x0 x1 x2, xs = [x0, x1, x2] := by
        match xs, h with
        | [x0, x1, x2], _ => exact ⟨_, _, _, rfl⟩
      push_cast [hv]
      exact fin [x0, x1, x2] rfl
    clear hnx nx
    have n3 : xs.length ≠ 3 := fun e => h (by rw [e]; rfl)
    clear h
    refine seq_step fun nx hnx => ?_
    push_cast [hv]
    refine ifb (fun h => ?_) (fun h => hnx _ _ ?_)
    · have h := lb 4 h
      clear hnx nx
      obtain ⟨x0, x1, x2, x3, rfl⟩ : ∃ x0 x1 x2 x3, xs = [x0, x1, x2, x3] := by
        match xs, h with
        | [x0, x1, x2, x3], _ => exact ⟨_, _, _, _, rfl⟩
      push_cast [hv]
      exact fin [x0, x1, x2, x3] rfl
    clear hnx nx
    have n4 : xs.length ≠ 4 := fun e => h (by rw [e]; rfl)
    clear h
    refine seq_step fun nx hnx => ?_
    push_cast [hv]
    refine ifb (fun h => ?_) (fun h => hnx _ _ ?_)
    · have h := lb 5 h
      clear hnx nx
      obtain ⟨x0, x1, x2, x3, x4, rfl⟩ : ∃ x0 x1 x2 x3 x4, xs = [x0, x1, x2, x3, x4] := by
        match xs, h with
        | [x0, x1, x2, x3, x4], _ => exact ⟨_, _, _, _, _, rfl⟩
      push_cast [hv]
      exact fin [x0, x1, x2, x3, x4] rfl
    clear hnx nx
    have n5 : xs.length ≠ 5 := fun e => h (by rw [e]; rfl)
    clear h
    obtain ⟨x0, x1, x2, x3, x4, x5, rfl⟩ : ∃ x0 x1 x2 x3 x4 x5, xs = [x0, x1, x2, x3, x4, x5] := by
      match xs, (show xs.length = 6 by omega) with
      | [x0, x1, x2, x3, x4, x5], _ => exact ⟨_, _, _, _, _, _, rfl⟩
    push_cast [hv]
    exact fin [x0, x1, x2, x3, x4, x5] rfl
  · exact h.elim

end
end Toy
set_option Elab.async false
set_option linter.all false
set_option maxRecDepth 100000
set_option maxHeartbeats 4000000
namespace Toy
open PySem PySem.Spec PyProof.Rows L2 DX
section
variable {P : Program} {w : World} {K : PySem.W.Frag} {mg : Str → Option Value} {base : Heap}

def S_law_putters (W : Wd P w K mg base) : DSp := fun ds μ Q E => match ds with
  | [.int i, y] => ∃ (n : Nat) (xs : List D), i = n ∧ n ≤ 1000 ∧ view μ y = .lst xs ∧ xs.length ≤ 1000 ∧ (∀ x ∈ xs, isHandF x = true ∧ HDom x) ∧ Q (.lst (puttersN n xs)) μ
  | _ => False

theorem ok_law_putters (W : Wd P w K mg base) : FnD P w K mg base 2 W.f_law_putters (S_law_putters W) := by
  refine (okB W.t_law_putters.d sc_law_putters (by (intro ds μ Q E h; unfold S_law_putters at h; split at h <;> first | rfl | exact h.elim)) _ (fun cdv A outer s H E' g hr => ⟨_, (b_one (s_ret (d_op (op_addA rfl) sim_add (d_op op_rep (sim_rep false) (d_lst (a_cons d_non a_nil)) (d_var 0)) (d_lc false [("at", 2)] sc_law_putters.nd (i_rng1 W.z_range (a_cons (d_callB (call_lenA rfl) sim_len W.z_len (a_cons (d_var 1) a_nil)) a_nil)) (blkOk_by (own := [("at", 2)]) (N := ["old", "hands", "at"]) (sc := defScope s_law_putters) (by decide +kernel)) (fun _ _ _ _ _ => (g_name 2 sc_law_putters.nd)) (fun _ _ _ _ _ => (ts_one (t_cmp (op_eqA hr.units rfl) sim_eq (d_ix (d_ix (d_var 1) (d_var 2)) d_int) d_str (nomark _)))) (fun _ _ _ _ _ => (d_var 2)) (wip_name (by decide)) mono_name))))⟩) (fun ds μ Q E h => ?_)).fn0 W.t_law_putters.b
  unfold S_law_putters at h
  split at h
  · rename_i i y
    obtain ⟨n, xs, rfl, hn, hv, hl, ha, q⟩ := h
    rw [show startD ["old", "hands", "at"] [.int (n : Nat), y] = [some (.int (n : Nat)), some (y), none] from rfl]
    push_cast [hv]
    have z : n ≤ sizeLine := Nat.le_trans hn (by decide)
    have z2 : (1 : Nat) * (n : Int).toNat ≤ sizeLine := by rw [Int.toNat_natCast, Nat.one_mul]; exact z
    refine ⟨by decide, ⟨by omega, by omega, z2⟩, ⟨by omega, by omega⟩, ?_⟩
    refine lc_pure (fun i _ => xs[i]?.bind fun d => if isPutF d = true then some (.int (i : Nat)) else none) (by rw [dints_len]; omega) (by first | trivial | rfl) ?_ ?_
    · intro k e acc go he hacc kk
      have hlt := lt_of_at he
      rw [dints_len, Int.toNat_natCast] at hlt
      rw [dints_get _ _ _ (by rw [Int.toNat_natCast]; exact hlt), Int.zero_add] at he
      cases he
      have hx : xs[k]? = some xs[k] := List.getElem?_eq_getElem hlt
      obtain ⟨hh, hd⟩ := ha _ (List.getElem_mem hlt)
      push_cast [hv, hx]
      rw [hx, Option.bind_some] at kk
      generalize xs[k] = x at hh hd kk
      obtain ⟨w, rest, rfl⟩ := hand_shape hh
      obtain ⟨fw, _, _⟩ := hand_flat hd
      obtain ⟨_, _, _, vw⟩ := flat_ty (μ := μ) fw
      push_cast [vw]
      refine ⟨eqokF fw rfl, ifb (fun h1 => ?_) (fun h1 => ?_)⟩
      · have h1 : isPutF (.tup (w :: rest)) = true := h1
        simp only [h1, if_true] at kk
        exact ⟨hacc, kk⟩
      · have h1 : isPutF (.tup (w :: rest)) = false := b_not h1
        simp only [h1, Bool.false_eq_true, if_false, Option.toList_none, List.append_nil] at kk
        exact kk
    · have e1 := fmI_getf (fun k d => if isPutF d = true then some (.int (k : Nat)) else none) xs
      simp only [Int.toNat_natCast]
      rw [e1]
      have l1 := fmI_len (fun k d => if isPutF d = true then some (.int (k : Nat)) else none) 0 xs
      rw [rep_flat, List.length_replicate]
      exact ⟨Nat.le_trans (show _ ≤ 2000 by omega) (by decide), .inl q⟩
  · exact h.elim

end
end Toy
set_option Elab.async false
set_option linter.all false
set_option maxRecDepth 100000
set_option maxHeartbeats 4000000
namespace Toy
open PySem PySem.Spec PyProof.Rows L2 DX
section
variable {P : Program} {w : World} {K : PySem.W.Frag} {mg : Str → Option Value} {base : Heap}
def oddL : List D := [.non, .bl true, .bl false, .str (Str.ofString "1"), .str (Str.ofString ""), .tup [.int 1], .lst [.int 1], .int (-1), .int 31, .int (10 ^ 24)]

def S_law_odd (W : Wd P w K mg base) : DSp := fun ds μ Q E => match ds, μ with
  | [.ob 1], c :: p :: l => PotHd c p ∧ ∀ x c' p', x ∈ oddL → PotHd c' p' → Q x (c' :: p' :: l)
  | _, _ => False

theorem ok_law_odd (W : Wd P w K mg base) : FnD P w K mg base 3 W.f_law_odd (S_law_odd W) := by
  refine (okB W.t_law_odd.d sc_law_odd (by (intro ds μ Q E h; unfold S_law_odd at h; split at h <;> first | rfl | exact h.elim)) _ (fun cdv A outer s H E' g hr => ⟨_, (b_cons (s_set 1 sc_law_odd.nd (d_lst (a_cons d_non (a_cons d_bl (a_cons d_bl (a_cons d_str (a_cons d_str (a_cons (d_tup (a_cons d_int a_nil)) (a_cons (d_lst (a_cons d_int a_nil)) (a_cons (d_un un_neg d_int) (a_cons d_int (a_cons (d_op op_pow sim_pow d_int d_int) a_nil))))))))))))
      (b_one (s_ret (d_ix (d_var 1) (d_call (ok_law_draw W) W.t_law_draw.a W.t_law_draw.d.kp g hr (takes_of rfl rfl rfl rfl) (a_cons (d_var 0) (a_cons d_int a_nil)))))))⟩) (fun ds μ Q E h => ?_)).fn0 W.t_law_odd.b
  unfold S_law_odd at h
  split at h
  · rename_i c0 p0 l
    obtain ⟨hp, q⟩ := h
    rw [show startD ["pot", "odd"] [.ob 1] = [some (.ob 1), none] from rfl]
    push_cast [S_law_draw]
    repeat (refine ⟨by first | decide | (unfold CPow; decide), ?_⟩)
    refine ⟨hp, by decide, by decide, fun d c p hd hp => ?_⟩
    obtain ⟨x, hx, hm⟩ := pick (xs := oddL) (n := 10) hd rfl
    show match oddL[d]? with | some d => FZ (c0 :: p0 :: l) Q d (c :: p :: l) | none => False
    rw [hx]
    exact .inl (q x c p hm hp)
  · exact h.elim

end
end Toy
set_option Elab.async false
set_option linter.all false
set_option maxRecDepth 100000
set_option maxHeartbeats 4000000
namespace Toy
open PySem PySem.Spec PyProof.Rows L2 DX
section
variable {P : Program} {w : World} {K : PySem.W.Frag} {mg : Str → Option Value} {base : Heap}
def strangeL : List D := [.non, .str sClean, .tup [], .tup [.str sPut], .tup [.str sPut, .str (Str.ofString "maybe")], .lst [.str sClean], .tup [.str sClean, .int 0], .tup [.str sRead, .bl true], .tup [.str sRead, .int 7],
  .tup [.str sEnd, .int 0], .tup [.str sEnd, .int 0, .str (Str.ofString "Done")], .tup [.str sEnd, .int (-1), .str (Str.ofString "gone")], .tup [.str sRead, .int (10 ^ 20)], .tup [.str (Str.ofString "sweep")], .int 3,
  .tup [.str sPut, .non], .tup [.str sRead, .str (Str.ofString "0")], .tup [.str sEnd, .non, .str (Str.ofString "done")], .tup [.non], .tup [.str sEnd, .int 6, .str (Str.ofString "done")]]

def S_law_strange (W : Wd P w K mg base) : DSp := fun ds μ Q E => match ds, μ with
  | [.ob 1], c :: p :: l => PotHd c p ∧ ∀ x c' p', x ∈ strangeL → PotHd c' p' → Q x (c' :: p' :: l)
  | _, _ => False

theorem ok_law_strange (W : Wd P w K mg base) : FnD P w K mg base 3 W.f_law_strange (S_law_strange W) := by
  refine (okB W.t_law_strange.d sc_law_strange (by (intro ds μ Q E h; unfold S_law_strange at h; split at h <;> first | rfl | exact h.elim)) _ (fun cdv A outer s H E' g hr => ⟨_, (b_cons (s_set 1 sc_law_strange.nd (d_lst (a_cons d_non (a_cons d_str (a_cons (d_tup a_nil) (a_cons (d_tup (a_cons d_str a_nil)) (a_cons (d_tup (a_cons d_str (a_cons d_str a_nil))) (a_cons (d_lst (a_cons d_str a_nil)) (a_cons (d_tup (a_cons d_str (a_cons d_int a_nil))) (a_cons (d_tup (a_cons d_str (a_cons d_bl a_nil))) (a_cons (d_tup (a_cons d_str (a_cons d_int a_nil))) a_nil)))))))))))
      (b_cons (s_set 1 sc_law_strange.nd (d_op (op_addA rfl) sim_add (d_var 1) (d_lst (a_cons (d_tup (a_cons d_str (a_cons d_int a_nil))) (a_cons (d_tup (a_cons d_str (a_cons d_int (a_cons d_str a_nil)))) (a_cons (d_tup (a_cons d_str (a_cons (d_un un_neg d_int) (a_cons d_str a_nil)))) (a_cons (d_tup (a_cons d_str (a_cons (d_op op_pow sim_pow d_int d_int) a_nil))) (a_cons (d_tup (a_cons d_str a_nil)) (a_cons d_int a_nil)))))))))
      (b_cons (s_set 1 sc_law_strange.nd (d_op (op_addA rfl) sim_add (d_var 1) (d_lst (a_cons (d_tup (a_cons d_str (a_cons d_non a_nil))) (a_cons (d_tup (a_cons d_str (a_cons d_str a_nil))) (a_cons (d_tup (a_cons d_str (a_cons d_non (a_cons d_str a_nil)))) (a_cons (d_tup (a_cons d_non a_nil)) (a_cons (d_tup (a_cons d_str (a_cons d_int (a_cons d_str a_nil)))) a_nil))))))))
      (b_one (s_ret (d_ix (d_var 1) (d_call (ok_law_draw W) W.t_law_draw.a W.t_law_draw.d.kp g hr (takes_of rfl rfl rfl rfl) (a_cons (d_var 0) (a_cons d_int a_nil)))))))))⟩) (fun ds μ Q E h => ?_)).fn0 W.t_law_strange.b
  unfold S_law_strange at h
  split at h
  · rename_i c0 p0 l
    obtain ⟨hp, q⟩ := h
    rw [show startD ["pot", "strange"] [.ob 1] = [some (.ob 1), none] from rfl]
    push_cast [S_law_draw]
    repeat (refine ⟨by first | decide | (unfold CPow; decide), ?_⟩)
    refine ⟨hp, by decide, by decide, fun d c p hd hp => ?_⟩
    obtain ⟨x, hx, hm⟩ := pick (xs := strangeL) (n := 20) hd rfl
    show match strangeL[d]? with | some d => FZ (c0 :: p0 :: l) Q d (c :: p :: l) | none => False
    rw [hx]
    exact .inl (q x c p hm hp)
  · exact h.elim

end
end Toy
set_option Elab.async false
set_option linter.all false
set_option maxRecDepth 100000
set_option maxHeartbeats 4000000
namespace Toy
open PySem PySem.Spec PyProof.Rows L2 DX
section
variable {P : Program} {w : World} {K : PySem.W.Frag} {mg : Str → Option Value} {base : Heap}

def S_law_is_number (W : Wd P w K mg base) : DSp := fun ds μ Q _ => match ds with
  | [x] => (∃ t, tyOf μ x = some t ∧ ∀ C, t ≠ .own C) ∧ Q (.bl (wholeF x)) μ
  | _ => False

theorem ok_law_is_number (W : Wd P w K mg base) : FnD P w K mg base 2 W.f_law_is_number (S_law_is_number W) := by
  refine (okB W.t_law_is_number.d sc_law_is_number (by (intro ds μ Q E h; unfold S_law_is_number at h; split at h <;> first | rfl | exact h.elim)) _ (fun cdv A outer s H E' g hr => ⟨_, (b_one (s_ret (d_and (d_isB .int (by intro _ z; cases z) rfl W.z_isinstance W.z_int (d_var 0)) (d_one (d_not (d_isB .bl (by intro _ z; cases z) rfl W.z_isinstance W.z_bool (d_var 0)))))))⟩) (fun ds μ Q E h => ?_)).fn0 W.t_law_is_number.b
  unfold S_law_is_number at h
  split at h
  · rename_i x
    obtain ⟨⟨t, ht, ho⟩, q⟩ := h
    rw [show startD ["value"] [x] = [some (x)] from rfl]
    rw [ty_whole ht ho] at q
    push_cast
    rw [ht]
    cases t <;> first | exact absurd rfl (ho _) | exact .inl q
  · exact h.elim

end
end Toy
set_option Elab.async false
set_option linter.all false
set_option maxRecDepth 100000
set_option maxHeartbeats 4000000
namespace Toy
open PySem PySem.Spec PyProof.Rows L2 DX
section
variable {P : Program} {w : World} {K : PySem.W.Frag} {mg : Str → Option Value} {base : Heap}
theorem wd_eq {w : D} {s : Str} (h : isWd w s = true) : w = .str s := by
  cases w with
  | str a => rw [eq_of_beq (show (a == s) = true from h)]
  | _ => cases h
theorem wd_other {w : D} {a b : Str} (h : isWd w a = true) (n : (a == b) = false) : isWd w b = false := by rw [wd_eq h]; exact n
theorem deqvL_nil (xs : List D) : deqvL xs [] = (xs.length == 0) := by cases xs <;> rfl
theorem out_any {a : D} (h : dflat a = true) : ([D.str (Str.ofString "done"), D.str (Str.ofString "gone")].any fun e => deqv e a) = oneF a outW := by
  cases a with
  | str s => rfl
  | non => rfl
  | bl _ => rfl
  | int _ => rfl
  | _ => cases h

def S_law_has_form (W : Wd P w K mg base) : DSp := fun ds μ Q E => match ds with
  | [x] => HDom x ∧ dlay x = true ∧ Q (.bl (isHandF x)) μ
  | _ => False

theorem ok_law_has_form (W : Wd P w K mg base) : FnD P w K mg base 3 W.f_law_has_form (S_law_has_form W) := by
  refine (okB W.t_law_has_form.d sc_law_has_form (by (intro ds μ Q E h; unfold S_law_has_form at h; split at h <;> first | rfl | exact h.elim)) _ (fun cdv A outer s H E' g hr => ⟨_, (b_cons (s_if (WD.td (w_or (t_not (t_tru (d_isB .tup (by intro _ z; cases z) rfl W.z_isinstance W.z_tuple (d_var 0)))) (w_or1 (t_cmp (op_eqA hr.units rfl) sim_eq (d_callB (call_lenA rfl) sim_len W.z_len (a_cons (d_var 0) a_nil)) d_int (nomark _))))) (b_one (s_ret d_bl)) b_nil)
      (b_cons (s_if (t_cmp (op_eqA hr.units rfl) sim_eq (d_var 0) (d_tup (a_cons d_str a_nil)) (nomark _)) (b_one (s_ret d_bl)) b_nil)
      (b_cons (s_if (WD.td (w_and (t_cmp (op_eqA hr.units rfl) sim_eq (d_ix (d_var 0) d_int) d_str (nomark _)) (w_and1 (t_cmp (op_eqA hr.units rfl) sim_eq (d_callB (call_lenA rfl) sim_len W.z_len (a_cons (d_var 0) a_nil)) d_int (nomark _))))) (b_one (s_ret (d_cmp (op_inA hr.units rfl) (sim_in false) (d_ix (d_var 0) d_int) (d_lst (a_cons d_str (a_cons d_str a_nil))) (by rfl)))) b_nil)
      (b_cons (s_if (WD.td (w_and (t_cmp (op_eqA hr.units rfl) sim_eq (d_ix (d_var 0) d_int) d_str (nomark _)) (w_and1 (t_cmp (op_eqA hr.units rfl) sim_eq (d_callB (call_lenA rfl) sim_len W.z_len (a_cons (d_var 0) a_nil)) d_int (nomark _))))) (b_one (s_ret (d_and (d_call (ok_law_is_number W) W.t_law_is_number.a W.t_law_is_number.d.kp g hr (takes_of rfl rfl rfl rfl) (a_cons (d_ix (d_var 0) d_int) a_nil)) (d_one (d_cmp (op_inA hr.units rfl) (sim_in false) (d_ix (d_var 0) d_int) (d_lst (a_cons d_str (a_cons d_str a_nil))) (by rfl)))))) b_nil)
      (b_one (s_ret (d_and (d_cmp (op_eqA hr.units rfl) sim_eq (d_ix (d_var 0) d_int) d_str (nomark _)) (d_and (d_cmp (op_eqA hr.units rfl) sim_eq (d_callB (call_lenA rfl) sim_len W.z_len (a_cons (d_var 0) a_nil)) d_int (nomark _)) (d_one (d_call (ok_law_is_number W) W.t_law_is_number.a W.t_law_is_number.d.kp g hr (takes_of rfl rfl rfl rfl) (a_cons (d_ix (d_var 0) d_int) a_nil)))))))))))⟩) (fun ds μ Q E h => ?_)).fn0 W.t_law_has_form.b
  unfold S_law_has_form at h
  split at h
  · rename_i x
    obtain ⟨hx, hy, q⟩ := h
    rw [show startD ["hand"] [x] = [some (x)] from rfl]
    cases x with
    | tup ds =>
      obtain ⟨hl, hf⟩ := hx
      cases ds with
      | nil =>
        push_cast
        exact .inl q
      | cons w rest =>
        obtain ⟨fw, fr, hl2⟩ := hand_flat (w := w) (rest := rest) ⟨hl, hf⟩
        have vw : ∀ μ : Mem, view μ w = w := fun μ => by obtain ⟨_, _, _, e⟩ := flat_ty (μ := μ) fw; exact e
        have ew : ∀ s : Str, dEqOk w (.str s) = true := fun s => eqokF fw rfl
        refine seq_step fun nx hnx => ?_
        push_cast
        have z : ((((rest.length + 1 : Nat) : Int)) == 0) = false := beq_eq_false_iff_ne.mpr (by omega)
        push_cast [z]
        refine hnx _ _ ?_
        clear hnx nx
        refine seq_step fun nx hnx => ?_
        push_cast
        have l1 : Lay 60 (.tup (w :: rest)) := ⟨hy, Nat.le_trans (Nat.succ_le_succ (ddepL_all (k := 0) (all_cons (by cases w <;> first | exact Nat.le_refl _ | cases fw) fun d hd => by have := fr d hd; cases d <;> first | exact Nat.le_refl _ | cases this))) (by decide)⟩
        have l2 : Lay 60 (.tup [.str (Str.ofString "clean")]) := ⟨by decide +kernel, by decide +kernel⟩
        have e0 : deqv (.tup (w :: rest)) (.tup [.str (Str.ofString "clean")]) = (isWd w sClean && rest.length == 0) := by
          rw [deqv_tup]
          show (deqv w (.str sClean) && deqvL rest []) = _
          rw [deqvL_nil]; rfl
        rw [e0]
        have len1 : ∀ k : Nat, (rest.length == k) = true → rest.length = k := fun k h => by simpa using h
        have lenb : ∀ k : Nat, ((((rest.length + 1 : Nat) : Int)) == ((k + 1 : Nat) : Int)) = (rest.length == k) := fun k => by
          rw [nat_beq]; simp
        have gd : ∀ (i : Nat) d, rest[i]? = some d → rest.getD i .non = d := fun i d hd => by rw [List.getD_eq_getElem?_getD, hd]; rfl
        have fl : ∀ (i : Nat) d, rest[i]? = some d → dflat d = true := fun i d hd => fr d (List.mem_of_getElem? hd)
        have vf : ∀ (i : Nat) d, rest[i]? = some d → ∀ μ : Mem, view μ d = d := fun i d hd μ => by obtain ⟨_, _, _, e⟩ := flat_ty (μ := μ) (fl i d hd); exact e
        have fdef : isHandF (.tup (w :: rest)) = if isWd w sPut then (rest.length == 1 && oneF (rest.getD 0 .non) outW) else if isWd w sEnd then (rest.length == 2 && (wholeF (rest.getD 0 .non) && oneF (rest.getD 1 .non) outW)) else if isWd w sClean then rest.length == 0 else (isWd w sRead && (rest.length == 1 && wholeF (rest.getD 0 .non))) := rfl
        rw [fdef] at q
        refine ⟨by decide, eqok l1 l2, ifb (fun h1 => ?_) (fun h1 => hnx _ _ ?_)⟩
        · rw [Bool.and_eq_true] at h1
          rw [wd_other h1.1 (b := sPut) (by decide +kernel), wd_other h1.1 (b := sEnd) (by decide +kernel), h1.1] at q
          simp only [Bool.false_eq_true, if_false, if_true] at q
          rw [h1.2] at q
          exact .inl q
        · clear hnx nx
          have lb2 : ((((rest.length + 1 : Nat) : Int)) == 2) = (rest.length == 1) := lenb 1
          have lb3 : ((((rest.length + 1 : Nat) : Int)) == 3) = (rest.length == 2) := lenb 2
          have rd : ∀ s : Str, deqv w (.str s) = isWd w s := fun _ => rfl
          have rest_ : isWd w sPut = true → rest.length ≠ 1 → FZ μ Q (.bl false) μ := fun h2 h3 => by
            rw [h2, if_pos rfl, show (rest.length == 1) = false from beq_eq_false_iff_ne.mpr h3] at q
            exact .inl q
          refine seq_step fun nx hnx => ?_
          push_cast [vw, lb2]
          have cont : ¬ (isWd w sPut = true ∧ rest.length = 1) → nx [some (.tup (w :: rest))] μ := by
            intro hno
            refine hnx _ _ ?_
            clear hnx nx
            refine seq_step fun nx hnx => ?_
            push_cast [vw, lb3]
            have cont : ¬ (isWd w sEnd = true ∧ rest.length = 2) → nx [some (.tup (w :: rest))] μ := by
              intro hno2
              refine hnx _ _ ?_
              clear hnx nx
              push_cast [vw, lb2]
              refine ⟨ew _, ifb (fun h2 => ?_) (fun h2 => ?_)⟩
              · have h2 : isWd w sRead = true := h2
                rw [wd_other h2 (b := sPut) (by decide +kernel), wd_other h2 (b := sEnd) (by decide +kernel), wd_other h2 (b := sClean) (by decide +kernel), h2] at q
                simp only [Bool.false_eq_true, if_false, Bool.true_and] at q
                refine ifb (fun h3 => ?_) (fun h3 => ?_)
                · obtain ⟨a, ha⟩ : ∃ a, rest[0]? = some a := ⟨_, List.getElem?_eq_getElem (by have := len1 1 h3; omega)⟩
                  push_cast [ha, S_law_is_number]
                  rw [h3, gd 0 a ha] at q
                  exact ⟨ty_flat (fl 0 a ha), .inl q⟩
                · rw [b_not h3] at q ⊢
                  exact .inl q
              · have h2 : isWd w sRead = false := b_not h2
                rw [rd, show isWd w (Str.ofString "read") = false from h2]
                have hq : (if isWd w sPut then (rest.length == 1 && oneF (rest.getD 0 .non) outW) else if isWd w sEnd then (rest.length == 2 && (wholeF (rest.getD 0 .non) && oneF (rest.getD 1 .non) outW)) else if isWd w sClean then rest.length == 0 else (isWd w sRead && (rest.length == 1 && wholeF (rest.getD 0 .non)))) = false := by
                  cases hp : isWd w sPut with
                  | true => rw [if_pos rfl, show (rest.length == 1) = false from beq_eq_false_iff_ne.mpr fun e => hno ⟨hp, e⟩]; rfl
                  | false =>
                    cases he : isWd w sEnd with
                    | true => rw [if_neg Bool.false_ne_true, if_pos rfl, show (rest.length == 2) = false from beq_eq_false_iff_ne.mpr fun e => hno2 ⟨he, e⟩]; rfl
                    | false =>
                      rw [if_neg Bool.false_ne_true, if_neg Bool.false_ne_true, h2, Bool.false_and]
                      cases hc : isWd w sClean with
                      | true => rw [hc, Bool.true_and] at h1; rw [if_pos rfl, b_not h1]
                      | false => rfl
                rw [hq] at q
                exact .inl q
            refine ⟨ew _, ifb (fun h2 => ?_) (fun h2 => cont fun z => h2 z.1)⟩
            have h2 : isWd w sEnd = true := h2
            refine ifb (fun h3 => ?_) (fun h3 => cont fun z => h3 (by rw [z.2]; rfl))
            clear cont hnx nx
            obtain ⟨a, ha⟩ : ∃ a, rest[0]? = some a := ⟨_, List.getElem?_eq_getElem (by have := len1 2 h3; omega)⟩
            obtain ⟨b, hb⟩ : ∃ b, rest[1]? = some b := ⟨_, List.getElem?_eq_getElem (by have := len1 2 h3; omega)⟩
            rw [wd_other h2 (b := sPut) (by decide +kernel), h2, h3, gd 0 a ha, gd 1 b hb] at q
            simp only [Bool.false_eq_true, if_false, if_true, Bool.true_and] at q
            push_cast [ha, hb, S_law_is_number, vf 1 b hb]
            refine ⟨ty_flat (fl 0 a ha), ifb (fun h4 => ?_) (fun h4 => ?_)⟩
            · rw [h4, Bool.true_and] at q
              rw [out_any (fl 1 b hb)]
              exact ⟨by decide, inokF (fl 1 b hb) rfl, .inl q⟩
            · rw [b_not h4, Bool.false_and] at q
              rw [b_not h4]
              exact .inl q
          refine ⟨ew _, ifb (fun h2 => ?_) (fun h2 => cont fun z => h2 z.1)⟩
          have h2 : isWd w sPut = true := h2
          refine ifb (fun h3 => ?_) (fun h3 => cont fun z => h3 (by rw [z.2]; rfl))
          clear cont hnx nx
          obtain ⟨a, ha⟩ : ∃ a, rest[0]? = some a := ⟨_, List.getElem?_eq_getElem (by have := len1 1 h3; omega)⟩
          rw [h2, h3, gd 0 a ha] at q
          simp only [if_true, Bool.true_and] at q
          push_cast [ha, vf 0 a ha]
          rw [out_any (fl 0 a ha)]
          exact ⟨by decide, inokF (fl 0 a ha) rfl, .inl q⟩
    | _ => first | exact hx.elim | (push_cast; exact .inl q)
  · exact h.elim

end
end Toy
set_option Elab.async false
set_option linter.all false
set_option maxRecDepth 100000
set_option maxHeartbeats 4000000
namespace Toy
open PySem PySem.Spec PyProof.Rows L2 DX
section
variable {P : Program} {w : World} {K : PySem.W.Frag} {mg : Str → Option Value} {base : Heap}
def shownD (e : D) : Str := match toP e with
  | some p => p.shown
  | none => Str.ofString ""
def ShowOk (e : D) : Prop := ∃ p, toP e = some p ∧ Gd.okShow p = true
theorem showOk_repr {μ : Mem} {e : D} {Q : D → Mem → Prop} (h : ShowOk e) (hv : view μ e = e) (q : Q (.str (shownD e)) μ) : dRepr [e] μ Q := by
  obtain ⟨p, h1, h2⟩ := h
  refine ⟨p, by rw [hv]; exact h1, h2, ?_⟩
  unfold shownD at q
  rw [h1] at q
  exact q
theorem dueH_le {n : Nat} {xs : List D} {k : Nat} (h : dueH n xs = some k) : k < xs.length + 6 := by
  unfold dueH at h
  split at h
  · rename_i hf
    cases h
    obtain ⟨⟨d, hd, _⟩, _⟩ := find_some hf
    have := lt_of_at hd
    omega
  · split at h
    · rename_i hf
      cases h
      obtain ⟨⟨d, hd, _⟩, _⟩ := find_some hf
      have := lt_of_at hd
      omega
    · split at h
      · cases h; omega
      · cases h
theorem dueC_cases {o m : D} {xs : List D} {e : D} (h : dueC o m xs = some e) : e = .str (Str.ofString "old") ∨ e = .str (Str.ofString "marked") ∨ ∃ k : Nat, e = .int k ∧ k < xs.length + 6 := by
  unfold dueC at h
  split at h
  · split at h
    · split at h
      · obtain ⟨k, hk, rfl⟩ := Option.map_eq_some_iff.mp h; exact .inr (.inr ⟨k, rfl, dueH_le hk⟩)
      · cases h; exact .inr (.inl rfl)
    · cases h; exact .inl rfl
  · cases h; exact .inl rfl
theorem show_nat {k : Nat} (h : k < 1000000) : ShowOk (.int k) := by
  refine ⟨_, rfl, ?_⟩
  show decide ((k : Int).natAbs.log2 < 1920) = true
  rw [Int.natAbs_natCast]
  refine decide_eq_true ?_
  by_cases hk : k = 0
  · subst hk; decide
  · exact Nat.lt_trans ((Nat.log2_lt hk).mpr (Nat.lt_trans h (by decide : 1000000 < 2 ^ 20))) (by decide)
theorem dueC_show {o m : D} {xs : List D} {e : D} (hl : xs.length ≤ 1000) (h : dueC o m xs = some e) : ShowOk e ∧ ∀ μ : Mem, view μ e = e := by
  rcases dueC_cases h with rfl | rfl | ⟨k, rfl, hk⟩
  · exact ⟨⟨_, rfl, by decide +kernel⟩, fun _ => rfl⟩
  · exact ⟨⟨_, rfl, by decide +kernel⟩, fun _ => rfl⟩
  · exact ⟨show_nat (by omega), fun _ => rfl⟩
theorem dueC_none {n : Nat} {b : Bool} {xs : List D} (ok : CastOk n xs) : dueC (.int n) (.bl b) xs = none := by
  unfold dueC
  simp only [show (0 ≤ (n : Int) ∧ (n : Int) ≤ 2) = True from eq_true ⟨by omega, by have := ok.n2; omega⟩, if_true, Int.toNat_natCast]
  rw [ok.due]; rfl
theorem dueC_text {o m : D} {xs : List D} {e : D} (hl : xs.length ≤ 6) (h : dueC o m xs = some e) : PyData.strOk (shownD e) = true := by
  rcases dueC_cases h with rfl | rfl | ⟨k, rfl, hk⟩
  · decide +kernel
  · decide +kernel
  · have h : ∀ k : Nat, k < 12 → PyData.strOk (shownD (.int k)) = true := by decide +kernel
    exact h k (by omega)

def S_law_made (W : Wd P w K mg base) : DSp := fun ds μ Q E => match ds with
  | [o, y, m] => ∃ xs, view μ y = .lst xs ∧ plainD o = true ∧ plainD m = true ∧ xs.length ≤ 6 ∧ (∀ x ∈ xs, HDom x) ∧ (∀ e, dueC o m xs = some e → Q (.lst [.str (shownD e), .bl true, .bl true, .bl false]) μ) ∧ (dueC o m xs = none → Q .non μ)
  | _ => False

theorem ok_law_made (W : Wd P w K mg base) : FnD P w K mg base 8 W.f_law_made (S_law_made W) := by
  refine (okB W.t_law_made.d sc_law_made (by (intro ds μ Q E h; unfold S_law_made at h; split at h <;> first | rfl | exact h.elim)) _ (fun cdv A outer s H E' g hr => ⟨_, (b_cons (s_set 3 sc_law_made.nd d_non)
      (b_cons (s_try 4 sc_law_made.nd ⟨by rfl, by decide, .inl W.e_BadCast.gC⟩ (takes_of rfl rfl rfl rfl) (fun W' pn xe tk po => (b_one (s_expr (d_call (ok_law_cast W) W.t_law_cast.a W.t_law_cast.d.kp g hr tk (a_cons (d_var 0) (a_cons (d_var 1) (a_cons (d_var 2) a_nil)))))))
      (fun a oe cls d pn hz hf => (b_one (s_set 3 sc_law_made.nd (d_lst (a_cons (d_callB (call_reprA g hr.units rfl) sim_repr W.z_repr (a_cons (d_xf hz hf (d_var 4)) a_nil)) (a_cons (d_isX hz hf W.z_isinstance W.m_PagesError (d_var 4)) (a_cons (d_isXB (T := "ValueError") hz hf W.z_isinstance W.z_ValueError (d_var 4)) (a_cons (d_isX hz hf W.z_isinstance W.m_NoStep (d_var 4)) a_nil)))))))))
      (b_one (s_ret (d_var 3)))))⟩) (fun ds μ Q E h => ?_)).fn0 W.t_law_made.b
  unfold S_law_made at h
  split at h
  · rename_i o y m
    obtain ⟨xs, hv, fo, fm, hl, ha, qe, q⟩ := h
    rw [show startD ["old", "hands", "is_set", "told", "e"] [o, y, m] = [some (o), some (y), some (m), none, none] from rfl]
    push_cast [S_law_cast]
    refine ⟨xs, hv, fo, fm, hl, ha, fun e he => ⟨true, W.xm_BadCast, fun _ a d => ?_, fun z => nomatch z⟩, fun n b e1 e2 ok => .inl (q (by rw [e1, e2]; exact dueC_none ok))⟩
    obtain ⟨s1, s2⟩ := dueC_show (by omega) he
    refine ⟨W.xf_BadCast, W.e_BadCast.no, showOk_repr s1 (s2 _) ?_⟩
    exact ⟨W.xx_BadCast, true, W.k1, W.xx_BadCast, true, W.k2, W.xx_BadCast, false, W.k3, by decide, .inl (qe e he)⟩
  · exact h.elim

end
end Toy
set_option Elab.async false
set_option linter.all false
set_option maxRecDepth 100000
set_option maxHeartbeats 4000000
namespace Toy
open PySem PySem.Spec PyProof.Rows L2 DX
section
variable {P : Program} {w : World} {K : PySem.W.Frag} {mg : Str → Option Value} {base : Heap}
def dueS (o m : D) (xs : List D) : D := match dueC o m xs with
  | some e => .str (shownD e)
  | none => .non
theorem hand_int {w r : D} {more : List D} (h : isHandF (.tup (w :: r :: more)) = true) (hw : (isWd w sEnd || isWd w sRead) = true) : ∃ i, r = .int i := by
  have h : (if isWd w sPut then ((r :: more).length == 1 && oneF ((r :: more).getD 0 .non) outW) else if isWd w sEnd then ((r :: more).length == 2 && (wholeF ((r :: more).getD 0 .non) && oneF ((r :: more).getD 1 .non) outW)) else if isWd w sClean then (r :: more).length == 0 else (isWd w sRead && ((r :: more).length == 1 && wholeF ((r :: more).getD 0 .non)))) = true := h
  have g : (r :: more).getD 0 .non = r := rfl
  have fin : wholeF r = true → ∃ i, r = .int i := fun h => by cases r <;> first | exact ⟨_, rfl⟩ | cases h
  rw [g] at h
  cases he : isWd w sEnd with
  | true =>
    rw [wd_other he (b := sPut) (by decide +kernel), he, if_neg Bool.false_ne_true, if_pos rfl, Bool.and_eq_true, Bool.and_eq_true] at h
    exact fin h.2.1
  | false =>
    rw [he, Bool.false_or] at hw
    rw [wd_other hw (b := sPut) (by decide +kernel), he, wd_other hw (b := sClean) (by decide +kernel), if_neg Bool.false_ne_true, if_neg Bool.false_ne_true, if_neg Bool.false_ne_true, Bool.and_eq_true, Bool.and_eq_true] at h
    exact fin h.2.2

def S_law_due (W : Wd P w K mg base) : DSp := fun ds μ Q E => match ds with
  | [o, y, m] => ∃ xs, view μ y = .lst xs ∧ plainD o = true ∧ plainD m = true ∧ xs.length ≤ 100 ∧ (∀ x ∈ xs, HDom x ∧ dlay x = true) ∧ Q (dueS o m xs) μ
  | _ => False

theorem ok_law_due (W : Wd P w K mg base) : FnD P w K mg base 4 W.f_law_due (S_law_due W) := by
  refine (okB W.t_law_due.d sc_law_due (by (intro ds μ Q E h; unfold S_law_due at h; split at h <;> first | rfl | exact h.elim)) _ (fun cdv A outer s H E' g hr => ⟨_, (b_cons (s_if (WD.td (w_or (t_not (t_tru (d_call (ok_law_is_number W) W.t_law_is_number.a W.t_law_is_number.d.kp g (hr.mono (by decide)) (takes_of rfl rfl rfl rfl) (a_cons (d_var 0) a_nil)))) (w_or1 (t_not (t_chain op_le sim_le op_le sim_le d_int (d_var 0) d_int))))) (b_one (s_ret d_str)) b_nil)
      (b_cons (s_if (t_not (t_tru (d_isB .bl (by intro _ z; cases z) rfl W.z_isinstance W.z_bool (d_var 2)))) (b_one (s_ret d_str)) b_nil)
      (b_cons (s_for (passes_of rfl) (i_enum W.z_enumerate (a_cons (d_var 1) a_nil)) (g_un 2 (gs_cons (g_name 3 sc_law_due.nd) (gs_cons (g_name 4 sc_law_due.nd) gs_nil)))
      (b_one (s_if (t_not (t_tru (d_call (ok_law_has_form W) W.t_law_has_form.a W.t_law_has_form.d.kp g hr (takes_of rfl rfl rfl rfl) (a_cons (d_var 4) a_nil)))) (b_one (s_ret (d_callB (call_reprA g hr.units rfl) sim_repr W.z_repr (a_cons (d_var 3) a_nil)))) b_nil)))
      (b_cons (s_set 5 sc_law_due.nd (d_callB (call_lenA rfl) sim_len W.z_len (a_cons (d_call (ok_law_putters W) W.t_law_putters.a W.t_law_putters.d.kp g (hr.mono (by decide)) (takes_of rfl rfl rfl rfl) (a_cons (d_var 0) (a_cons (d_var 1) a_nil))) a_nil)))
      (b_cons (s_for (passes_of rfl) (i_enum W.z_enumerate (a_cons (d_var 1) a_nil)) (g_un 2 (gs_cons (g_name 3 sc_law_due.nd) (gs_cons (g_name 4 sc_law_due.nd) gs_nil)))
      (b_one (s_if (WD.td (w_and (t_cmp (op_inA hr.units rfl) (sim_in false) (d_ix (d_var 4) d_int) (d_lst (a_cons d_str (a_cons d_str a_nil))) (by rfl)) (w_and1 (t_not (t_chain op_le sim_le op_lt sim_lt d_int (d_ix (d_var 4) d_int) (d_var 5)))))) (b_one (s_ret (d_callB (call_reprA g hr.units rfl) sim_repr W.z_repr (a_cons (d_var 3) a_nil)))) b_nil)))
      (b_one (s_ret (d_ifExp (t_cmp op_gt sim_gt (d_callB (call_lenA rfl) sim_len W.z_len (a_cons (d_var 1) a_nil)) d_int (nomark _)) d_str d_non))))))))⟩) (fun ds μ Q E h => ?_)).fn0 W.t_law_due.b
  unfold S_law_due at h
  split at h
  · rename_i o y m
    obtain ⟨xs, hv, fo, fm, hl, ha, q⟩ := h
    rw [show startD ["old", "hands", "is_set", "at", "hand", "rows"] [o, y, m] = [some (o), some (y), some (m), none, none, none] from rfl]
    have sOld : shownD (.str (Str.ofString "old")) = Str.ofString "'old'" := by decide +kernel
    have sMark : shownD (.str (Str.ofString "marked")) = Str.ofString "'marked'" := by decide +kernel
    have s5 : shownD (.int 5) = Str.ofString "5" := by decide +kernel
    refine seq_step fun nx hnx => ?_
    push_cast [S_law_is_number]
    refine ⟨ty_plain fo, ?_⟩
    by_cases hi : ∃ i, o = .int i
    · obtain ⟨i, rfl⟩ := hi
      push_cast [show wholeF (.int i) = true from rfl]
      have old_ : ¬ (0 ≤ i ∧ i ≤ 2) → FZ μ Q (.str (Str.ofString "'old'")) μ := fun hno => by
        have hd : dueC (.int i) m xs = some (.str (Str.ofString "old")) := by
          unfold dueC
          simp only [hno, if_false]
        unfold dueS at q
        rw [hd] at q
        have q : Q (.str (shownD (.str (Str.ofString "old")))) μ := q
        rw [sOld] at q
        exact .inl q
      refine ifb (fun h1 => ?_) (fun h1 => old_ fun z => h1 (decide_eq_true z.1))
      have h1 := of_decide_eq_true h1
      refine ifb (fun h2 => old_ fun z => by rw [decide_eq_true z.2] at h2; cases h2) (fun h2 => hnx _ _ ?_)
      clear hnx nx
      obtain ⟨n, rfl⟩ := Int.eq_ofNat_of_zero_le h1
      have h2 : n ≤ 2 := by
        have : decide ((n : Int) ≤ 2) = true := by simpa using h2
        have := of_decide_eq_true this
        omega
      clear old_ h1 sOld
      refine seq_step fun nx hnx => ?_
      obtain ⟨t, ht, ho⟩ := ty_plain (μ := μ) fm
      by_cases hm : ∃ b, m = .bl b
      · obtain ⟨b, rfl⟩ := hm
        push_cast
        refine hnx _ _ ?_
        clear hnx nx sMark ht
        have hd : dueC (.int n) (.bl b) xs = (dueH n xs).map fun k : Nat => (.int (k : Int) : D) := by
          unfold dueC
          simp only [show (0 ≤ (n : Int) ∧ (n : Int) ≤ 2) = True from eq_true ⟨by omega, by omega⟩, if_true, Int.toNat_natCast]
        have q : ∀ k, dueH n xs = some k → Q (.str (shownD (.int k))) μ := fun k hk => by
          unfold dueS at q
          rw [hd, hk] at q
          exact q
        have qn : dueH n xs = none → Q .non μ := fun hk => by
          rename_i q0
          unfold dueS at q0
          rw [hd, hk] at q0
          exact q0
        clear hd fm fo h1
        have ne : ∀ (i : Nat) d, xs[i]? = some d → ∃ e', (denum 0 xs)[i]? = some e' ∧ e' = .tup [.int (i : Nat), d] := fun i d hd => by
          have hlt := lt_of_at hd
          obtain ⟨e', he'⟩ : ∃ e', (denum 0 xs)[i]? = some e' := ⟨_, List.getElem?_eq_getElem (by rw [denum_len]; omega)⟩
          obtain ⟨z, hz, rfl⟩ := denum_get he'
          rw [hd] at hz; cases hz
          exact ⟨_, he', by rw [Nat.zero_add]⟩
        refine seq_step fun nx hnx => ?_
        push_cast [hv]
        refine for_first (fun ρ => ∃ o3 o4, ρ = [some (.int (n : Nat)), some y, some (.bl b), o3, o4, none]) (fun i e => match e with | .tup [_, d] => !isHandF d | _ => false) ⟨_, _, rfl⟩ hv ?_ ?_
        rotate_left
        · rintro k e ρ go he ⟨o2, o3, rfl⟩ hb kk
          obtain ⟨x, hx, rfl⟩ := denum_get he
          rw [Nat.zero_add]
          obtain ⟨hd1, hd2⟩ := ha x (List.mem_of_getElem? hx)
          push_cast [S_law_has_form]
          refine ⟨hd1, hd2, ifb (fun h1 => ?_) (fun h1 => kk (b_not h1) _ ⟨_, _, rfl⟩)⟩
          have hk : dueH n xs = some k := by
            unfold dueH
            rw [find_at hx h1 fun i d hi hd => ?_]
            obtain ⟨e', he', rfl⟩ := ne i d hd
            exact hb i _ hi he'
          have hlt := lt_of_at hx
          exact showOk_repr (show_nat (by omega)) rfl (.inl (q k hk))
        · rintro ρ ⟨o2, o3, rfl⟩ hb
          have hh : ∀ (i : Nat) d, xs[i]? = some d → isHandF d = true := fun i d hd => by
            obtain ⟨e', he', rfl⟩ := ne i d hd
            have this : (!isHandF d) = false := hb i _ he'
            simpa using this
          clear hb
          refine hnx _ _ ?_
          clear hnx nx
          rw [dueH_form hh] at qn
          have q : ∀ k, (match xs.findIdx? (badRowF (puttersN n xs).length) with
            | some k => some k
            | none => if 5 < xs.length then some 5 else none) = some k → Q (.str (shownD (.int (k : Nat)))) μ := fun k hk => q k (by rw [dueH_form hh]; exact hk)
          have ha2 : ∀ x ∈ xs, isHandF x = true ∧ HDom x := fun x hx => by
            obtain ⟨i, hi⟩ := List.getElem?_of_mem hx
            exact ⟨hh i x hi, (ha x hx).1⟩
          refine seq_step fun nx hnx => ?_
          push_cast [S_law_putters]
          refine ⟨n, xs, rfl, by omega, hv, by omega, ha2, hnx _ _ ?_⟩
          clear hnx nx
          generalize (puttersN n xs).length = many at q qn
          refine seq_step fun nx hnx => ?_
          push_cast [hv]
          refine for_first (fun ρ => ∃ o2 o3, ρ = [some (.int (n : Nat)), some y, some (.bl b), o2, o3, some (.int (many : Nat))]) (fun i e => match e with | .tup [_, d] => badRowF many d | _ => false) ⟨_, _, rfl⟩ hv ?_ ?_
          · rintro ρ ⟨o2', o3', rfl⟩ hb
            refine hnx _ _ ?_
            clear hnx nx
            have hno : xs.findIdx? (badRowF many) = none := find_no fun i d hd => by
              obtain ⟨e', he', rfl⟩ := ne i d hd
              exact hb i _ he'
            rw [hno] at q qn
            push_cast [hv]
            refine ifb (fun h1 => .inl ?_) (fun h1 => .inl (qn ?_))
            · rw [← s5]
              exact q 5 (if_pos (by have := of_decide_eq_true h1; omega))
            · exact if_neg (by have := of_decide_eq_false (b_not h1); omega)
          · rintro k e ρ go he ⟨o2', o3', rfl⟩ hb kk
            obtain ⟨x, hx, rfl⟩ := denum_get he
            rw [Nat.zero_add]
            obtain ⟨w, rest, rfl⟩ := hand_shape (hh k x hx)
            obtain ⟨fw, fr, _⟩ := hand_flat (ha _ (List.mem_of_getElem? hx)).1
            obtain ⟨_, _, _, vw⟩ := flat_ty (μ := μ) fw
            push_cast [vw]
            have hany : ([D.str (Str.ofString "read"), D.str (Str.ofString "end")].any fun e => deqv e w) = (isWd w sEnd || isWd w sRead) := by
              show (deqv (.str sRead) w || (deqv (.str sEnd) w || false)) = _
              rw [isWd_comm fw, isWd_comm fw, Bool.or_false, Bool.or_comm]
            rw [hany]
            refine ⟨by decide, inokF fw rfl, ifb (fun h1 => ?_) (fun h1 => ?_)⟩
            · obtain ⟨r, more, rfl⟩ := hand_row (hh k _ hx) h1
              obtain ⟨j, rfl⟩ := hand_int (hh k _ hx) h1
              have hrow : badRowF many (.tup (w :: .int j :: more)) = !betF (.int j) 0 ((many : Int) - 1) := by
                have hrow' : rowF (.tup (w :: .int j :: more)) = some (.int j) := if_pos h1
                unfold badRowF
                rw [hrow']
              have hb2 : betF (.int j) 0 ((many : Int) - 1) = (decide (0 ≤ j) && decide (j < many)) := by
                show (decide (0 ≤ j) && decide (j ≤ (many : Int) - 1)) = _
                congr 1
                exact decide_eq_decide.mpr (by omega)
              have wrong : (decide (0 ≤ j) && decide (j < many)) = false → FZ μ Q (.str (shownD (.int k))) μ := fun hz => by
                have hp : badRowF many (.tup (w :: .int j :: more)) = true := by rw [hrow, hb2, hz]; rfl
                have hk : xs.findIdx? (badRowF many) = some k := find_at hx hp fun i d hi hd => by
                  obtain ⟨e', he', rfl⟩ := ne i d hd
                  exact hb i _ hi he'
                rw [hk] at q
                exact .inl (q k rfl)
              have hlt := lt_of_at hx
              push_cast
              cases c1 : decide (0 ≤ j) with
              | false =>
                push_cast
                exact showOk_repr (show_nat (by omega)) rfl (wrong (by rw [c1]; rfl))
              | true =>
                cases c2 : decide (j < (many : Int)) with
                | false =>
                  push_cast
                  exact showOk_repr (show_nat (by omega)) rfl (wrong (by rw [c1, c2]; rfl))
                | true =>
                  push_cast
                  exact kk (by show badRowF many _ = false; rw [hrow, hb2, c1, c2]; rfl) _ ⟨_, _, rfl⟩
            · have hrow : badRowF many (.tup (w :: rest)) = false := by
                unfold badRowF rowF
                split
                · rename_i r hr
                  split at hr
                  · rename_i hx'
                    cases hx'
                    rw [if_neg h1] at hr
                    cases hr
                  · cases hr
                · rfl
              exact kk hrow _ ⟨_, _, rfl⟩
      · have hd : dueC (.int n) m xs = some (.str (Str.ofString "marked")) := by
          have e : (0 ≤ (n : Int) ∧ (n : Int) ≤ 2) = True := eq_true ⟨by omega, by omega⟩
          cases m <;> first | exact absurd ⟨_, rfl⟩ hm | (unfold dueC; simp only [e, if_true])
        have he : tyIs t .bl = false := by cases m <;> first | (cases fm; done) | (cases ht; first | rfl | exact absurd ⟨_, rfl⟩ hm)
        unfold dueS at q
        rw [hd] at q
        have q : Q (.str (shownD (.str (Str.ofString "marked")))) μ := q
        rw [sMark] at q
        push_cast [ht]
        cases t <;> first | exact absurd rfl (ho _) | (cases he; done) | (push_cast; exact .inl q)
    · have hw : wholeF o = false := by cases o <;> first | rfl | exact absurd ⟨_, rfl⟩ hi
      push_cast [hw]
      have hd : dueC o m xs = some (.str (Str.ofString "old")) := by cases o <;> first | rfl | exact absurd ⟨_, rfl⟩ hi
      unfold dueS at q
      rw [hd] at q
      have q : Q (.str (shownD (.str (Str.ofString "old")))) μ := q
      rw [sOld] at q
      exact .inl q
  · exact h.elim

end
end Toy
set_option Elab.async false
set_option linter.all false
set_option maxRecDepth 100000
set_option maxHeartbeats 4000000
namespace Toy
open PySem PySem.Spec PyProof.Rows L2 DX
section
variable {P : Program} {w : World} {K : PySem.W.Frag} {mg : Str → Option Value} {base : Heap}

def S_law_asked (W : Wd P w K mg base) : DSp := fun ds μ Q E => match ds with
  | [x, r] => ∃ n b xs, x = castD W n b xs ∧ CastOk n xs ∧ plainD r = true ∧ ShowOk r ∧ view μ r = r ∧ cld μ.length r = true ∧ betF r 0 6 = false ∧ (∀ μ : Mem, view μ r = r) ∧ Q (.lst [.tup [.str (Str.ofString "bad"), .str (shownD r)], .tup [.str (Str.ofString "bad"), .str (shownD r)], .tup [.str (Str.ofString "bad"), .str (shownD r)]]) μ
  | _ => False

theorem ok_law_asked (W : Wd P w K mg base) : FnD P w K mg base 6 W.f_law_asked (S_law_asked W) := by
  refine (okB W.t_law_asked.d sc_law_asked (by (intro ds μ Q E h; unfold S_law_asked at h; split at h <;> first | rfl | exact h.elim)) _ (fun cdv A outer s H E' g hr => ⟨_, (b_cons (s_set 2 sc_law_asked.nd (d_lstM a_nil))
      (b_cons (s_for (passes_of rfl) (i_rng1 W.z_range (a_cons d_int a_nil)) (g_name 3 sc_law_asked.nd)
      (b_one (s_try 4 sc_law_asked.nd ⟨by rfl, by decide, .inl W.e_BadCast.gC⟩ (takes_of rfl rfl rfl rfl) (fun W' pn xe tk po => (b_one (s_if (t_cmp (op_eqA hr.units rfl) sim_eq (d_var 3) d_int (nomark _)) (b_one (s_expr (d_bm PySem.F.slot_list_append PySem.F.type_list_append mt_append sim_append (d_var 2) (a_cons (d_getO W.gi_Cast (ok_Cast_getitem W) g hr tk (d_var 0) (d_var 1)) a_nil)))) (b_one (s_if (t_cmp (op_eqA hr.units rfl) sim_eq (d_var 3) d_int (nomark _)) (b_one (s_expr (d_bm PySem.F.slot_list_append PySem.F.type_list_append mt_append sim_append (d_var 2) (a_cons (d_meth W.c_Cast.cl W.t_Cast_putter.m (ok_Cast_putter W) g (hr.mono (by decide)) tk (d_var 0) (a_cons (d_var 1) a_nil)) a_nil)))) (b_one (s_expr (d_bm PySem.F.slot_list_append PySem.F.type_list_append mt_append sim_append (d_var 2) (a_cons (d_meth W.c_Cast.cl W.t_Cast_enders.m (ok_Cast_enders W) g (hr.mono (by decide)) tk (d_var 0) (a_cons (d_var 1) a_nil)) a_nil)))))))))
      (fun a oe cls d pn hz hf => (b_one (s_expr (d_bm PySem.F.slot_list_append PySem.F.type_list_append mt_append sim_append (d_var 2) (a_cons (d_tup (a_cons d_str (a_cons (d_callB (call_reprA g hr.units rfl) sim_repr W.z_repr (a_cons (d_xf hz hf (d_var 4)) a_nil)) a_nil))) a_nil))))))))
      (b_one (s_ret (d_var 2)))))⟩) (fun ds μ Q E h => ?_)).fn0 W.t_law_asked.b
  unfold S_law_asked at h
  split at h
  · rename_i x r
    obtain ⟨n, b, xs, rfl, ok, fr, sr, _, cr, hb6, vr, q⟩ := h
    rw [show startD ["cast", "value", "told", "way", "e"] [castD W n b xs, r] = [some (castD W n b xs), some (r), none, none, none] from rfl]
    have l5 := ok.len
    have n2 := ok.n2
    have hpl := putters_len n xs
    have low : ∀ k : Nat, k ≤ 7 → betF r 0 ((k : Int) - 1) = false := fun k hk => by
      cases r with
      | int i =>
        have h6 : (decide (0 ≤ i) && decide (i ≤ 6)) = false := hb6
        show (decide (0 ≤ i) && decide (i ≤ (k : Int) - 1)) = false
        cases c : decide (0 ≤ i) with
        | false => rfl
        | true =>
          rw [c, Bool.true_and] at h6
          have := of_decide_eq_false h6
          exact decide_eq_false (by omega)
      | _ => rfl
    refine seq_step fun nx hnx => ?_
    push_cast
    refine ⟨by decide, hnx _ _ ?_⟩
    clear hnx nx
    refine seq_step fun nx hnx => ?_
    push_cast
    refine ⟨⟨by decide, by decide⟩, ?_⟩
    have atk : ∀ l : List D, (μ ++ [M.lst l])[μ.length]? = some (M.lst l) := fun l => at_r0
    refine for_map (fun k ρ μ1 => k ≤ 3 ∧ ∃ o3 o4, μ1 = μ ++ [.lst (List.replicate k (.tup [.str (Str.ofString "bad"), .str (shownD r)]))] ∧ ρ = [some (castD W n b xs), some r, some (.ob μ.length), o3, o4]) ⟨by decide, none, none, rfl, rfl⟩ (fun _ _ _ _ => by first | exact True.intro | rfl) ?_ ?_
    · rintro ρ μ1 ⟨_, o3, o4, rfl, rfl⟩
      refine hnx _ _ ?_
      clear hnx nx
      push_cast
      have e : fz (μ ++ [M.lst (List.replicate (dints 0 (Int.toNat 3)).length (.tup [.str (Str.ofString "bad"), .str (shownD r)]))]) μ.length 6 (.ob μ.length) = .lst [.tup [.str (Str.ofString "bad"), .str (shownD r)], .tup [.str (Str.ofString "bad"), .str (shownD r)], .tup [.str (Str.ofString "bad"), .str (shownD r)]] := by
        rw [fz_obL (by omega) (atk _)]
        rfl
      refine .inr ⟨stays_app, ?_, ?_⟩
      · rw [e]; rfl
      · rw [e, take_n rfl]; exact q
    · rintro k e ρ μ1 go he ⟨hk3, o3, o4, rfl, rfl⟩ kk
      have hlt := lt_of_at he
      rw [dints_len] at hlt
      rw [dints_get _ _ _ hlt, Int.zero_add] at he
      cases he
      have hlt : k < 3 := hlt
      have kk := kk [some (castD W n b xs), some r, some (.ob μ.length), some (.int k), none] (μ ++ [.lst (List.replicate k (.tup [.str (Str.ofString "bad"), .str (shownD r)]) ++ [.tup [.str (Str.ofString "bad"), .str (shownD r)]])]) ⟨by omega, _, _, by rw [List.replicate_succ'], rfl⟩
      push_cast [S_Cast_getitem, S_Cast_putter, S_Cast_enders]
      have hz : (List.replicate k (D.tup [D.str (Str.ofString "bad"), D.str (shownD r)])).length < sizeLine := Nat.lt_of_le_of_lt (show _ ≤ 3 by rw [List.length_replicate]; omega) (by decide)
      have lo1 : betF r 0 ((xs.length : Int) - 1) = false := low _ (by omega)
      have lo2 : betF r 0 (((puttersN n xs).length : Int) - 1) = false := low _ (by omega)
      refine ifb (fun h1 => ?_) (fun h1 => ifb (fun h2 => ?_) (fun h2 => ?_))
      · refine ⟨isLst_at (atk _), rfl, n, b, xs, rfl, fr, fun _ => ⟨true, W.xm_BadCast, fun _ a d => ⟨isLst_at (atk _), W.xf_BadCast, W.e_BadCast.no, showOk_repr sr (vr _) ?_⟩, fun z => nomatch z⟩, fun i d hi hd => ?_⟩
        · push_cast [atk]
          exact ⟨by decide, hz, kk⟩
        · rw [hi, bet_yes (lt_of_at hd)] at lo1; cases lo1
      · refine ⟨isLst_at (atk _), ⟨rfl, rfl⟩, n, b, xs, rfl, fr, fun _ => ⟨true, W.xm_BadCast, fun _ a d => ⟨isLst_at (atk _), W.xf_BadCast, W.e_BadCast.no, showOk_repr sr (vr _) ?_⟩, fun z => nomatch z⟩, fun i d hi hd => ?_⟩
        · push_cast [atk]
          exact ⟨by decide, hz, kk⟩
        · rw [hi, bet_yes (lt_of_at hd)] at lo2; cases lo2
      · refine ⟨isLst_at (atk _), ⟨rfl, rfl⟩, n, b, xs, rfl, ok, fr, fun _ => ⟨true, W.xm_BadCast, fun _ a d => ⟨isLst_at (atk _), W.xf_BadCast, W.e_BadCast.no, showOk_repr sr (vr _) ?_⟩, fun z => nomatch z⟩, fun i hi hd => ?_⟩
        · push_cast [atk]
          exact ⟨by decide, hz, kk⟩
        · rw [hi, bet_yes hd] at lo2; cases lo2
  · exact h.elim

end
end Toy
set_option Elab.async false
set_option linter.all false
set_option maxRecDepth 100000
set_option maxHeartbeats 4000000
namespace Toy
open PySem PySem.Spec PyProof.Rows L2 DX
section
variable {P : Program} {w : World} {K : PySem.W.Frag} {mg : Str → Option Value} {base : Heap}
/-- values among the hands -/
def GoodV (x : D) : Prop := HDom x ∧ dlay x = true ∧ ddep x ≤ 2
def hdomB (x : D) : Bool := match x with
  | .non => true
  | .bl _ => true
  | .int _ => true
  | .str _ => true
  | .lst _ => true
  | .tup ds => decide (ds.length ≤ 100) && ds.all dflat
  | _ => false
theorem hdom_b {x : D} (h : hdomB x = true) : HDom x := by
  cases x with
  | tup ds =>
    have h : (decide (ds.length ≤ 100) && ds.all dflat) = true := h
    rw [Bool.and_eq_true, decide_eq_true_iff] at h
    exact h
  | non => trivial
  | bl _ => trivial
  | int _ => trivial
  | str _ => trivial
  | lst _ => trivial
  | _ => cases h
theorem strange_ok : ∀ x ∈ strangeL, GoodV x := fun x hx => by
  have h : (strangeL.all fun x => hdomB x && (dlay x && decide (ddep x ≤ 2))) = true := by decide +kernel
  have := List.all_eq_true.mp h x hx
  simp only [Bool.and_eq_true, decide_eq_true_iff] at this
  exact ⟨hdom_b this.1, this.2⟩
theorem strange_nb : ∀ x ∈ strangeL, ∀ b, x ≠ .bl b := fun x hx b e => by
  have h : (strangeL.all fun x => match x with | .bl _ => false | _ => true) = true := by decide +kernel
  have := List.all_eq_true.mp h x hx
  rw [e] at this; cases this
theorem hd_good (h : Hd) : GoodV (hdD h) := ⟨hd_dom h, hd_layS h, by cases h <;> exact Nat.le_succ 1⟩
theorem odd_ok : ∀ x ∈ oddL, plainD x = true ∧ ShowOk x ∧ (∀ n, cld n x = true) ∧ betF x 0 6 = false ∧ (∀ μ : Mem, view μ x = x) ∧ PyData.strOk (shownD x) = true := fun x hx => by
  have h : (oddL.all fun x => (match toP x with | some p => Gd.okShow p | none => false) && (!betF x 0 6 && PyData.strOk (shownD x))) = true := by decide +kernel
  have h1 := List.all_eq_true.mp h x hx
  simp only [Bool.and_eq_true] at h1
  refine ⟨?_, ?_, ?_, ?_, ?_, h1.2.2⟩
  · revert x; exact all_cons (fun _ => rfl) (all_cons (fun _ => rfl) (all_cons (fun _ => rfl) (all_cons (fun _ => rfl) (all_cons (fun _ => rfl) (all_cons (fun _ => rfl) (all_cons (fun _ => rfl) (all_cons (fun _ => rfl) (all_cons (fun _ => rfl) (all_cons (fun _ => rfl) all_nil)))))))))
  · cases e : toP x with
    | none => rw [e] at h1; cases h1.1
    | some p => rw [e] at h1; exact ⟨p, e, h1.1⟩
  · intro n
    clear h h1
    revert x; exact all_cons rfl (all_cons rfl (all_cons rfl (all_cons rfl (all_cons rfl (all_cons rfl (all_cons rfl (all_cons rfl (all_cons rfl (all_cons rfl all_nil)))))))))
  · simpa using h1.2.1
  · clear h h1
    revert x; exact all_cons (fun _ => rfl) (all_cons (fun _ => rfl) (all_cons (fun _ => rfl) (all_cons (fun _ => rfl) (all_cons (fun _ => rfl) (all_cons (fun _ => rfl) (all_cons (fun _ => rfl) (all_cons (fun _ => rfl) (all_cons (fun _ => rfl) (all_cons (fun _ => rfl) all_nil)))))))))

theorem ok_law (W : Wd P w K mg base) : FnD P w K mg base 9 W.f_law (SLaw0) := by
  refine (okB W.t_law.d sc_law (by (intro ds μ Q E h; obtain ⟨_, ns, hx, _⟩ := h; subst hx; rfl)) _ (fun cdv A outer s H E' g hr => ⟨_, (b_cons (s_set 1 sc_law.nd (d_call (ok_law_pot W) W.t_law_pot.a W.t_law_pot.d.kp g (hr.mono (by decide)) (takes_of rfl rfl rfl rfl) (a_cons (d_var 0) a_nil)))
      (b_cons (s_set 2 sc_law.nd (d_call (ok_law_draw W) W.t_law_draw.a W.t_law_draw.d.kp g (hr.mono (by decide)) (takes_of rfl rfl rfl rfl) (a_cons (d_var 1) (a_cons d_int a_nil))))
      (b_cons (s_set 3 sc_law.nd (d_call (ok_law_hands W) W.t_law_hands.a W.t_law_hands.d.kp g (hr.mono (by decide)) (takes_of rfl rfl rfl rfl) (a_cons (d_var 1) (a_cons (d_var 2) (a_cons (d_call (ok_law_draw W) W.t_law_draw.a W.t_law_draw.d.kp g (hr.mono (by decide)) (takes_of rfl rfl rfl rfl) (a_cons (d_var 1) (a_cons d_int a_nil))) a_nil)))))
      (b_cons (s_set 4 sc_law.nd (d_cmp (op_eqA hr.units rfl) sim_eq (d_call (ok_law_draw W) W.t_law_draw.a W.t_law_draw.d.kp g (hr.mono (by decide)) (takes_of rfl rfl rfl rfl) (a_cons (d_var 1) (a_cons d_int a_nil))) d_int (nomark _)))
      (b_cons (s_for (passes_of rfl) (i_rng1 W.z_range (a_cons (d_call (ok_law_draw W) W.t_law_draw.a W.t_law_draw.d.kp g (hr.mono (by decide)) (takes_of rfl rfl rfl rfl) (a_cons (d_var 1) (a_cons d_int a_nil))) a_nil)) (g_name 5 sc_law.nd)
      (b_one (s_if (t_cmp (op_neA hr.units rfl) sim_ne (d_var 3) (d_lst a_nil) (nomark _)) (b_one (s_asg (d_call (ok_law_strange W) W.t_law_strange.a W.t_law_strange.d.kp g (hr.mono (by decide)) (takes_of rfl rfl rfl rfl) (a_cons (d_var 1) a_nil)) (g_set (d_var 3) (d_call (ok_law_draw W) W.t_law_draw.a W.t_law_draw.d.kp g (hr.mono (by decide)) (takes_of rfl rfl rfl rfl) (a_cons (d_var 1) (a_cons (d_callB (call_lenA rfl) sim_len W.z_len (a_cons (d_var 3) a_nil)) a_nil)))))) b_nil)))
      (b_cons (s_set 6 sc_law.nd (d_ix (d_lst (a_cons (d_var 2) (a_cons (d_var 2) (a_cons (d_var 2) (a_cons (d_un un_neg d_int) (a_cons d_int (a_cons d_bl (a_cons d_non (a_cons d_str (a_cons (d_lst (a_cons d_int a_nil)) a_nil)))))))))) (d_call (ok_law_draw W) W.t_law_draw.a W.t_law_draw.d.kp g (hr.mono (by decide)) (takes_of rfl rfl rfl rfl) (a_cons (d_var 1) (a_cons d_int a_nil)))))
      (b_cons (s_set 7 sc_law.nd (d_ix (d_lst (a_cons (d_var 4) (a_cons (d_var 4) (a_cons (d_var 4) (a_cons d_int (a_cons d_int (a_cons d_non (a_cons d_str a_nil)))))))) (d_call (ok_law_draw W) W.t_law_draw.a W.t_law_draw.d.kp g (hr.mono (by decide)) (takes_of rfl rfl rfl rfl) (a_cons (d_var 1) (a_cons d_int a_nil)))))
      (b_cons (s_for (passes_of rfl) (i_seq (d_lst (a_cons (d_tup (a_cons (d_var 2) (a_cons (d_var 4) a_nil))) (a_cons (d_tup (a_cons (d_var 6) (a_cons (d_var 4) a_nil))) (a_cons (d_tup (a_cons (d_var 2) (a_cons (d_var 7) a_nil))) (a_cons (d_tup (a_cons (d_var 6) (a_cons (d_var 7) a_nil))) a_nil)))))) (g_name 8 sc_law.nd)
      (b_cons (s_set 9 sc_law.nd (d_call (ok_law_due W) W.t_law_due.a W.t_law_due.d.kp g (hr.mono (by decide)) (takes_of rfl rfl rfl rfl) (a_cons (d_ix (d_var 8) d_int) (a_cons (d_var 3) (a_cons (d_ix (d_var 8) d_int) a_nil)))))
      (b_one (s_if (t_cmp (op_neA hr.units rfl) sim_ne (d_call (ok_law_made W) W.t_law_made.a W.t_law_made.d.kp g hr (takes_of rfl rfl rfl rfl) (a_cons (d_ix (d_var 8) d_int) (a_cons (d_var 3) (a_cons (d_ix (d_var 8) d_int) a_nil)))) (d_ifExp (t_isN (d_var 9)) d_non (d_lst (a_cons (d_var 9) (a_cons d_bl (a_cons d_bl (a_cons d_bl a_nil)))))) (nomark _)) (b_one (s_ret d_bl)) b_nil))))
      (b_cons (s_set 10 sc_law.nd (d_call (ok_law_hands W) W.t_law_hands.a W.t_law_hands.d.kp g (hr.mono (by decide)) (takes_of rfl rfl rfl rfl) (a_cons (d_var 1) (a_cons (d_var 2) (a_cons d_int a_nil)))))
      (b_cons (s_set 11 sc_law.nd (d_call (ok_law_cast W) W.t_law_cast.a W.t_law_cast.d.kp g (hr.mono (by decide)) (takes_of rfl rfl rfl rfl) (a_cons (d_var 2) (a_cons (d_var 10) (a_cons (d_var 4) a_nil)))))
      (b_cons (s_set 12 sc_law.nd (d_call (ok_law_strange W) W.t_law_strange.a W.t_law_strange.d.kp g (hr.mono (by decide)) (takes_of rfl rfl rfl rfl) (a_cons (d_var 1) a_nil)))
      (b_cons (s_set 9 sc_law.nd (d_call (ok_law_due W) W.t_law_due.a W.t_law_due.d.kp g (hr.mono (by decide)) (takes_of rfl rfl rfl rfl) (a_cons (d_var 2) (a_cons (d_op (op_addA rfl) sim_add (d_var 10) (d_lst (a_cons (d_var 12) a_nil))) (a_cons (d_var 4) a_nil)))))
      (b_cons (s_set 13 sc_law.nd d_non)
      (b_cons (s_try 14 sc_law.nd ⟨by rfl, by decide, .inl W.e_BadCast.gC⟩ (takes_of rfl rfl rfl rfl) (fun W' pn xe tk po => (b_one (s_set 11 sc_law.nd (d_addO W.ad_Cast (ok_Cast_add W) g (hr.mono (by decide)) tk (d_var 11) (d_var 12)))))
      (fun a oe cls d pn hz hf => (b_one (s_set 13 sc_law.nd (d_callB (call_reprA g hr.units rfl) sim_repr W.z_repr (a_cons (d_xf hz hf (d_var 14)) a_nil))))))
      (b_cons (s_if (WD.td (w_or (t_cmp (op_neA hr.units rfl) sim_ne (d_var 13) (d_var 9) (nomark _)) (w_or1 (t_cmp (op_neA hr.units rfl) sim_ne (d_callB (call_lenO W.ln_Cast (ok_Cast_len W) g (hr.mono (by decide)) rfl) sim_lenO W.z_len (a_cons (d_var 11) a_nil)) (d_op (op_addA rfl) sim_add d_int (d_callTy call_int1 sim_int W.z_int (a_cons (d_isN (d_var 9)) a_nil))) (nomark _))))) (b_one (s_ret d_bl)) b_nil)
      (b_cons (s_set 15 sc_law.nd (d_call (ok_law_odd W) W.t_law_odd.a W.t_law_odd.d.kp g (hr.mono (by decide)) (takes_of rfl rfl rfl rfl) (a_cons (d_var 1) a_nil)))
      (b_cons (s_if (WD.td (w_or (t_cmp (op_neA hr.units rfl) sim_ne (d_call (ok_law_asked W) W.t_law_asked.a W.t_law_asked.d.kp g (hr.mono (by decide)) (takes_of rfl rfl rfl rfl) (a_cons (d_var 11) (a_cons (d_var 15) a_nil))) (d_op op_rep (sim_rep false) (d_lst (a_cons (d_tup (a_cons d_str (a_cons (d_callB (call_reprA g hr.units rfl) sim_repr W.z_repr (a_cons (d_var 15) a_nil)) a_nil))) a_nil)) d_int) (nomark _)) (w_or1 (t_cmp (op_neA hr.units rfl) sim_ne (d_call (ok_law_asked W) W.t_law_asked.a W.t_law_asked.d.kp g (hr.mono (by decide)) (takes_of rfl rfl rfl rfl) (a_cons (d_var 11) (a_cons d_int a_nil))) (d_op op_rep (sim_rep false) (d_lst (a_cons (d_tup (a_cons d_str (a_cons d_str a_nil))) a_nil)) d_int) (nomark _))))) (b_one (s_ret d_bl)) b_nil)
      (b_one (s_ret (d_cmp (op_eqA hr.units rfl) sim_eq (d_lc false [("at", 16)] sc_law.nd (i_rng1 W.z_range (a_cons d_int a_nil)) (blkOk_by (own := [("at", 16)]) (N := ["script", "pot", "old", "hands", "is_set", "k", "odd_old", "odd_set", "values", "due", "good", "cast", "hand", "told", "e", "odd", "at"]) (sc := defScope s_law) (by decide +kernel)) (fun _ _ _ _ _ => (g_name 16 sc_law.nd)) (fun _ _ _ _ _ => ts_nil) (fun _ _ _ _ _ => (d_getO W.gi_Cast (ok_Cast_getitem W) g (hr.mono (by decide)) takes0 (d_var 11) (d_var 16))) (wip_name (by decide)) mono_name) (d_var 10) (nomark _)))))))))))))))))))))⟩) (fun ds μ Q E h => ?_)).fn0 W.t_law.b
  unfold SLaw0 at h
  obtain ⟨rfl, ns, rfl, hn, q⟩ := h
  rw [show startD ["script", "pot", "old", "hands", "is_set", "k", "odd_old", "odd_set", "values", "due", "good", "cast", "hand", "told", "e", "odd", "at"] [.kl (ns.map .int)] = [some (.kl (ns.map .int)), none, none, none, none, none, none, none, none, none, none, none, none, none, none, none, none] from rfl]
  refine seq_step fun nx hnx => ?_
  push_cast [S_law_pot]
  refine ⟨ns, rfl, hn, fun c p hp => hnx _ _ ?_⟩
  clear hnx nx
  refine seq_step fun nx hnx => ?_
  push_cast [S_law_draw]
  refine ⟨hp, by decide, by decide, fun n c p hn2 hp => hnx _ _ ?_⟩
  clear hnx nx
  have hn2 : n ≤ 2 := by omega
  refine seq_step fun nx hnx => ?_
  push_cast [S_law_draw]
  refine ⟨hp, by decide, by decide, fun m c p hm hp => ?_⟩
  push_cast [S_law_hands]
  refine ⟨n, m, rfl, rfl, hn2, by omega, hp, .inr fun hs c p hl hp hb => hnx _ _ ?_⟩
  clear hnx nx
  refine seq_step fun nx hnx => ?_
  push_cast [S_law_draw]
  refine ⟨hp, by decide, by decide, fun b c p hb2 hp => hnx _ _ ?_⟩
  clear hnx nx hb2
  generalize ((b : Int) == 1) = bb
  have l6 : (hs.map hdD).length ≤ 6 := by rw [List.length_map]; omega
  have gs : ∀ x ∈ hs.map hdD, GoodV x := all_map fun h _ => hd_good h
  generalize hs.map hdD = xs at l6 gs
  clear hb hl hs hm
  have gl : ∀ xs : List D, (∀ x ∈ xs, GoodV x) → Lay 60 (.lst xs) := fun xs h => (lay_lst (k := 2) fun x hx => (h x hx).2).mono (by decide)
  refine seq_step fun nx hnx => ?_
  push_cast [S_law_draw]
  refine ⟨hp, by decide, by decide, fun cnt c p hcnt hp => ?_⟩
  refine ⟨⟨by omega, by omega⟩, ?_⟩
  refine for_map (fun i ρ μ1 => ∃ (c p : DX.M) (xs : List D) (o5 : Option D), PotHd c p ∧ xs.length ≤ 6 ∧ (∀ x ∈ xs, GoodV x) ∧ μ1 = [c, p, .lst xs] ∧ ρ = [some (.kl (ns.map .int)), some (.ob 1), some (.int n), some (.ob 2), some (.bl bb), o5, none, none, none, none, none, none, none, none, none, none, none]) ⟨c, p, xs, none, hp, l6, gs, rfl, rfl⟩ (fun _ _ _ _ => by first | exact True.intro | rfl) ?_ ?_
  rotate_left
  · rintro i e ρ μ1 go he ⟨c, p, xs, o5, hp, l6, gs, rfl, rfl⟩ kk
    have v2 : ∀ (c p : DX.M) (xs : List D), view [c, p, .lst xs] (.ob 2) = .lst xs := fun c p xs => v_obL rfl
    push_cast [v2]
    have e0 : deqv (.lst xs) (.lst []) = (xs.length == 0) := by rw [deqv_lst]; cases xs <;> rfl
    refine ⟨Nat.zero_le _, eqok (gl xs gs) ⟨rfl, (by decide : 1 ≤ 60)⟩, ?_⟩
    rw [e0]
    refine ifb (fun h1 => ?_) (fun h1 => kk _ _ ⟨c, p, xs, _, hp, l6, gs, rfl, rfl⟩)
    have h1 : 0 < xs.length := by
      cases xs with
      | nil => cases h1
      | cons _ _ => exact Nat.succ_pos _
    push_cast [S_law_strange]
    refine ⟨hp, fun x c p hx hp => ?_⟩
    push_cast [v2, S_law_draw]
    refine ⟨hp, by omega, by omega, fun j c p hj hp => ?_⟩
    push_cast [ixN_nat (Int.ofNat_lt.mp hj)]
    exact kk _ _ ⟨c, p, xs.set j x, _, hp, by rw [List.length_set]; exact l6, fun y hy => by
      rcases List.mem_or_eq_of_mem_set hy with h | rfl
      · exact gs y h
      · exact strange_ok _ hx, rfl, rfl⟩
  · rintro ρ μ1 ⟨c, p, xs, o5, hp, l6, gs, rfl, rfl⟩
    refine hnx _ _ ?_
    clear hnx nx
    refine seq_step fun nx hnx => ?_
    push_cast
    repeat (refine ⟨by first | decide | (unfold CPow; decide), ?_⟩)
    push_cast [S_law_draw]
    refine ⟨hp, by decide, by decide, fun d c p hd hp => ?_⟩
    obtain ⟨oo, hx, hm⟩ := pick (xs := [.int n, .int n, .int n, .int (-1), .int 3, .bl true, .non, .str (Str.ofString "1"), .lst [.int 2]]) (n := 9) hd rfl
    have hoo : plainD oo = true := by
      clear hx
      revert oo
      exact all_cons rfl (all_cons rfl (all_cons rfl (all_cons rfl (all_cons rfl (all_cons rfl (all_cons rfl (all_cons rfl (all_cons rfl all_nil))))))))
    push_cast [hx]
    refine hnx _ _ ?_
    clear hnx nx hm hx hd d
    refine seq_step fun nx hnx => ?_
    push_cast
    repeat (refine ⟨by first | decide | (unfold CPow; decide), ?_⟩)
    push_cast [S_law_draw]
    refine ⟨hp, by decide, by decide, fun d c p hd hp => ?_⟩
    obtain ⟨om, hx, hm⟩ := pick (xs := [.bl bb, .bl bb, .bl bb, .int 0, .int 1, .non, .str (Str.ofString "yes")]) (n := 7) hd rfl
    have hom : plainD om = true := by
      clear hx
      revert om
      exact all_cons rfl (all_cons rfl (all_cons rfl (all_cons rfl (all_cons rfl (all_cons rfl (all_cons rfl all_nil))))))
    push_cast [hx]
    refine hnx _ _ ?_
    clear hnx nx hm hx hd d
    refine seq_step fun nx hnx => ?_
    push_cast
    repeat (refine ⟨by decide, ?_⟩)
    refine for_map (fun i ρ μ1 => ∃ (o8 o9 : Option D), μ1 = [c, p, .lst xs] ∧ ρ = [some (.kl (ns.map .int)), some (.ob 1), some (.int n), some (.ob 2), some (.bl bb), o5, some oo, some om, o8, o9, none, none, none, none, none, none, none]) ⟨none, none, rfl, rfl⟩ (fun _ _ _ _ => by first | exact True.intro | rfl) ?_ ?_
    rotate_left
    · rintro i e ρ μ1 go he ⟨o8, o9, rfl, rfl⟩ kk
      obtain ⟨o, m, rfl, fo, fm⟩ : ∃ o m, e = .tup [o, m] ∧ plainD o = true ∧ plainD m = true := by
        have hm := List.mem_of_getElem? he
        clear he kk go
        revert e
        refine all_cons ?_ (all_cons ?_ (all_cons ?_ (all_cons ?_ all_nil)))
        · exact ⟨_, _, rfl, rfl, rfl⟩
        · exact ⟨_, _, rfl, hoo, rfl⟩
        · exact ⟨_, _, rfl, rfl, hom⟩
        · exact ⟨_, _, rfl, hoo, hom⟩
      clear he
      have v2 : view [c, p, .lst xs] (.ob 2) = .lst xs := v_obL rfl
      simp only [uGName, List.set_cons_zero, List.set_cons_succ]
      refine seq_step fun nx2 hnx2 => ?_
      push_cast [S_law_due]
      refine ⟨xs, v2, fo, fm, by omega, fun x hx => ⟨(gs x hx).1, (gs x hx).2.1⟩, ?_⟩
      refine hnx2 _ _ ?_
      clear hnx2 nx2
      push_cast [S_law_made]
      refine ⟨xs, v2, fo, fm, by omega, fun x hx => (gs x hx).1, fun e he => ?_, fun he => ?_⟩
      · have hd : dueS o m xs = .str (shownD e) := by unfold dueS; rw [he]
        push_cast [hd]
        have l1 : Lay 60 (.lst [.str (shownD e), .bl true, .bl true, .bl false]) := (lay_lst (k := 0) (all_cons (lay_str (dueC_text l6 he)) (all_cons ⟨rfl, Nat.le_refl _⟩ (all_cons ⟨rfl, Nat.le_refl _⟩ (all_cons ⟨rfl, Nat.le_refl _⟩ all_nil))))).mono (by decide)
        refine ⟨by decide, eqok l1 l1, ?_⟩
        rw [deqv_lst, deqvL_refl l1.1]
        exact kk _ _ ⟨_, _, rfl, rfl⟩
      · have hd : dueS o m xs = .non := by unfold dueS; rw [he]
        push_cast [hd]
        exact ⟨rfl, kk _ _ ⟨_, _, rfl, rfl⟩⟩
    · rintro ρ μ1 ⟨o8, o9, rfl, rfl⟩
      refine hnx _ _ ?_
      clear hnx nx
      refine seq_step fun nx hnx => ?_
      push_cast [S_law_hands]
      refine ⟨n, 4, rfl, rfl, hn2, by decide, hp, .inl fun hs c p hl hp hb => hnx _ _ ?_⟩
      clear hnx nx
      have ok : CastOk n (hs.map hdD) := hd_cast hn2 (by omega) hb
      have gs : ∀ x ∈ hs.map hdD, GoodV x := all_map fun h _ => hd_good h
      have hl : (hs.map hdD).length = 4 := by rw [List.length_map]; exact hl
      generalize hs.map hdD = ys at ok gs hl
      clear hb
      refine seq_step fun nx hnx => ?_
      push_cast [S_law_cast]
      refine ⟨ys, rfl, rfl, rfl, by omega, fun x hx => (gs x hx).1, fun e he => (by rw [dueC_none ok] at he; cases he), fun n' b' e1 e2 _ => ?_⟩
      cases e1
      cases e2
      refine hnx _ _ ?_
      clear hnx nx
      refine seq_step fun nx hnx => ?_
      push_cast [S_law_strange]
      refine ⟨hp, fun x c p hx hp => hnx _ _ ?_⟩
      clear hnx nx
      have gx := strange_ok x hx
      have tx : ∃ t, tyOf [c, p, .lst xs] x = some t ∧ (∀ C : Addr, t ≠ .own C) ∧ AddT K W.C_Cast (tyT t) := by
        have nb := strange_nb x hx
        have hd := gx.1
        cases x with
        | non => exact ⟨_, rfl, (by intro C z; cases z), W.at_NoneType⟩
        | bl b => exact absurd rfl (nb b)
        | int _ => exact ⟨_, rfl, (by intro C z; cases z), W.at_int⟩
        | str _ => exact ⟨_, rfl, (by intro C z; cases z), W.at_str⟩
        | lst _ => exact ⟨_, rfl, (by intro C z; cases z), W.at_list⟩
        | tup _ => exact ⟨_, rfl, (by intro C z; cases z), W.at_tuple⟩
        | _ => exact hd.elim
      clear hx
      refine seq_step fun nx hnx => ?_
      push_cast [S_law_due]
      have ga : ∀ y ∈ ys ++ [x], GoodV y := all_app gs (all_cons gx all_nil)
      refine ⟨by decide, Nat.le_trans (show ys.length + 1 ≤ 5 by omega) (by decide), ys ++ [x], rfl, rfl, rfl, by rw [List.length_append]; show ys.length + 1 ≤ 100; omega, fun y hy => ⟨(ga y hy).1, (ga y hy).2.1⟩, hnx _ _ ?_⟩
      clear hnx nx
      refine seq_step fun nx hnx => ?_
      push_cast
      refine hnx _ _ ?_
      clear hnx nx
      refine seq_step fun nx hnx => ?_
      push_cast [S_Cast_add]
      have rest : ∀ (zs more : List D) (told : D), zs = ys ++ more → CastOk n zs → dueS (.int n) (.bl bb) (ys ++ [x]) = told → (told = .non ∧ more.length = 1 ∨ (∃ k : Nat, k < 12 ∧ told = .str (shownD (.int k))) ∧ more.length = 0) → nx [some (.kl (ns.map .int)), some (.ob 1), some (.int n), some (.ob 2), some (.bl bb), o5, some oo, some om, o8, some (dueS (.int n) (.bl bb) (ys ++ [x])), some (.lst ys), some (castD W n bb zs), some x, some told, none, none, none] [c, p, .lst xs] := by
        rintro zs more told rfl okz hd ht
        rw [hd]
        refine hnx _ _ ?_
        clear hnx nx
        refine seq_step fun nx hnx => ?_
        have l1 : Lay 60 told ∧ view [c, p, .lst xs] told = told := by
          rcases ht with ⟨rfl, _⟩ | ⟨⟨k, hk, rfl⟩, _⟩
          · exact ⟨⟨rfl, (by decide : 0 ≤ 60)⟩, rfl⟩
          · have h : ∀ k : Nat, k < 12 → PyData.strOk (shownD (.int k)) = true := by decide +kernel
            exact ⟨(lay_str (h k hk)).mono (by decide), rfl⟩
        have hn4 : ((((ys ++ more).length : Nat) : Int) == 4 + if DX.isNon told = true then 1 else 0) = true := by
          rw [List.length_append, hl]
          rcases ht with ⟨rfl, e⟩ | ⟨⟨k, hk, rfl⟩, e⟩
          · rw [e]; rfl
          · rw [e]; rfl
        push_cast [S_Cast_len]
        rw [l1.2, deqv_refl l1.1.1]
        have l5 := okz.len
        refine ⟨eqok l1.1 l1.1, ?_⟩
        push_cast
        refine ⟨rfl, n, bb, ys ++ more, rfl, _, rfl, by omega, ?_⟩
        rw [hn4]
        refine hnx _ _ ?_
        clear hnx nx hn4 ht hd l1
        refine seq_step fun nx hnx => ?_
        push_cast [S_law_odd]
        refine ⟨hp, fun r c p hr hp => hnx _ _ ?_⟩
        clear hnx nx
        obtain ⟨o1, o2, o3, o4, o5', o6⟩ := odd_ok r hr
        clear hr
        refine seq_step fun nx hnx => ?_
        push_cast [S_law_asked]
        refine ⟨n, bb, _, rfl, okz, o1, o2, o5' _, o3 _, o4, o5', ?_⟩
        have lb : ∀ s : Str, PyData.strOk s = true → Lay 60 (.lst [.tup [.str (Str.ofString "bad"), .str s], .tup [.str (Str.ofString "bad"), .str s], .tup [.str (Str.ofString "bad"), .str s]]) := fun s hs => by
          have h : Lay 1 (.tup [.str (Str.ofString "bad"), .str s]) := lay_tup (k := 0) (all_cons (lay_str (by decide +kernel)) (all_cons (lay_str hs) all_nil))
          exact (lay_lst (all_cons h (all_cons h (all_cons h all_nil)))).mono (by decide)
        have rp : ∀ d : D, (List.replicate (Int.toNat 3) [d]).flatten = [d, d, d] := fun _ => rfl
        have s7 : shownD (.int 7) = Str.ofString "7" := by decide +kernel
        refine showOk_repr o2 (o5' _) ?_
        have lr := lb _ o6
        refine ⟨by decide, by decide, by decide, by rw [rp]; exact eqok lr lr, ?_⟩
        rw [rp, deqv_lst, deqvL_refl lr.1]
        push_cast
        have l7 := lb (Str.ofString "7") (by decide +kernel)
        rw [s7]
        refine ⟨n, bb, _, rfl, okz, rfl, show_nat (by decide), rfl, by decide, fun _ => trivial, by decide, by decide, by decide, by rw [rp]; exact eqok l7 l7, ?_⟩
        rw [rp, deqv_lst, deqvL_refl l7.1]
        refine hnx _ _ ?_
        clear hnx nx l7 lr lb rp s7
        push_cast
        refine ⟨by decide, ?_⟩
        have lay : Lay 60 (.lst ys) := gl ys gs
        refine lc_pure (fun i _ => ys[i]?) (by decide) (by first | trivial | rfl) ?_ ?_
        · intro k e acc go he hacc kk
          have hlt := lt_of_at he
          rw [dints_len] at hlt
          rw [dints_get _ _ _ hlt, Int.zero_add] at he
          have hlt : k < 4 := hlt
          cases he
          have hx : ys[k]? = some ys[k] := List.getElem?_eq_getElem (by omega)
          have hx2 : (ys ++ more)[k]? = ys[k]? := List.getElem?_append_left (by omega)
          push_cast [S_Cast_getitem]
          refine ⟨rfl, n, bb, ys ++ more, rfl, rfl, fun h => ?_, fun j d hj hd => ?_⟩
          · have : betF (.int (k : Int)) 0 (((ys ++ more).length : Int) - 1) = true := bet_yes (by rw [List.length_append]; omega)
            rw [this] at h
            cases h
          · injection hj with hj
            obtain rfl : k = j := by omega
            rw [hx2, hx] at hd
            rw [hx] at kk
            cases hd
            exact ⟨hacc, kk⟩
        · rw [show dints 0 (Int.toNat 4) = dints 0 ys.length by rw [hl]; rfl, fmI_get]
          refine ⟨eqok lay lay, ?_⟩
          rw [deqv_refl lay.1]
          exact .inl (q _)
      have ddef : dueC (.int n) (.bl bb) (ys ++ [x]) = (dueH n (ys ++ [x])).map fun k : Nat => (.int (k : Int) : D) := by
        unfold dueC
        simp only [show (0 ≤ (n : Int) ∧ (n : Int) ≤ 2) = True from eq_true ⟨by omega, by omega⟩, if_true, Int.toNat_natCast]
      refine ⟨rfl, tx, n, bb, ys, rfl, ok, gx.1, fun k hk => ?_, fun hk => ?_⟩
      · have hk2 : k < 12 := by have := dueH_le hk; rw [List.length_append] at this; have : k < ys.length + 1 + 6 := this; omega
        refine ⟨true, W.xm_BadCast, fun _ a d => ⟨W.xf_BadCast, W.e_BadCast.no, showOk_repr (show_nat (by omega)) rfl ?_⟩, fun z => nomatch z⟩
        refine rest ys [] _ (by simp) ok ?_ (.inr ⟨⟨k, hk2, rfl⟩, rfl⟩)
        unfold dueS; rw [ddef, hk]; rfl
      · refine rest (ys ++ [x]) [x] _ rfl ⟨hn2, hk, fun y hy => (ga y hy).1⟩ ?_ (.inl ⟨rfl, rfl⟩)
        unfold dueS; rw [ddef, hk]; rfl

end
end Toy
set_option Elab.async false
set_option linter.all false
set_option maxRecDepth 100000
set_option maxHeartbeats 4000000
namespace Toy
open PySem PySem.Spec PyProof.Rows L2 DX
section
variable {P : Program} {w : World} {K : PySem.W.Frag} {mg : Str → Option Value} {base : Heap}
theorem ok_BadCast_init {f D : Addr} {mc : Value} {fd : FuncData} (F : Fun K "__init__" "BadCast.__init__" s_BadCast_init f fd) (gD : mg "PagesError" = some (.ref D)) (U : Vx.UpC K D mc) : FnOk P w K mg base CX0 1 f fd ["self", "at"] (DX.spErr K "at") := by
  refine F.ok sc_BadCast_init (fun vs H Q E h => ?_) (fun cdv A outer s H vs Q E hr h => ?_)
  · obtain ⟨a, C, v, rfl, _⟩ := h
    rfl
  · obtain ⟨a, C, v, rfl, T, no, ha, q⟩ := h
    refine ⟨_, pss_cons (ps_expr (Vx.pe_up (pe_glob (v := .ref D) (by rfl) gD rfl) U (pa_cons (pv 0) (pa_cons pe_str pa_nil)))) (pss_one (ps_ost (pv 0) (pv 1))), ?_⟩
    exact ⟨rfl, _, rfl, a, C, _, rfl, (by decide), T, ha, _, rfl, _, rfl, a, C, rfl, T, no, .inl ⟨ha, fun d nd ne => q d nd ne⟩⟩
end
end Toy
set_option Elab.async false
set_option linter.all false
set_option maxRecDepth 100000
set_option maxHeartbeats 4000000
namespace Toy
open PySem PySem.Spec PyProof.Rows L2
theorem all_mk {l : PySem.W.OpenLaw} {w : World} {K : PySem.W.Frag} {h : Heap} {mg : Str → Option Value} {fa f_is_whole f_is_between f_is_one_of f_law_pot f_law_draw f_is_hand f_putters_of f_check_hands f_law_hands f_law_cast f_law_putters f_law_odd f_law_strange f_law_is_number f_law_has_form f_law_made f_law_due f_law_asked f_law C_Cast f_Cast_init KD_Cast_init f_Cast_len f_Cast_putter f_Cast_getitem f_Cast_enders f_Cast_add t_OUTCOMES D_PagesError X_BadCast f_iX_BadCast X_NoStep : Addr}  (X : K.In h) (G : h.Ns mainGlobals mg) (hfa : mg "law" = some (.ref fa))
    {od_is_whole an_is_whole : Option Addr} {sl_is_whole : Array (Option Value)} {oc_is_whole kV_is_whole dc_is_whole pm_is_whole cd_is_whole ct_is_whole : Value} {od_is_between an_is_between : Option Addr} {sl_is_between : Array (Option Value)} {oc_is_between kV_is_between dc_is_between pm_is_between cd_is_between ct_is_between : Value} {od_is_one_of an_is_one_of : Option Addr} {sl_is_one_of : Array (Option Value)} {oc_is_one_of kV_is_one_of dc_is_one_of pm_is_one_of cd_is_one_of ct_is_one_of : Value} {od_law_pot an_law_pot : Option Addr} {sl_law_pot : Array (Option Value)} {oc_law_pot kV_law_pot dc_law_pot pm_law_pot cd_law_pot ct_law_pot : Value} {od_law_draw an_law_draw : Option Addr} {sl_law_draw : Array (Option Value)} {oc_law_draw kV_law_draw dc_law_draw pm_law_draw cd_law_draw ct_law_draw : Value} {od_is_hand an_is_hand : Option Addr} {sl_is_hand : Array (Option Value)} {oc_is_hand kV_is_hand dc_is_hand pm_is_hand cd_is_hand ct_is_hand : Value} {od_putters_of an_putters_of : Option Addr} {sl_putters_of : Array (Option Value)} {oc_putters_of kV_putters_of dc_putters_of pm_putters_of cd_putters_of ct_putters_of : Value} {od_check_hands an_check_hands : Option Addr} {sl_check_hands : Array (Option Value)} {oc_check_hands kV_check_hands dc_check_hands pm_check_hands cd_check_hands ct_check_hands : Value} {od_law_hands an_law_hands : Option Addr} {sl_law_hands : Array (Option Value)} {oc_law_hands kV_law_hands dc_law_hands pm_law_hands cd_law_hands ct_law_hands : Value} {od_law_cast an_law_cast : Option Addr} {sl_law_cast : Array (Option Value)} {oc_law_cast kV_law_cast dc_law_cast pm_law_cast cd_law_cast ct_law_cast : Value} {od_law_putters an_law_putters : Option Addr} {sl_law_putters : Array (Option Value)} {oc_law_putters kV_law_putters dc_law_putters pm_law_putters cd_law_putters ct_law_putters : Value} {od_law_odd an_law_odd : Option Addr} {sl_law_odd : Array (Option Value)} {oc_law_odd kV_law_odd dc_law_odd pm_law_odd cd_law_odd ct_law_odd : Value} {od_law_strange an_law_strange : Option Addr} {sl_law_strange : Array (Option Value)} {oc_law_strange kV_law_strange dc_law_strange pm_law_strange cd_law_strange ct_law_strange : Value} {od_law_is_number an_law_is_number : Option Addr} {sl_law_is_number : Array (Option Value)} {oc_law_is_number kV_law_is_number dc_law_is_number pm_law_is_number cd_law_is_number ct_law_is_number : Value} {od_law_has_form an_law_has_form : Option Addr} {sl_law_has_form : Array (Option Value)} {oc_law_has_form kV_law_has_form dc_law_has_form pm_law_has_form cd_law_has_form ct_law_has_form : Value} {od_law_made an_law_made : Option Addr} {sl_law_made : Array (Option Value)} {oc_law_made kV_law_made dc_law_made pm_law_made cd_law_made ct_law_made : Value} {od_law_due an_law_due : Option Addr} {sl_law_due : Array (Option Value)} {oc_law_due kV_law_due dc_law_due pm_law_due cd_law_due ct_law_due : Value} {od_law_asked an_law_asked : Option Addr} {sl_law_asked : Array (Option Value)} {oc_law_asked kV_law_asked dc_law_asked pm_law_asked cd_law_asked ct_law_asked : Value} {od_law an_law : Option Addr} {sl_law : Array (Option Value)} {oc_law kV_law dc_law pm_law cd_law ct_law : Value} {od_Cast_init an_Cast_init : Option Addr} {sl_Cast_init : Array (Option Value)} {oc_Cast_init kV_Cast_init dc_Cast_init pm_Cast_init cd_Cast_init ct_Cast_init : Value} {od_Cast_len an_Cast_len : Option Addr} {sl_Cast_len : Array (Option Value)} {oc_Cast_len kV_Cast_len dc_Cast_len pm_Cast_len cd_Cast_len ct_Cast_len : Value} {od_Cast_putter an_Cast_putter : Option Addr} {sl_Cast_putter : Array (Option Value)} {oc_Cast_putter kV_Cast_putter dc_Cast_putter pm_Cast_putter cd_Cast_putter ct_Cast_putter : Value} {od_Cast_getitem an_Cast_getitem : Option Addr} {sl_Cast_getitem : Array (Option Value)} {oc_Cast_getitem kV_Cast_getitem dc_Cast_getitem pm_Cast_getitem cd_Cast_getitem ct_Cast_getitem : Value} {od_Cast_enders an_Cast_enders : Option Addr} {sl_Cast_enders : Array (Option Value)} {oc_Cast_enders kV_Cast_enders dc_Cast_enders pm_Cast_enders cd_Cast_enders ct_Cast_enders : Value} {od_Cast_add an_Cast_add : Option Addr} {sl_Cast_add : Array (Option Value)} {oc_Cast_add kV_Cast_add dc_Cast_add pm_Cast_add cd_Cast_add ct_Cast_add : Value} {tk_MOST_HANDS : Tok} {tk_MOST_OLD : Tok} {tc_OUTCOMES : Value} {to_OUTCOMES : Option Addr} {ti_OUTCOMES : Array Value} {tn_OUTCOMES : Nat} {ts_OUTCOMES : Array (Option Value)} {nm_X_BadCast qn_X_BadCast : Str} {ns_X_BadCast : Addr} {bs_X_BadCast bm_X_BadCast : List Value} {sn_X_BadCast : List Str} {sb_X_BadCast : List Value} {ab_X_BadCast : Bool} {co_X_BadCast : Option Bool} {dd_X_BadCast : Option Addr} {m0_X_BadCast m1_X_BadCast m2_X_BadCast m3_X_BadCast m5_X_BadCast : Option Value} {od_iX_BadCast an_iX_BadCast : Option Addr} {sl_iX_BadCast : Array (Option Value)} {oc_iX_BadCast kV_iX_BadCast dc_iX_BadCast pm_iX_BadCast cd_iX_BadCast ct_iX_BadCast : Value} {tav_NoneType tbv_NoneType : Option Value} {tav_int tbv_int : Option Value} {tav_str tbv_str : Option Value} {tav_list tbv_list : Option Value} {tav_tuple tbv_tuple : Option Value}
    (a_is_whole : PySem.W.nsIn K mainGlobals "is_whole" = some (some (.ref f_is_whole)))
    (l_is_whole : K.lookup f_is_whole = some ⟨oc_is_whole, od_is_whole, .func (PySem.W.fnOf "is_whole" "is_whole" (defArgs s_is_whole) (defBody s_is_whole) (defScope s_is_whole) .none kV_is_whole dc_is_whole pm_is_whole an_is_whole cd_is_whole ct_is_whole), sl_is_whole⟩)
    (c_is_whole : PySem.W.codeIn K cd_is_whole "is_whole" = true)
    (k_is_whole : PySem.W.keepIn K (.ref f_is_whole) = true)
    (a_is_between : PySem.W.nsIn K mainGlobals "is_between" = some (some (.ref f_is_between)))
    (l_is_between : K.lookup f_is_between = some ⟨oc_is_between, od_is_between, .func (PySem.W.fnOf "is_between" "is_between" (defArgs s_is_between) (defBody s_is_between) (defScope s_is_between) .none kV_is_between dc_is_between pm_is_between an_is_between cd_is_between ct_is_between), sl_is_between⟩)
    (c_is_between : PySem.W.codeIn K cd_is_between "is_between" = true)
    (k_is_between : PySem.W.keepIn K (.ref f_is_between) = true)
    (a_is_one_of : PySem.W.nsIn K mainGlobals "is_one_of" = some (some (.ref f_is_one_of)))
    (l_is_one_of : K.lookup f_is_one_of = some ⟨oc_is_one_of, od_is_one_of, .func (PySem.W.fnOf "is_one_of" "is_one_of" (defArgs s_is_one_of) (defBody s_is_one_of) (defScope s_is_one_of) .none kV_is_one_of dc_is_one_of pm_is_one_of an_is_one_of cd_is_one_of ct_is_one_of), sl_is_one_of⟩)
    (c_is_one_of : PySem.W.codeIn K cd_is_one_of "is_one_of" = true)
    (k_is_one_of : PySem.W.keepIn K (.ref f_is_one_of) = true)
    (a_law_pot : PySem.W.nsIn K mainGlobals "_law_pot" = some (some (.ref f_law_pot)))
    (l_law_pot : K.lookup f_law_pot = some ⟨oc_law_pot, od_law_pot, .func (PySem.W.fnOf "_law_pot" "_law_pot" (defArgs s_law_pot) (defBody s_law_pot) (defScope s_law_pot) .none kV_law_pot dc_law_pot pm_law_pot an_law_pot cd_law_pot ct_law_pot), sl_law_pot⟩)
    (c_law_pot : PySem.W.codeIn K cd_law_pot "_law_pot" = true)
    (k_law_pot : PySem.W.keepIn K (.ref f_law_pot) = true)
    (a_law_draw : PySem.W.nsIn K mainGlobals "_law_draw" = some (some (.ref f_law_draw)))
    (l_law_draw : K.lookup f_law_draw = some ⟨oc_law_draw, od_law_draw, .func (PySem.W.fnOf "_law_draw" "_law_draw" (defArgs s_law_draw) (defBody s_law_draw) (defScope s_law_draw) .none kV_law_draw dc_law_draw pm_law_draw an_law_draw cd_law_draw ct_law_draw), sl_law_draw⟩)
    (c_law_draw : PySem.W.codeIn K cd_law_draw "_law_draw" = true)
    (k_law_draw : PySem.W.keepIn K (.ref f_law_draw) = true)
    (a_is_hand : PySem.W.nsIn K mainGlobals "_is_hand" = some (some (.ref f_is_hand)))
    (l_is_hand : K.lookup f_is_hand = some ⟨oc_is_hand, od_is_hand, .func (PySem.W.fnOf "_is_hand" "_is_hand" (defArgs s_is_hand) (defBody s_is_hand) (defScope s_is_hand) .none kV_is_hand dc_is_hand pm_is_hand an_is_hand cd_is_hand ct_is_hand), sl_is_hand⟩)
    (c_is_hand : PySem.W.codeIn K cd_is_hand "_is_hand" = true)
    (k_is_hand : PySem.W.keepIn K (.ref f_is_hand) = true)
    (a_putters_of : PySem.W.nsIn K mainGlobals "_putters_of" = some (some (.ref f_putters_of)))
    (l_putters_of : K.lookup f_putters_of = some ⟨oc_putters_of, od_putters_of, .func (PySem.W.fnOf "_putters_of" "_putters_of" (defArgs s_putters_of) (defBody s_putters_of) (defScope s_putters_of) .none kV_putters_of dc_putters_of pm_putters_of an_putters_of cd_putters_of ct_putters_of), sl_putters_of⟩)
    (c_putters_of : PySem.W.codeIn K cd_putters_of "_putters_of" = true)
    (k_putters_of : PySem.W.keepIn K (.ref f_putters_of) = true)
    (a_check_hands : PySem.W.nsIn K mainGlobals "_check_hands" = some (some (.ref f_check_hands)))
    (l_check_hands : K.lookup f_check_hands = some ⟨oc_check_hands, od_check_hands, .func (PySem.W.fnOf "_check_hands" "_check_hands" (defArgs s_check_hands) (defBody s_check_hands) (defScope s_check_hands) .none kV_check_hands dc_check_hands pm_check_hands an_check_hands cd_check_hands ct_check_hands), sl_check_hands⟩)
    (c_check_hands : PySem.W.codeIn K cd_check_hands "_check_hands" = true)
    (k_check_hands : PySem.W.keepIn K (.ref f_check_hands) = true)
    (a_law_hands : PySem.W.nsIn K mainGlobals "_law_hands" = some (some (.ref f_law_hands)))
    (l_law_hands : K.lookup f_law_hands = some ⟨oc_law_hands, od_law_hands, .func (PySem.W.fnOf "_law_hands" "_law_hands" (defArgs s_law_hands) (defBody s_law_hands) (defScope s_law_hands) .none kV_law_hands dc_law_hands pm_law_hands an_law_hands cd_law_hands ct_law_hands), sl_law_hands⟩)
    (c_law_hands : PySem.W.codeIn K cd_law_hands "_law_hands" = true)
    (k_law_hands : PySem.W.keepIn K (.ref f_law_hands) = true)
    (a_law_cast : PySem.W.nsIn K mainGlobals "_law_cast" = some (some (.ref f_law_cast)))
    (l_law_cast : K.lookup f_law_cast = some ⟨oc_law_cast, od_law_cast, .func (PySem.W.fnOf "_law_cast" "_law_cast" (defArgs s_law_cast) (defBody s_law_cast) (defScope s_law_cast) .none kV_law_cast dc_law_cast pm_law_cast an_law_cast cd_law_cast ct_law_cast), sl_law_cast⟩)
    (c_law_cast : PySem.W.codeIn K cd_law_cast "_law_cast" = true)
    (k_law_cast : PySem.W.keepIn K (.ref f_law_cast) = true)
    (a_law_putters : PySem.W.nsIn K mainGlobals "_law_putters" = some (some (.ref f_law_putters)))
    (l_law_putters : K.lookup f_law_putters = some ⟨oc_law_putters, od_law_putters, .func (PySem.W.fnOf "_law_putters" "_law_putters" (defArgs s_law_putters) (defBody s_law_putters) (defScope s_law_putters) .none kV_law_putters dc_law_putters pm_law_putters an_law_putters cd_law_putters ct_law_putters), sl_law_putters⟩)
    (c_law_putters : PySem.W.codeIn K cd_law_putters "_law_putters" = true)
    (k_law_putters : PySem.W.keepIn K (.ref f_law_putters) = true)
    (a_law_odd : PySem.W.nsIn K mainGlobals "_law_odd" = some (some (.ref f_law_odd)))
    (l_law_odd : K.lookup f_law_odd = some ⟨oc_law_odd, od_law_odd, .func (PySem.W.fnOf "_law_odd" "_law_odd" (defArgs s_law_odd) (defBody s_law_odd) (defScope s_law_odd) .none kV_law_odd dc_law_odd pm_law_odd an_law_odd cd_law_odd ct_law_odd), sl_law_odd⟩)
    (c_law_odd : PySem.W.codeIn K cd_law_odd "_law_odd" = true)
    (k_law_odd : PySem.W.keepIn K (.ref f_law_odd) = true)
    (a_law_strange : PySem.W.nsIn K mainGlobals "_law_strange" = some (some (.ref f_law_strange)))
    (l_law_strange : K.lookup f_law_strange = some ⟨oc_law_strange, od_law_strange, .func (PySem.W.fnOf "_law_strange" "_law_strange" (defArgs s_law_strange) (defBody s_law_strange) (defScope s_law_strange) .none kV_law_strange dc_law_strange pm_law_strange an_law_strange cd_law_strange ct_law_strange), sl_law_strange⟩)
    (c_law_strange : PySem.W.codeIn K cd_law_strange "_law_strange" = true)
    (k_law_strange : PySem.W.keepIn K (.ref f_law_strange) = true)
    (a_law_is_number : PySem.W.nsIn K mainGlobals "_law_is_number" = some (some (.ref f_law_is_number)))
    (l_law_is_number : K.lookup f_law_is_number = some ⟨oc_law_is_number, od_law_is_number, .func (PySem.W.fnOf "_law_is_number" "_law_is_number" (defArgs s_law_is_number) (defBody s_law_is_number) (defScope s_law_is_number) .none kV_law_is_number dc_law_is_number pm_law_is_number an_law_is_number cd_law_is_number ct_law_is_number), sl_law_is_number⟩)
    (c_law_is_number : PySem.W.codeIn K cd_law_is_number "_law_is_number" = true)
    (k_law_is_number : PySem.W.keepIn K (.ref f_law_is_number) = true)
    (a_law_has_form : PySem.W.nsIn K mainGlobals "_law_has_form" = some (some (.ref f_law_has_form)))
    (l_law_has_form : K.lookup f_law_has_form = some ⟨oc_law_has_form, od_law_has_form, .func (PySem.W.fnOf "_law_has_form" "_law_has_form" (defArgs s_law_has_form) (defBody s_law_has_form) (defScope s_law_has_form) .none kV_law_has_form dc_law_has_form pm_law_has_form an_law_has_form cd_law_has_form ct_law_has_form), sl_law_has_form⟩)
    (c_law_has_form : PySem.W.codeIn K cd_law_has_form "_law_has_form" = true)
    (k_law_has_form : PySem.W.keepIn K (.ref f_law_has_form) = true)
    (a_law_made : PySem.W.nsIn K mainGlobals "_law_made" = some (some (.ref f_law_made)))
    (l_law_made : K.lookup f_law_made = some ⟨oc_law_made, od_law_made, .func (PySem.W.fnOf "_law_made" "_law_made" (defArgs s_law_made) (defBody s_law_made) (defScope s_law_made) .none kV_law_made dc_law_made pm_law_made an_law_made cd_law_made ct_law_made), sl_law_made⟩)
    (c_law_made : PySem.W.codeIn K cd_law_made "_law_made" = true)
    (k_law_made : PySem.W.keepIn K (.ref f_law_made) = true)
    (a_law_due : PySem.W.nsIn K mainGlobals "_law_due" = some (some (.ref f_law_due)))
    (l_law_due : K.lookup f_law_due = some ⟨oc_law_due, od_law_due, .func (PySem.W.fnOf "_law_due" "_law_due" (defArgs s_law_due) (defBody s_law_due) (defScope s_law_due) .none kV_law_due dc_law_due pm_law_due an_law_due cd_law_due ct_law_due), sl_law_due⟩)
    (c_law_due : PySem.W.codeIn K cd_law_due "_law_due" = true)
    (k_law_due : PySem.W.keepIn K (.ref f_law_due) = true)
    (a_law_asked : PySem.W.nsIn K mainGlobals "_law_asked" = some (some (.ref f_law_asked)))
    (l_law_asked : K.lookup f_law_asked = some ⟨oc_law_asked, od_law_asked, .func (PySem.W.fnOf "_law_asked" "_law_asked" (defArgs s_law_asked) (defBody s_law_asked) (defScope s_law_asked) .none kV_law_asked dc_law_asked pm_law_asked an_law_asked cd_law_asked ct_law_asked), sl_law_asked⟩)
    (c_law_asked : PySem.W.codeIn K cd_law_asked "_law_asked" = true)
    (k_law_asked : PySem.W.keepIn K (.ref f_law_asked) = true)
    (a_law : PySem.W.nsIn K mainGlobals "law" = some (some (.ref f_law)))
    (l_law : K.lookup f_law = some ⟨oc_law, od_law, .func (PySem.W.fnOf "law" "law" (defArgs s_law) (defBody s_law) (defScope s_law) .none kV_law dc_law pm_law an_law cd_law ct_law), sl_law⟩)
    (c_law : PySem.W.codeIn K cd_law "law" = true)
    (k_law : PySem.W.keepIn K (.ref f_law) = true)
    (cG : PySem.W.specialIn K (.builtin "object.__class__") "__get__" = some (some (.builtin "getset_descriptor.__get__")))
    (cT : PySem.W.takesIn K (.builtin "object.__class__") = some true)
    (a_C_Cast : PySem.W.nsIn K mainGlobals "Cast" = some (some (.ref C_Cast)))
    (pg_C_Cast : PySem.W.plainGet K C_Cast Str.empty = true)
    (hd_C_Cast : PySem.W.hasDictIn K C_Cast = true)
    (po_C_Cast : PySem.W.plainOver K C_Cast = true)
    (sa_C_Cast : PySem.W.findIn K (.ref C_Cast) "__setattr__" = some (some (.builtin "object.__setattr__")))
    (mk_C_Cast : PySem.W.makesIn K C_Cast = true)
    (kc_C_Cast : PySem.W.keepIn K (.ref C_Cast) = true)
    (cC_C_Cast : PySem.W.findIn K (.ref C_Cast) "__class__" = some (some (.builtin "object.__class__")))
    (cM_C_Cast : PySem.W.mroIn K C_Cast (.type "object") = some true)
    (kk_C_Cast : PySem.W.kitOne K (.ref C_Cast) (.ref C_Cast) = some true)
    (n_Cast_hands : PySem.W.findIn K (.ref C_Cast) "_hands" = some none)
    (n_Cast_marked : PySem.W.findIn K (.ref C_Cast) "_marked" = some none)
    (n_Cast_old : PySem.W.findIn K (.ref C_Cast) "_old" = some none)
    (n_Cast_putters : PySem.W.findIn K (.ref C_Cast) "_putters" = some none)
    (kt_Cast_NoneType : PySem.W.kitOne K (.type "NoneType") (.ref C_Cast) = some false)
    (kt_Cast_bool : PySem.W.kitOne K (.type "bool") (.ref C_Cast) = some false)
    (kt_Cast_int : PySem.W.kitOne K (.type "int") (.ref C_Cast) = some false)
    (kt_Cast_str : PySem.W.kitOne K (.type "str") (.ref C_Cast) = some false)
    (kt_Cast_bytes : PySem.W.kitOne K (.type "bytes") (.ref C_Cast) = some false)
    (kt_Cast_list : PySem.W.kitOne K (.type "list") (.ref C_Cast) = some false)
    (kt_Cast_tuple : PySem.W.kitOne K (.type "tuple") (.ref C_Cast) = some false)
    (kt_Cast_dict : PySem.W.kitOne K (.type "dict") (.ref C_Cast) = some false)
    (a_Cast_init : PySem.W.findIn K (.ref C_Cast) "__init__" = some (some (.ref f_Cast_init)))
    (i_Cast_init : PySem.W.isFn K (.ref f_Cast_init) = true)
    (l_Cast_init : K.lookup f_Cast_init = some ⟨oc_Cast_init, od_Cast_init, .func (PySem.W.fnOf "__init__" "Cast.__init__" (defArgs s_Cast_init) (defBody s_Cast_init) (defScope s_Cast_init) .none kV_Cast_init dc_Cast_init pm_Cast_init an_Cast_init cd_Cast_init ct_Cast_init), sl_Cast_init⟩)
    (c_Cast_init : PySem.W.codeIn K cd_Cast_init "Cast.__init__" = true)
    (k_Cast_init : PySem.W.keepIn K (.ref f_Cast_init) = true)
    (kv_Cast_init : kV_Cast_init = .ref KD_Cast_init)
    (kd_Cast_init_marked : PySem.W.nsIn K KD_Cast_init "marked" = some (some (.bool false)))
    (a_Cast_len : PySem.W.findIn K (.ref C_Cast) "__len__" = some (some (.ref f_Cast_len)))
    (i_Cast_len : PySem.W.isFn K (.ref f_Cast_len) = true)
    (l_Cast_len : K.lookup f_Cast_len = some ⟨oc_Cast_len, od_Cast_len, .func (PySem.W.fnOf "__len__" "Cast.__len__" (defArgs s_Cast_len) (defBody s_Cast_len) (defScope s_Cast_len) .none kV_Cast_len dc_Cast_len pm_Cast_len an_Cast_len cd_Cast_len ct_Cast_len), sl_Cast_len⟩)
    (c_Cast_len : PySem.W.codeIn K cd_Cast_len "Cast.__len__" = true)
    (k_Cast_len : PySem.W.keepIn K (.ref f_Cast_len) = true)
    (a_Cast_putter : PySem.W.findIn K (.ref C_Cast) "putter" = some (some (.ref f_Cast_putter)))
    (i_Cast_putter : PySem.W.isFn K (.ref f_Cast_putter) = true)
    (l_Cast_putter : K.lookup f_Cast_putter = some ⟨oc_Cast_putter, od_Cast_putter, .func (PySem.W.fnOf "putter" "Cast.putter" (defArgs s_Cast_putter) (defBody s_Cast_putter) (defScope s_Cast_putter) .none kV_Cast_putter dc_Cast_putter pm_Cast_putter an_Cast_putter cd_Cast_putter ct_Cast_putter), sl_Cast_putter⟩)
    (c_Cast_putter : PySem.W.codeIn K cd_Cast_putter "Cast.putter" = true)
    (k_Cast_putter : PySem.W.keepIn K (.ref f_Cast_putter) = true)
    (a_Cast_getitem : PySem.W.findIn K (.ref C_Cast) "__getitem__" = some (some (.ref f_Cast_getitem)))
    (i_Cast_getitem : PySem.W.isFn K (.ref f_Cast_getitem) = true)
    (l_Cast_getitem : K.lookup f_Cast_getitem = some ⟨oc_Cast_getitem, od_Cast_getitem, .func (PySem.W.fnOf "__getitem__" "Cast.__getitem__" (defArgs s_Cast_getitem) (defBody s_Cast_getitem) (defScope s_Cast_getitem) .none kV_Cast_getitem dc_Cast_getitem pm_Cast_getitem an_Cast_getitem cd_Cast_getitem ct_Cast_getitem), sl_Cast_getitem⟩)
    (c_Cast_getitem : PySem.W.codeIn K cd_Cast_getitem "Cast.__getitem__" = true)
    (k_Cast_getitem : PySem.W.keepIn K (.ref f_Cast_getitem) = true)
    (a_Cast_enders : PySem.W.findIn K (.ref C_Cast) "enders" = some (some (.ref f_Cast_enders)))
    (i_Cast_enders : PySem.W.isFn K (.ref f_Cast_enders) = true)
    (l_Cast_enders : K.lookup f_Cast_enders = some ⟨oc_Cast_enders, od_Cast_enders, .func (PySem.W.fnOf "enders" "Cast.enders" (defArgs s_Cast_enders) (defBody s_Cast_enders) (defScope s_Cast_enders) .none kV_Cast_enders dc_Cast_enders pm_Cast_enders an_Cast_enders cd_Cast_enders ct_Cast_enders), sl_Cast_enders⟩)
    (c_Cast_enders : PySem.W.codeIn K cd_Cast_enders "Cast.enders" = true)
    (k_Cast_enders : PySem.W.keepIn K (.ref f_Cast_enders) = true)
    (a_Cast_add : PySem.W.findIn K (.ref C_Cast) "__add__" = some (some (.ref f_Cast_add)))
    (i_Cast_add : PySem.W.isFn K (.ref f_Cast_add) = true)
    (l_Cast_add : K.lookup f_Cast_add = some ⟨oc_Cast_add, od_Cast_add, .func (PySem.W.fnOf "__add__" "Cast.__add__" (defArgs s_Cast_add) (defBody s_Cast_add) (defScope s_Cast_add) .none kV_Cast_add dc_Cast_add pm_Cast_add an_Cast_add cd_Cast_add ct_Cast_add), sl_Cast_add⟩)
    (c_Cast_add : PySem.W.codeIn K cd_Cast_add "Cast.__add__" = true)
    (k_Cast_add : PySem.W.keepIn K (.ref f_Cast_add) = true)
    (sf_Cast : PySem.W.selfFirst K C_Cast = true)
    (ra_Cast : PySem.W.findIn K (.ref C_Cast) "__radd__" = some none)
    (fi_Cast : PySem.W.fnIn K f_Cast_getitem = true)
    (g_MOST_HANDS : PySem.W.nsIn K mainGlobals "MOST_HANDS" = some (some (.int 5 tk_MOST_HANDS)))
    (g_MOST_OLD : PySem.W.nsIn K mainGlobals "MOST_OLD" = some (some (.int 2 tk_MOST_OLD)))
    (g_OUTCOMES : PySem.W.nsIn K mainGlobals "OUTCOMES" = some (some (.ref t_OUTCOMES)))
    (lk_OUTCOMES : K.lookup t_OUTCOMES = some ⟨tc_OUTCOMES, to_OUTCOMES, .seq ti_OUTCOMES tn_OUTCOMES, ts_OUTCOMES⟩)
    (cl_OUTCOMES : tc_OUTCOMES = .type "tuple")
    (sz_OUTCOMES : ti_OUTCOMES.size ≤ sizeLine)
    (vl_OUTCOMES : Vals [.str (Str.ofString "done"), .str (Str.ofString "gone")] ti_OUTCOMES.toList)
    (z_ValueError : PySem.W.nsIn K mainGlobals "ValueError" = some none)
    (z_bool : PySem.W.nsIn K mainGlobals "bool" = some none)
    (z_enumerate : PySem.W.nsIn K mainGlobals "enumerate" = some none)
    (z_int : PySem.W.nsIn K mainGlobals "int" = some none)
    (z_isinstance : PySem.W.nsIn K mainGlobals "isinstance" = some none)
    (z_len : PySem.W.nsIn K mainGlobals "len" = some none)
    (z_max : PySem.W.nsIn K mainGlobals "max" = some none)
    (z_range : PySem.W.nsIn K mainGlobals "range" = some none)
    (z_repr : PySem.W.nsIn K mainGlobals "repr" = some none)
    (z_str : PySem.W.nsIn K mainGlobals "str" = some none)
    (z_tuple : PySem.W.nsIn K mainGlobals "tuple" = some none)
    (a_D_PagesError : PySem.W.nsIn K mainGlobals "PagesError" = some (some (.ref D_PagesError)))
    (rd_D_PagesError : PySem.W.readsIn K D_PagesError (.type "type") = true)
    (ga_D_PagesError : PySem.W.specialIn K (.ref D_PagesError) "__getattribute__" = some (some (.builtin "type.__getattribute__")))
    (up_PagesError : PySem.W.findCls K (.ref D_PagesError) (.type "type") "__init__" = some (.val (.builtin "ValueError.__init__")))
    (a_X_BadCast : PySem.W.nsIn K mainGlobals "BadCast" = some (some (.ref X_BadCast)))
    (x_X_BadCast : K.lookup X_BadCast = some (excClassObj nm_X_BadCast qn_X_BadCast X_BadCast ns_X_BadCast bs_X_BadCast bm_X_BadCast true sn_X_BadCast sb_X_BadCast ab_X_BadCast co_X_BadCast dd_X_BadCast m0_X_BadCast m1_X_BadCast m2_X_BadCast m3_X_BadCast m5_X_BadCast "ValueError.__new__"))
    (rv_X_BadCast : PySem.HandSPX.refsVE bm_X_BadCast = true)
    (sa_X_BadCast : PySem.W.findIn K (.ref X_BadCast) "__setattr__" = some (some (.builtin "object.__setattr__")))
    (gt_X_BadCast : PySem.W.findIn K (.ref X_BadCast) "__getattribute__" = some (some (.builtin "BaseException.__getattribute__")))
    (gg_X_BadCast : PySem.W.findIn K (.ref X_BadCast) "__getattr__" = some none)
    (cC_X_BadCast : PySem.W.findIn K (.ref X_BadCast) "__class__" = some (some (.builtin "object.__class__")))
    (no_X_BadCast : PySem.W.findIn K (.ref X_BadCast) "at" = some none)
    (ex_X_BadCast : PySem.W.subIn K (.ref X_BadCast) (.type "BaseException") = some true)
    (ty_X_BadCast : PySem.W.typeIn K (.ref X_BadCast) = some (.type "type"))
    (kc_X_BadCast : PySem.W.keepIn K (.ref X_BadCast) = true)
    (hd_X_BadCast : PySem.W.hasDictIn K X_BadCast = true)
    (ic_X_BadCast : (PySem.W.clsIn K X_BadCast).isSome = true)
    (cM_X_BadCast : PySem.W.mroIn K X_BadCast (.type "object") = some true)
    (ss_X_BadCast : PySem.W.subIn K (.ref X_BadCast) (.ref X_BadCast) = some true)
    (in_X_BadCast : PySem.W.findIn K (.ref X_BadCast) "__init__" = some (some (.ref f_iX_BadCast)))
    (it_X_BadCast : PySem.W.typeIn K (.ref f_iX_BadCast) = some (.type "function"))
    (l_iX_BadCast : K.lookup f_iX_BadCast = some ⟨oc_iX_BadCast, od_iX_BadCast, .func (PySem.W.fnOf "__init__" "BadCast.__init__" (defArgs s_BadCast_init) (defBody s_BadCast_init) (defScope s_BadCast_init) .none kV_iX_BadCast dc_iX_BadCast pm_iX_BadCast an_iX_BadCast cd_iX_BadCast ct_iX_BadCast), sl_iX_BadCast⟩)
    (c_iX_BadCast : PySem.W.codeIn K cd_iX_BadCast "BadCast.__init__" = true)
    (k_iX_BadCast : PySem.W.keepIn K (.ref f_iX_BadCast) = true)
    (a_X_NoStep : PySem.W.nsIn K mainGlobals "NoStep" = some (some (.ref X_NoStep)))
    (ta_NoneType : PySem.W.findIn K (.type "NoneType") "__add__" = some tav_NoneType)
    (tb_NoneType : PySem.W.findIn K (.type "NoneType") "__radd__" = some tbv_NoneType)
    (tc_NoneType : PySem.W.subIn K (.type "NoneType") (.ref C_Cast) = some false)
    (ta_int : PySem.W.findIn K (.type "int") "__add__" = some tav_int)
    (tb_int : PySem.W.findIn K (.type "int") "__radd__" = some tbv_int)
    (tc_int : PySem.W.subIn K (.type "int") (.ref C_Cast) = some false)
    (ta_str : PySem.W.findIn K (.type "str") "__add__" = some tav_str)
    (tb_str : PySem.W.findIn K (.type "str") "__radd__" = some tbv_str)
    (tc_str : PySem.W.subIn K (.type "str") (.ref C_Cast) = some false)
    (ta_list : PySem.W.findIn K (.type "list") "__add__" = some tav_list)
    (tb_list : PySem.W.findIn K (.type "list") "__radd__" = some tbv_list)
    (tc_list : PySem.W.subIn K (.type "list") (.ref C_Cast) = some false)
    (ta_tuple : PySem.W.findIn K (.type "tuple") "__add__" = some tav_tuple)
    (tb_tuple : PySem.W.findIn K (.type "tuple") "__radd__" = some tbv_tuple)
    (tc_tuple : PySem.W.subIn K (.type "tuple") (.ref C_Cast) = some false)
    (kxD : PySem.W.kitOne K (.ref X_BadCast) (.ref D_PagesError) = some true)
    (kxV : PySem.W.kitOne K (.ref X_BadCast) (.type "ValueError") = some true)
    (kxN : PySem.W.kitOne K (.ref X_BadCast) (.ref X_NoStep) = some false) :
    ∀ base : Heap, K.In base → base.Ns mainGlobals mg → Gd.FnG l.prog w K mg base CX0 9 fa (spLaw K) := by
  have e := hfa.symm.trans (PySem.W.mg_of X G a_law)
  cases e
  have F_is_whole := fun_mk (st := s_is_whole) l_is_whole c_is_whole k_is_whole
  have b_is_whole := F_is_whole.binds (ps := ["value"]) fun _ _ _ _ _ _ us hl => match us, hl with | [_], _ => rfl
  have F_is_between := fun_mk (st := s_is_between) l_is_between c_is_between k_is_between
  have b_is_between := F_is_between.binds (ps := ["value", "low", "high"]) fun _ _ _ _ _ _ us hl => match us, hl with | [_, _, _], _ => rfl
  have F_is_one_of := fun_mk (st := s_is_one_of) l_is_one_of c_is_one_of k_is_one_of
  have b_is_one_of := F_is_one_of.binds (ps := ["value", "known"]) fun _ _ _ _ _ _ us hl => match us, hl with | [_, _], _ => rfl
  have F_law_pot := fun_mk (st := s_law_pot) l_law_pot c_law_pot k_law_pot
  have b_law_pot := F_law_pot.binds (ps := ["script"]) fun _ _ _ _ _ _ us hl => match us, hl with | [_], _ => rfl
  have F_law_draw := fun_mk (st := s_law_draw) l_law_draw c_law_draw k_law_draw
  have b_law_draw := F_law_draw.binds (ps := ["pot", "many"]) fun _ _ _ _ _ _ us hl => match us, hl with | [_, _], _ => rfl
  have F_is_hand := fun_mk (st := s_is_hand) l_is_hand c_is_hand k_is_hand
  have b_is_hand := F_is_hand.binds (ps := ["value"]) fun _ _ _ _ _ _ us hl => match us, hl with | [_], _ => rfl
  have F_putters_of := fun_mk (st := s_putters_of) l_putters_of c_putters_of k_putters_of
  have b_putters_of := F_putters_of.binds (ps := ["old", "hands"]) fun _ _ _ _ _ _ us hl => match us, hl with | [_, _], _ => rfl
  have F_check_hands := fun_mk (st := s_check_hands) l_check_hands c_check_hands k_check_hands
  have b_check_hands := F_check_hands.binds (ps := ["old", "hands"]) fun _ _ _ _ _ _ us hl => match us, hl with | [_, _], _ => rfl
  have F_law_hands := fun_mk (st := s_law_hands) l_law_hands c_law_hands k_law_hands
  have b_law_hands := F_law_hands.binds (ps := ["pot", "old", "many"]) fun _ _ _ _ _ _ us hl => match us, hl with | [_, _, _], _ => rfl
  have F_law_cast := fun_mk (st := s_law_cast) l_law_cast c_law_cast k_law_cast
  have b_law_cast := F_law_cast.binds (ps := ["old", "h", "is_set"]) fun _ _ _ _ _ _ us hl => match us, hl with | [_, _, _], _ => rfl
  have F_law_putters := fun_mk (st := s_law_putters) l_law_putters c_law_putters k_law_putters
  have b_law_putters := F_law_putters.binds (ps := ["old", "hands"]) fun _ _ _ _ _ _ us hl => match us, hl with | [_, _], _ => rfl
  have F_law_odd := fun_mk (st := s_law_odd) l_law_odd c_law_odd k_law_odd
  have b_law_odd := F_law_odd.binds (ps := ["pot"]) fun _ _ _ _ _ _ us hl => match us, hl with | [_], _ => rfl
  have F_law_strange := fun_mk (st := s_law_strange) l_law_strange c_law_strange k_law_strange
  have b_law_strange := F_law_strange.binds (ps := ["pot"]) fun _ _ _ _ _ _ us hl => match us, hl with | [_], _ => rfl
  have F_law_is_number := fun_mk (st := s_law_is_number) l_law_is_number c_law_is_number k_law_is_number
  have b_law_is_number := F_law_is_number.binds (ps := ["value"]) fun _ _ _ _ _ _ us hl => match us, hl with | [_], _ => rfl
  have F_law_has_form := fun_mk (st := s_law_has_form) l_law_has_form c_law_has_form k_law_has_form
  have b_law_has_form := F_law_has_form.binds (ps := ["hand"]) fun _ _ _ _ _ _ us hl => match us, hl with | [_], _ => rfl
  have F_law_made := fun_mk (st := s_law_made) l_law_made c_law_made k_law_made
  have b_law_made := F_law_made.binds (ps := ["old", "hands", "is_set"]) fun _ _ _ _ _ _ us hl => match us, hl with | [_, _, _], _ => rfl
  have F_law_due := fun_mk (st := s_law_due) l_law_due c_law_due k_law_due
  have b_law_due := F_law_due.binds (ps := ["old", "hands", "is_set"]) fun _ _ _ _ _ _ us hl => match us, hl with | [_, _, _], _ => rfl
  have F_law_asked := fun_mk (st := s_law_asked) l_law_asked c_law_asked k_law_asked
  have b_law_asked := F_law_asked.binds (ps := ["cast", "value"]) fun _ _ _ _ _ _ us hl => match us, hl with | [_, _], _ => rfl
  have F_law := fun_mk (st := s_law) l_law c_law k_law
  have F_Cast_init := fun_mk (st := s_Cast_init) l_Cast_init c_Cast_init k_Cast_init
  subst kv_Cast_init
  have kb_Cast_init_marked : DX.BindS l.prog w K _ ["self", "old"] ["marked"] ["marked"] "hands" [] := DX.BindS.of (D := 0) (l := []) (fun q hq => nomatch hq) fun us rest ws h1 h2 => match us, rest, ws, h1, h2 with | [_, _], [], [_], _, _ => (show DX.KwEnd _ _ (bindArgs (PySem.W.fnOf "__init__" "Cast.__init__" (defArgs s_Cast_init) (defBody s_Cast_init) (defScope s_Cast_init) .none (.ref KD_Cast_init) dc_Cast_init pm_Cast_init an_Cast_init cd_Cast_init ct_Cast_init) _) _ from rfl) | [_, _], _ :: _, [_], _, _ => (show DX.KwEnd _ _ (bindArgs (PySem.W.fnOf "__init__" "Cast.__init__" (defArgs s_Cast_init) (defBody s_Cast_init) (defScope s_Cast_init) .none (.ref KD_Cast_init) dc_Cast_init pm_Cast_init an_Cast_init cd_Cast_init ct_Cast_init) _) _ from rfl)
  have F_Cast_len := fun_mk (st := s_Cast_len) l_Cast_len c_Cast_len k_Cast_len
  have b_Cast_len := F_Cast_len.binds (ps := ["self"]) fun _ _ _ _ _ _ us hl => match us, hl with | [_], _ => rfl
  have F_Cast_putter := fun_mk (st := s_Cast_putter) l_Cast_putter c_Cast_putter k_Cast_putter
  have b_Cast_putter := F_Cast_putter.binds (ps := ["self", "row"]) fun _ _ _ _ _ _ us hl => match us, hl with | [_, _], _ => rfl
  have F_Cast_getitem := fun_mk (st := s_Cast_getitem) l_Cast_getitem c_Cast_getitem k_Cast_getitem
  have b_Cast_getitem := F_Cast_getitem.binds (ps := ["self", "at"]) fun _ _ _ _ _ _ us hl => match us, hl with | [_, _], _ => rfl
  have F_Cast_enders := fun_mk (st := s_Cast_enders) l_Cast_enders c_Cast_enders k_Cast_enders
  have b_Cast_enders := F_Cast_enders.binds (ps := ["self", "row"]) fun _ _ _ _ _ _ us hl => match us, hl with | [_, _], _ => rfl
  have F_Cast_add := fun_mk (st := s_Cast_add) l_Cast_add c_Cast_add k_Cast_add
  have b_Cast_add := F_Cast_add.binds (ps := ["self", "hand"]) fun _ _ _ _ _ _ us hl => match us, hl with | [_, _], _ => rfl
  have b_law := F_law.binds (ps := ["script"]) fun _ _ _ _ _ _ us hl => match us, hl with | [_], _ => rfl
  have F_iX_BadCast := fun_mk (st := s_BadCast_init) l_iX_BadCast c_iX_BadCast k_iX_BadCast
  have b_iX_BadCast := F_iX_BadCast.binds (ps := ["self", "at"]) fun _ _ _ _ _ _ us hl => match us, hl with | [_, _], _ => rfl
  have ox_X_BadCast : OexC K X_BadCast := ⟨⟨_, _, _, _, _, _, _, _, _, _, _, _, _, _, _, x_X_BadCast, rv_X_BadCast⟩, sa_X_BadCast, ex_X_BadCast, ty_X_BadCast, kc_X_BadCast⟩
  intro base _ _
  let W : Wd l.prog w K mg base := {
    C_Cast := C_Cast,
    c_Cast := ⟨(PySem.W.mg_of X G a_C_Cast), ⟨⟨pg_C_Cast, hd_C_Cast, po_C_Cast, sa_C_Cast⟩, cC_C_Cast, cG, cT, cM_C_Cast⟩, ⟨fun t ht => by cases t <;> first | exact absurd rfl (ht _) | assumption⟩, kk_C_Cast⟩,
    f_is_whole := f_is_whole,
    fd_is_whole := _,
    t_is_whole := ⟨(PySem.W.mg_of X G a_is_whole), DX.Fun.dat F_is_whole, b_is_whole⟩,
    f_is_between := f_is_between,
    fd_is_between := _,
    t_is_between := ⟨(PySem.W.mg_of X G a_is_between), DX.Fun.dat F_is_between, b_is_between⟩,
    f_is_one_of := f_is_one_of,
    fd_is_one_of := _,
    t_is_one_of := ⟨(PySem.W.mg_of X G a_is_one_of), DX.Fun.dat F_is_one_of, b_is_one_of⟩,
    f_law_pot := f_law_pot,
    fd_law_pot := _,
    t_law_pot := ⟨(PySem.W.mg_of X G a_law_pot), DX.Fun.dat F_law_pot, b_law_pot⟩,
    f_law_draw := f_law_draw,
    fd_law_draw := _,
    t_law_draw := ⟨(PySem.W.mg_of X G a_law_draw), DX.Fun.dat F_law_draw, b_law_draw⟩,
    f_is_hand := f_is_hand,
    fd_is_hand := _,
    t_is_hand := ⟨(PySem.W.mg_of X G a_is_hand), DX.Fun.dat F_is_hand, b_is_hand⟩,
    f_putters_of := f_putters_of,
    fd_putters_of := _,
    t_putters_of := ⟨(PySem.W.mg_of X G a_putters_of), DX.Fun.dat F_putters_of, b_putters_of⟩,
    f_check_hands := f_check_hands,
    fd_check_hands := _,
    t_check_hands := ⟨(PySem.W.mg_of X G a_check_hands), DX.Fun.dat F_check_hands, b_check_hands⟩,
    f_Cast_init := f_Cast_init,
    fd_Cast_init := _,
    t_Cast_init := ⟨⟨a_Cast_init, i_Cast_init, k_Cast_init⟩, DX.Fun.dat F_Cast_init⟩,
    k_Cast_init_marked := kb_Cast_init_marked,
    f_Cast_len := f_Cast_len,
    fd_Cast_len := _,
    t_Cast_len := ⟨⟨a_Cast_len, i_Cast_len, k_Cast_len⟩, DX.Fun.dat F_Cast_len, b_Cast_len⟩,
    f_Cast_putter := f_Cast_putter,
    fd_Cast_putter := _,
    t_Cast_putter := ⟨⟨a_Cast_putter, i_Cast_putter, k_Cast_putter⟩, DX.Fun.dat F_Cast_putter, b_Cast_putter⟩,
    f_Cast_getitem := f_Cast_getitem,
    fd_Cast_getitem := _,
    t_Cast_getitem := ⟨⟨a_Cast_getitem, i_Cast_getitem, k_Cast_getitem⟩, DX.Fun.dat F_Cast_getitem, b_Cast_getitem⟩,
    f_Cast_enders := f_Cast_enders,
    fd_Cast_enders := _,
    t_Cast_enders := ⟨⟨a_Cast_enders, i_Cast_enders, k_Cast_enders⟩, DX.Fun.dat F_Cast_enders, b_Cast_enders⟩,
    f_Cast_add := f_Cast_add,
    fd_Cast_add := _,
    t_Cast_add := ⟨⟨a_Cast_add, i_Cast_add, k_Cast_add⟩, DX.Fun.dat F_Cast_add, b_Cast_add⟩,
    f_law_hands := f_law_hands,
    fd_law_hands := _,
    t_law_hands := ⟨(PySem.W.mg_of X G a_law_hands), DX.Fun.dat F_law_hands, b_law_hands⟩,
    f_law_cast := f_law_cast,
    fd_law_cast := _,
    t_law_cast := ⟨(PySem.W.mg_of X G a_law_cast), DX.Fun.dat F_law_cast, b_law_cast⟩,
    f_law_putters := f_law_putters,
    fd_law_putters := _,
    t_law_putters := ⟨(PySem.W.mg_of X G a_law_putters), DX.Fun.dat F_law_putters, b_law_putters⟩,
    f_law_odd := f_law_odd,
    fd_law_odd := _,
    t_law_odd := ⟨(PySem.W.mg_of X G a_law_odd), DX.Fun.dat F_law_odd, b_law_odd⟩,
    f_law_strange := f_law_strange,
    fd_law_strange := _,
    t_law_strange := ⟨(PySem.W.mg_of X G a_law_strange), DX.Fun.dat F_law_strange, b_law_strange⟩,
    f_law_is_number := f_law_is_number,
    fd_law_is_number := _,
    t_law_is_number := ⟨(PySem.W.mg_of X G a_law_is_number), DX.Fun.dat F_law_is_number, b_law_is_number⟩,
    f_law_has_form := f_law_has_form,
    fd_law_has_form := _,
    t_law_has_form := ⟨(PySem.W.mg_of X G a_law_has_form), DX.Fun.dat F_law_has_form, b_law_has_form⟩,
    f_law_made := f_law_made,
    fd_law_made := _,
    t_law_made := ⟨(PySem.W.mg_of X G a_law_made), DX.Fun.dat F_law_made, b_law_made⟩,
    f_law_due := f_law_due,
    fd_law_due := _,
    t_law_due := ⟨(PySem.W.mg_of X G a_law_due), DX.Fun.dat F_law_due, b_law_due⟩,
    f_law_asked := f_law_asked,
    fd_law_asked := _,
    t_law_asked := ⟨(PySem.W.mg_of X G a_law_asked), DX.Fun.dat F_law_asked, b_law_asked⟩,
    f_law := fa,
    fd_law := _,
    t_law := ⟨(PySem.W.mg_of X G a_law), DX.Fun.dat F_law, b_law⟩,
    ad_Cast := ⟨sf_Cast, a_Cast_add, i_Cast_add, ra_Cast⟩,
    n_Cast_hands := n_Cast_hands,
    n_Cast_marked := n_Cast_marked,
    n_Cast_old := n_Cast_old,
    n_Cast_putters := n_Cast_putters,
    gi_Cast := ⟨a_Cast_getitem, fi_Cast, i_Cast_getitem⟩,
    g_MOST_HANDS := ⟨_, PySem.W.mg_of X G g_MOST_HANDS, ⟨_, rfl⟩, fun _ _ => .int _⟩,
    g_MOST_OLD := ⟨_, PySem.W.mg_of X G g_MOST_OLD, ⟨_, rfl⟩, fun _ _ => .int _⟩,
    T_OUTCOMES := t_OUTCOMES,
    g_OUTCOMES := ⟨_, PySem.W.mg_of X G g_OUTCOMES, rfl, fun _ _ => .kt (.inr ⟨_, _, _, lk_OUTCOMES, cl_OUTCOMES, rfl, sz_OUTCOMES, vl_OUTCOMES⟩) (.cons (.str _) (.cons (.str _) .nil))⟩,
    z_ValueError := PySem.W.mg_none_of X G z_ValueError,
    z_bool := PySem.W.mg_none_of X G z_bool,
    z_enumerate := PySem.W.mg_none_of X G z_enumerate,
    z_int := PySem.W.mg_none_of X G z_int,
    z_isinstance := PySem.W.mg_none_of X G z_isinstance,
    z_len := PySem.W.mg_none_of X G z_len,
    z_max := PySem.W.mg_none_of X G z_max,
    z_range := PySem.W.mg_none_of X G z_range,
    z_repr := PySem.W.mg_none_of X G z_repr,
    z_str := PySem.W.mg_none_of X G z_str,
    z_tuple := PySem.W.mg_none_of X G z_tuple,
    ln_Cast := ⟨a_Cast_len, i_Cast_len⟩,
    mk_Cast := ⟨mk_C_Cast, a_Cast_init, i_Cast_init, kc_C_Cast⟩,
    X_BadCast := X_BadCast,
    fi_BadCast := f_iX_BadCast,
    fdi_BadCast := _,
    e_BadCast := ⟨ox_X_BadCast, no_X_BadCast, (PySem.W.mg_of X G a_X_BadCast), in_X_BadCast, it_X_BadCast, ok_BadCast_init F_iX_BadCast (PySem.W.mg_of X G a_D_PagesError) ⟨⟨rd_D_PagesError, ga_D_PagesError⟩, up_PagesError⟩, b_iX_BadCast⟩,
    at_NoneType := ⟨⟨_, ta_NoneType⟩, ⟨_, tb_NoneType⟩, tc_NoneType⟩,
    at_int := ⟨⟨_, ta_int⟩, ⟨_, tb_int⟩, tc_int⟩,
    at_str := ⟨⟨_, ta_str⟩, ⟨_, tb_str⟩, tc_str⟩,
    at_list := ⟨⟨_, ta_list⟩, ⟨_, tb_list⟩, tc_list⟩,
    at_tuple := ⟨⟨_, ta_tuple⟩, ⟨_, tb_tuple⟩, tc_tuple⟩,
    xm_BadCast := PySem.W.exm_ref ex_X_BadCast hd_X_BadCast ty_X_BadCast ss_X_BadCast,
    xf_BadCast := ⟨gt_X_BadCast, gg_X_BadCast, ex_X_BadCast, hd_X_BadCast⟩,
    xx_BadCast := ⟨ic_X_BadCast, gt_X_BadCast, gg_X_BadCast, ex_X_BadCast, cC_X_BadCast, cG, cT, cM_X_BadCast⟩,
    A_PagesError := D_PagesError,
    m_PagesError := (PySem.W.mg_of X G a_D_PagesError),
    A_NoStep := X_NoStep,
    m_NoStep := (PySem.W.mg_of X G a_X_NoStep),
    k1 := kxD,
    k2 := kxV,
    k3 := kxN }
  exact DX.lawG0 (ok_law W)
end Toy
open PySem PySem.W PyProof.Rows in
set_option maxRecDepth 100000 in
set_option maxHeartbeats 0 in
theorem PySem.Challenge.cw_trustedpages_k21_casts_refused_holds : PySem.Challenge.rw_trustedpages_k21_casts_refused.Holds := by
  w_on; o_law; k_head; (case hw => w_witness2)
  k_fill
  refine Gd.walkG (l := PySem.Challenge.rw_trustedpages_k21_casts_refused) (n := 63) (k := 9) (sp := Toy.spLaw) rfl (by decide) rfl ⟨rfl, by decide, by decide⟩ (fun w h Y => PySem.W.kIn_of Y) ?F (fun _ _ a ns hl S => ⟨a, ns, rfl, S, hl, fun _ => rfl⟩)
  case F =>
    intro w mg fa h KX G hmg
    refine' Toy.all_mk KX G hmg ?a_is_whole ?l_is_whole ?c_is_whole ?k_is_whole ?a_is_between ?l_is_between ?c_is_between ?k_is_between ?a_is_one_of ?l_is_one_of ?c_is_one_of ?k_is_one_of ?a_law_pot ?l_law_pot ?c_law_pot ?k_law_pot ?a_law_draw ?l_law_draw ?c_law_draw ?k_law_draw ?a_is_hand ?l_is_hand ?c_is_hand ?k_is_hand ?a_putters_of ?l_putters_of ?c_putters_of ?k_putters_of ?a_check_hands ?l_check_hands ?c_check_hands ?k_check_hands ?a_law_hands ?l_law_hands ?c_law_hands ?k_law_hands ?a_law_cast ?l_law_cast ?c_law_cast ?k_law_cast ?a_law_putters ?l_law_putters ?c_law_putters ?k_law_putters ?a_law_odd ?l_law_odd ?c_law_odd ?k_law_odd ?a_law_strange ?l_law_strange ?c_law_strange ?k_law_strange ?a_law_is_number ?l_law_is_number ?c_law_is_number ?k_law_is_number ?a_law_has_form ?l_law_has_form ?c_law_has_form ?k_law_has_form ?a_law_made ?l_law_made ?c_law_made ?k_law_made ?a_law_due ?l_law_due ?c_law_due ?k_law_due ?a_law_asked ?l_law_asked ?c_law_asked ?k_law_asked ?a_law ?l_law ?c_law ?k_law ?cG ?cT ?a_C_Cast ?pg_C_Cast ?hd_C_Cast ?po_C_Cast ?sa_C_Cast ?mk_C_Cast ?kc_C_Cast ?cC_C_Cast ?cM_C_Cast ?kk_C_Cast ?n_Cast_hands ?n_Cast_marked ?n_Cast_old ?n_Cast_putters ?kt_Cast_NoneType ?kt_Cast_bool ?kt_Cast_int ?kt_Cast_str ?kt_Cast_bytes ?kt_Cast_list ?kt_Cast_tuple ?kt_Cast_dict ?a_Cast_init ?i_Cast_init ?l_Cast_init ?c_Cast_init ?k_Cast_init ?kv_Cast_init ?kd_Cast_init_marked ?a_Cast_len ?i_Cast_len ?l_Cast_len ?c_Cast_len ?k_Cast_len ?a_Cast_putter ?i_Cast_putter ?l_Cast_putter ?c_Cast_putter ?k_Cast_putter ?a_Cast_getitem ?i_Cast_getitem ?l_Cast_getitem ?c_Cast_getitem ?k_Cast_getitem ?a_Cast_enders ?i_Cast_enders ?l_Cast_enders ?c_Cast_enders ?k_Cast_enders ?a_Cast_add ?i_Cast_add ?l_Cast_add ?c_Cast_add ?k_Cast_add ?sf_Cast ?ra_Cast ?fi_Cast ?g_MOST_HANDS ?g_MOST_OLD ?g_OUTCOMES ?lk_OUTCOMES ?cl_OUTCOMES ?sz_OUTCOMES ?vl_OUTCOMES ?z_ValueError ?z_bool ?z_enumerate ?z_int ?z_isinstance ?z_len ?z_max ?z_range ?z_repr ?z_str ?z_tuple ?a_D_PagesError ?rd_D_PagesError ?ga_D_PagesError ?up_PagesError ?a_X_BadCast ?x_X_BadCast ?rv_X_BadCast ?sa_X_BadCast ?gt_X_BadCast ?gg_X_BadCast ?cC_X_BadCast ?no_X_BadCast ?ex_X_BadCast ?ty_X_BadCast ?kc_X_BadCast ?hd_X_BadCast ?ic_X_BadCast ?cM_X_BadCast ?ss_X_BadCast ?in_X_BadCast ?it_X_BadCast ?l_iX_BadCast ?c_iX_BadCast ?k_iX_BadCast ?a_X_NoStep ?ta_NoneType ?tb_NoneType ?tc_NoneType ?ta_int ?tb_int ?tc_int ?ta_str ?tb_str ?tc_str ?ta_list ?tb_list ?tc_list ?ta_tuple ?tb_tuple ?tc_tuple ?kxD ?kxV ?kxN
    (case a_is_whole => k_is)
    (case l_is_whole => k_is)
    (case c_is_whole => k_is)
    (case k_is_whole => k_is)
    (case a_is_between => k_is)
    (case l_is_between => k_is)
    (case c_is_between => k_is)
    (case k_is_between => k_is)
    (case a_is_one_of => k_is)
    (case l_is_one_of => k_is)
    (case c_is_one_of => k_is)
    (case k_is_one_of => k_is)
    (case a_law_pot => k_is)
    (case l_law_pot => k_is)
    (case c_law_pot => k_is)
    (case k_law_pot => k_is)
    (case a_law_draw => k_is)
    (case l_law_draw => k_is)
    (case c_law_draw => k_is)
    (case k_law_draw => k_is)
    (case a_is_hand => k_is)
    (case l_is_hand => k_is)
    (case c_is_hand => k_is)
    (case k_is_hand => k_is)
    (case a_putters_of => k_is)
    (case l_putters_of => k_is)
    (case c_putters_of => k_is)
    (case k_putters_of => k_is)
    (case a_check_hands => k_is)
    (case l_check_hands => k_is)
    (case c_check_hands => k_is)
    (case k_check_hands => k_is)
    (case a_law_hands => k_is)
    (case l_law_hands => k_is)
    (case c_law_hands => k_is)
    (case k_law_hands => k_is)
    (case a_law_cast => k_is)
    (case l_law_cast => k_is)
    (case c_law_cast => k_is)
    (case k_law_cast => k_is)
    (case a_law_putters => k_is)
    (case l_law_putters => k_is)
    (case c_law_putters => k_is)
    (case k_law_putters => k_is)
    (case a_law_odd => k_is)
    (case l_law_odd => k_is)
    (case c_law_odd => k_is)
    (case k_law_odd => k_is)
    (case a_law_strange => k_is)
    (case l_law_strange => k_is)
    (case c_law_strange => k_is)
    (case k_law_strange => k_is)
    (case a_law_is_number => k_is)
    (case l_law_is_number => k_is)
    (case c_law_is_number => k_is)
    (case k_law_is_number => k_is)
    (case a_law_has_form => k_is)
    (case l_law_has_form => k_is)
    (case c_law_has_form => k_is)
    (case k_law_has_form => k_is)
    (case a_law_made => k_is)
    (case l_law_made => k_is)
    (case c_law_made => k_is)
    (case k_law_made => k_is)
    (case a_law_due => k_is)
    (case l_law_due => k_is)
    (case c_law_due => k_is)
    (case k_law_due => k_is)
    (case a_law_asked => k_is)
    (case l_law_asked => k_is)
    (case c_law_asked => k_is)
    (case k_law_asked => k_is)
    (case a_law => k_is)
    (case l_law => k_is)
    (case c_law => k_is)
    (case k_law => k_is)
    (case cG => k_is)
    (case cT => k_is)
    (case a_C_Cast => k_is)
    (case pg_C_Cast => k_is)
    (case hd_C_Cast => k_is)
    (case po_C_Cast => k_is)
    (case sa_C_Cast => k_is)
    (case mk_C_Cast => k_is)
    (case kc_C_Cast => k_is)
    (case cC_C_Cast => k_is)
    (case cM_C_Cast => k_is)
    (case kk_C_Cast => exact if_pos (beq_self_eq_true _))
    (case n_Cast_hands => k_is)
    (case n_Cast_marked => k_is)
    (case n_Cast_old => k_is)
    (case n_Cast_putters => k_is)
    (case kt_Cast_NoneType => kit_is)
    (case kt_Cast_bool => kit_is)
    (case kt_Cast_int => kit_is)
    (case kt_Cast_str => kit_is)
    (case kt_Cast_bytes => kit_is)
    (case kt_Cast_list => kit_is)
    (case kt_Cast_tuple => kit_is)
    (case kt_Cast_dict => kit_is)
    (case a_Cast_init => k_is)
    (case i_Cast_init => k_is)
    (case l_Cast_init => k_is)
    (case c_Cast_init => k_is)
    (case k_Cast_init => k_is)
    (case kv_Cast_init => rfl)
    (case kd_Cast_init_marked => k_is)
    (case a_Cast_len => k_is)
    (case i_Cast_len => k_is)
    (case l_Cast_len => k_is)
    (case c_Cast_len => k_is)
    (case k_Cast_len => k_is)
    (case a_Cast_putter => k_is)
    (case i_Cast_putter => k_is)
    (case l_Cast_putter => k_is)
    (case c_Cast_putter => k_is)
    (case k_Cast_putter => k_is)
    (case a_Cast_getitem => k_is)
    (case i_Cast_getitem => k_is)
    (case l_Cast_getitem => k_is)
    (case c_Cast_getitem => k_is)
    (case k_Cast_getitem => k_is)
    (case a_Cast_enders => k_is)
    (case i_Cast_enders => k_is)
    (case l_Cast_enders => k_is)
    (case c_Cast_enders => k_is)
    (case k_Cast_enders => k_is)
    (case a_Cast_add => k_is)
    (case i_Cast_add => k_is)
    (case l_Cast_add => k_is)
    (case c_Cast_add => k_is)
    (case k_Cast_add => k_is)
    (case sf_Cast => k_is)
    (case ra_Cast => k_is)
    (case fi_Cast => k_is)
    (case g_MOST_HANDS => k_is)
    (case g_MOST_OLD => k_is)
    (case g_OUTCOMES => k_is)
    (case lk_OUTCOMES => k_is)
    (case cl_OUTCOMES => rfl)
    (case sz_OUTCOMES => decide)
    (case vl_OUTCOMES => exact .cons ⟨_, rfl⟩ (.cons ⟨_, rfl⟩ .nil))
    (case z_ValueError => k_is)
    (case z_bool => k_is)
    (case z_enumerate => k_is)
    (case z_int => k_is)
    (case z_isinstance => k_is)
    (case z_len => k_is)
    (case z_max => k_is)
    (case z_range => k_is)
    (case z_repr => k_is)
    (case z_str => k_is)
    (case z_tuple => k_is)
    (case a_D_PagesError => k_is)
    (case rd_D_PagesError => k_is)
    (case ga_D_PagesError => k_is)
    (case up_PagesError => k_is)
    (case a_X_BadCast => k_is)
    (case x_X_BadCast => k_is)
    (case rv_X_BadCast => decide +kernel)
    (case sa_X_BadCast => k_is)
    (case gt_X_BadCast => k_is)
    (case gg_X_BadCast => k_is)
    (case cC_X_BadCast => k_is)
    (case no_X_BadCast => k_is)
    (case ex_X_BadCast => k_is)
    (case ty_X_BadCast => k_is)
    (case kc_X_BadCast => k_is)
    (case hd_X_BadCast => k_is)
    (case ic_X_BadCast => first | rfl | k_is)
    (case cM_X_BadCast => k_is)
    (case ss_X_BadCast => first | rfl | k_is)
    (case in_X_BadCast => k_is)
    (case it_X_BadCast => k_is)
    (case l_iX_BadCast => k_is)
    (case c_iX_BadCast => k_is)
    (case k_iX_BadCast => k_is)
    (case a_X_NoStep => k_is)
    (case ta_NoneType => k_is)
    (case tb_NoneType => k_is)
    (case tc_NoneType => k_is)
    (case ta_int => k_is)
    (case tb_int => k_is)
    (case tc_int => k_is)
    (case ta_str => k_is)
    (case tb_str => k_is)
    (case tc_str => k_is)
    (case ta_list => k_is)
    (case tb_list => k_is)
    (case tc_list => k_is)
    (case ta_tuple => k_is)
    (case tb_tuple => k_is)
    (case tc_tuple => k_is)
    (case kxD => kit_is)
    (case kxV => kit_is)
    (case kxN => kit_is)
