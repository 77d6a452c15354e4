import PyProof.Rows.All
import Wide.All
import OpenK.AllK
import Wide.FinOn
import PyProof.EqAt
import PyProof.EqKinds
import PyProof.TupleCall
import KE.KOpsOwn
import HandS.ForMost
import HandS.OwnEq
import HandS.Star
import HandS.ClsMeth
import HandS.IsInst
import HandS.Codes
import HandS.Flow
import HandS.Wide
import HandS.ForExc
import HandS.TupAny
import PyProof.ReprRoads
import PyProof.CallFns
import HandS.Ends
import KE.KExcIs
import HandS.ExcInit
import HandS.ExcField
import HandS.ExcIs
import HandS.ExcOwn
import HandS.MakeKw
import HandS.MakeKwOnly
import HandS.Defaults
import HandS.Property
import HandS.WordsExc
import HandS.Zip
import KE.GoesMore
import PyProof.Draws
import HandS.NoneIn
import HandS.Dict
import HandS.DictComp
import HandS.SortKw
import HandS.SortInts
import HandS.Style
import HandS.SetFor
import HandS.TupLe
import HandS.Conv
import PySem.Challenge.RW_trustedpages_k61_whole_no_cleanings_save
import Open.Row
import KE.RegKIsAll
set_option Elab.async false
set_option linter.all false
set_option maxRecDepth 100000
set_option maxHeartbeats 4000000
namespace DX
open PySem PySem.Spec PyProof.Rows L2
/-! values as data: what is frozen is told by its content, what may change by its number in the memory -/
inductive D where
  | non | bl (b : Bool) | int (i : Int) | str (x : Str) | byt (b : Array UInt8)
  | lst (xs : List D) | tup (xs : List D) | kt (xs : List D) | kl (xs : List D)
  | ins (C : Addr) (fs : List (Str × D))
  | val (v : V)
  | ob (k : Nat)
  | exc (a C : Addr) (d : Option Addr) (fs : List (Str × D))
/-- an object of the memory -/
inductive M where
  | lst (xs : List D)
  | ins (C : Addr) (fs : List (Str × D))
  | dic (kvs : List (Key × D))
abbrev Rho := List (Option D)
abbrev Mem := List M
mutual
inductive Rep (K : PySem.W.Frag) (as : List Addr) (F : Hp) : V → D → Prop
  | non : Rep K as F .non .non
  | bl (b : Bool) : Rep K as F (.bl b) (.bl b)
  | int (i : Int) : Rep K as F (.int i) (.int i)
  | str (x : Str) : Rep K as F (.str x) (.str x)
  | byt (b : Array UInt8) : Rep K as F (.byt b) (.byt b)
  | lst {a : Addr} {vs : List V} {ds : List D} : F a = some (.lst vs) → RepL K as F vs ds → Rep K as F (.ref a) (.lst ds)
  | kl {a : Addr} {vs : List V} {ds : List D} : SqL K F a vs → RepL K as F vs ds → Rep K as F (.ref a) (.kl ds)
  | tup {a : Addr} {vs : List V} {ds : List D} : F a = some (.tup vs) → RepL K as F vs ds → Rep K as F (.ref a) (.tup ds)
  | kt {a : Addr} {vs : List V} {ds : List D} : SqT K F a vs → RepL K as F vs ds → Rep K as F (.ref a) (.kt ds)
  | ins {a C dx : Addr} {fs : List (Str × V)} {gs : List (Str × D)} : F a = some (.ins C dx fs) → RepF K as F fs gs → Rep K as F (.ref a) (.ins C gs)
  | val (v : V) : Rep K as F v (.val v)
  | ob {k : Nat} {a : Addr} : as[k]? = some a → Rep K as F (.ref a) (.ob k)
  | exc0 {a C : Addr} {d : Option Addr} : Rep K as F (.ref a) (.exc a C d [])
  | exc {a C dd : Addr} {fs : List (Str × V)} {gs : List (Str × D)} : F dd = some (.xd fs) → RepF K as F fs gs → Rep K as F (.ref a) (.exc a C (some dd) gs)
inductive RepL (K : PySem.W.Frag) (as : List Addr) (F : Hp) : List V → List D → Prop
  | nil : RepL K as F [] []
  | cons {v : V} {vs : List V} {d : D} {ds : List D} : Rep K as F v d → RepL K as F vs ds → RepL K as F (v :: vs) (d :: ds)
inductive RepF (K : PySem.W.Frag) (as : List Addr) (F : Hp) : List (Str × V) → List (Str × D) → Prop
  | nil : RepF K as F [] []
  | cons {n : Str} {v : V} {vs : List (Str × V)} {d : D} {ds : List (Str × D)} : Rep K as F v d → RepF K as F vs ds → RepF K as F ((n, v) :: vs) ((n, d) :: ds)
end
/-- what is known grows -/
structure Gr (as : List Addr) (F : Hp) (as' : List Addr) (F' : Hp) : Prop where
  f : Same F F'
  p : ∀ (k : Nat) (a : Addr), as[k]? = some a → as'[k]? = some a
theorem Gr.refl {as : List Addr} {F : Hp} : Gr as F as F := ⟨Same.refl F, fun _ _ h => h⟩
theorem Gr.trans {as as1 as2 : List Addr} {F F1 F2 : Hp} (a : Gr as F as1 F1) (b : Gr as1 F1 as2 F2) : Gr as F as2 F2 := ⟨a.f.trans b.f, fun k x h => b.p k x (a.p k x h)⟩
theorem same_upd {H : Hp} {p : Addr} {o : HO} (h : H p = none) : Same H (upd H p o) := fun b x e => by
  rw [upd_ne (ne_of_none e h)]
  exact e
theorem Rd.up {H H' : Hp} {a : Addr} {u : HO} (s : Same H H') (h : Rd H a u) : Rd H' a u := h.elim (fun e => .inl (s _ _ e)) fun ⟨o, e⟩ => .inr ⟨o, s _ _ e⟩
section
variable {K : PySem.W.Frag} {as as' : List Addr} {F F' H H' : Hp}
mutual
theorem Rep.up (g : Gr as F as' F') : ∀ {v : V} {d : D}, Rep K as F v d → Rep K as' F' v d
  | _, _, .non => .non
  | _, _, .bl b => .bl b
  | _, _, .int b => .int b
  | _, _, .str b => .str b
  | _, _, .byt b => .byt b
  | _, _, .lst h r => .lst (g.f _ _ h) (RepL.up g r)
  | _, _, .kl h r => .kl (g.f.seq h) (RepL.up g r)
  | _, _, .tup h r => .tup (g.f _ _ h) (RepL.up g r)
  | _, _, .kt h r => .kt (SqT.ext h g.f) (RepL.up g r)
  | _, _, .ins h r => .ins (g.f _ _ h) (RepF.up g r)
  | _, _, .val v => .val v
  | _, _, .ob h => .ob (g.p _ _ h)
  | _, _, .exc0 => .exc0
  | _, _, .exc h r => .exc (g.f _ _ h) (RepF.up g r)
theorem RepL.up (g : Gr as F as' F') : ∀ {vs : List V} {ds : List D}, RepL K as F vs ds → RepL K as' F' vs ds
  | _, _, .nil => .nil
  | _, _, .cons h r => .cons (Rep.up g h) (RepL.up g r)
theorem RepF.up (g : Gr as F as' F') : ∀ {vs : List (Str × V)} {ds : List (Str × D)}, RepF K as F vs ds → RepF K as' F' vs ds
  | _, _, .nil => .nil
  | _, _, .cons h r => .cons (Rep.up g h) (RepF.up g r)
end
theorem RepL.len : ∀ {vs : List V} {ds : List D}, RepL K as F vs ds → vs.length = ds.length
  | _, _, .nil => rfl
  | _, _, .cons _ r => congrArg Nat.succ (RepL.len r)
theorem RepL.get : ∀ {vs : List V} {ds : List D} {i : Nat} {d : D}, RepL K as F vs ds → ds[i]? = some d → ∃ v, vs[i]? = some v ∧ Rep K as F v d
  | _, _, _, _, .nil, e => by simp at e
  | _, _, 0, _, .cons h _, e => by simp at e; subst e; exact ⟨_, rfl, h⟩
  | _, _, i + 1, d, .cons _ r, e => by
    obtain ⟨v, h1, h2⟩ := RepL.get (i := i) (d := d) r (by simpa using e)
    exact ⟨v, by simpa using h1, h2⟩
theorem RepL.get' : ∀ {vs : List V} {ds : List D} {i : Nat} {v : V}, RepL K as F vs ds → vs[i]? = some v → ∃ d, ds[i]? = some d ∧ Rep K as F v d
  | _, _, _, _, .nil, e => by simp at e
  | _, _, 0, _, .cons h _, e => by simp at e; subst e; exact ⟨_, rfl, h⟩
  | _, _, i + 1, d, .cons _ r, e => by
    obtain ⟨v, h1, h2⟩ := RepL.get' (i := i) (v := d) r (by simpa using e)
    exact ⟨v, by simpa using h1, h2⟩
theorem RepL.append : ∀ {vs us : List V} {ds es : List D}, RepL K as F vs ds → RepL K as F us es → RepL K as F (vs ++ us) (ds ++ es)
  | _, _, _, _, .nil, s => s
  | _, _, _, _, .cons r t, s => .cons r (RepL.append t s)
theorem RepL.take : ∀ {vs : List V} {ds : List D} (n : Nat), RepL K as F vs ds → RepL K as F (vs.take n) (ds.take n)
  | _, _, 0, _ => .nil
  | _, _, _ + 1, .nil => .nil
  | _, _, n + 1, .cons r t => .cons r (RepL.take n t)
theorem RepL.drop : ∀ {vs : List V} {ds : List D} (n : Nat), RepL K as F vs ds → RepL K as F (vs.drop n) (ds.drop n)
  | _, _, 0, r => r
  | _, _, _ + 1, .nil => .nil
  | _, _, n + 1, .cons _ t => RepL.drop n t
theorem RepL.set {v : V} {d : D} (h : Rep K as F v d) : ∀ {vs : List V} {ds : List D} (i : Nat), RepL K as F vs ds → RepL K as F (vs.set i v) (ds.set i d)
  | _, _, _, .nil => .nil
  | _, _, 0, .cons _ t => .cons h t
  | _, _, i + 1, .cons q t => .cons q (RepL.set h i t)
theorem RepL.reverse : ∀ {vs : List V} {ds : List D}, RepL K as F vs ds → RepL K as F vs.reverse ds.reverse
  | _, _, .nil => .nil
  | _, _, .cons h r => by
    rw [List.reverse_cons, List.reverse_cons]
    exact RepL.append (RepL.reverse r) (.cons h .nil)
theorem RepL.eraseIdx : ∀ {vs : List V} {ds : List D} (i : Nat), RepL K as F vs ds → RepL K as F (vs.eraseIdx i) (ds.eraseIdx i)
  | _, _, _, .nil => .nil
  | _, _, 0, .cons _ t => t
  | _, _, i + 1, .cons q t => .cons q (RepL.eraseIdx i t)
theorem RepF.look {n : Str} : ∀ {vs : List (Str × V)} {ds : List (Str × D)} {d : D}, RepF K as F vs ds → ds.lookup n = some d → ∃ v, vs.lookup n = some v ∧ Rep K as F v d
  | _, _, _, .nil, e => by cases e
  | _, _, _, .cons (n := m) h r, e => by
    rw [List.lookup_cons] at e ⊢
    cases q : n == m with
    | true => rw [q] at e; cases e; exact ⟨_, rfl, h⟩
    | false => rw [q] at e; exact RepF.look r e
theorem RepF.lookN {n : Str} : ∀ {vs : List (Str × V)} {ds : List (Str × D)}, RepF K as F vs ds → ds.lookup n = none → vs.lookup n = none
  | _, _, .nil, _ => rfl
  | _, _, .cons (n := m) h r, e => by
    rw [List.lookup_cons] at e ⊢
    cases q : n == m with
    | true => rw [q] at e; cases e
    | false => rw [q] at e; exact RepF.lookN r e
/-- the fields with one put in (as putF does) -/
def putD (f : Str) (d : D) : List (Str × D) → List (Str × D)
  | [] => [(f, d)]
  | (n, e) :: r => if n = f then (n, d) :: r else (n, e) :: putD f d r
theorem RepF.put {f : Str} {v : V} {d : D} (h : Rep K as F v d) : ∀ {vs : List (Str × V)} {ds : List (Str × D)}, RepF K as F vs ds → RepF K as F (putF f v vs) (putD f d ds)
  | _, _, .nil => .cons h .nil
  | _, _, .cons (n := n) (v := x) (vs := vs) (d := e) (ds := ds) q r => by
    show RepF K as F (if n = f then (n, v) :: vs else (n, x) :: putF f v vs) (if n = f then (n, d) :: ds else (n, e) :: putD f d ds)
    by_cases z : n = f
    · rw [if_pos z, if_pos z]; exact .cons h r
    · rw [if_neg z, if_neg z]; exact .cons q (RepF.put h r)
theorem RepF.len : ∀ {vs : List (Str × V)} {ds : List (Str × D)}, RepF K as F vs ds → vs.length = ds.length
  | _, _, .nil => rfl
  | _, _, .cons _ r => congrArg Nat.succ (RepF.len r)
end
end DX
set_option Elab.async false
set_option linter.all false
set_option maxRecDepth 100000
set_option maxHeartbeats 4000000
namespace DX
open PySem PySem.Spec PyProof.Rows L2
/-- a dict's entries -/
inductive RepK (K : PySem.W.Frag) (as : List Addr) (F : Hp) : List (Key × V) → List (Key × D) → Prop
  | nil : RepK K as F [] []
  | cons {n : Key} {v : V} {vs : List (Key × V)} {d : D} {ds : List (Key × D)} : Rep K as F v d → RepK K as F vs ds → RepK K as F ((n, v) :: vs) ((n, d) :: ds)
section
variable {K : PySem.W.Frag} {Z : Hp} {as as' : List Addr} {F F' H H' : Hp}
theorem RepK.up (g : Gr as F as' F') : ∀ {vs : List (Key × V)} {ds : List (Key × D)}, RepK K as F vs ds → RepK K as' F' vs ds
  | _, _, .nil => .nil
  | _, _, .cons h r => .cons (Rep.up g h) (RepK.up g r)
/-- what stands at a place of the memory -/
def MAt (K : PySem.W.Frag) (as : List Addr) (F H : Hp) (a : Addr) : M → Prop
  | .lst ds => ∃ vs, H a = some (.lst vs) ∧ RepL K as F vs ds
  | .ins C gs => ∃ dx fs, H a = some (.ins C dx fs) ∧ RepF K as F fs gs
  | .dic kvs => ∃ ks, H a = some (.dK ks) ∧ RepK K as F ks kvs
theorem MAt.some {a : Addr} {m : M} (h : MAt K as F H a m) : ∃ o, H a = some o := by
  cases m with
  | lst ds => obtain ⟨vs, e, _⟩ := h; exact ⟨_, e⟩
  | ins C gs => obtain ⟨dx, fs, e, _⟩ := h; exact ⟨_, e⟩
  | dic kvs => obtain ⟨ks, e, _⟩ := h; exact ⟨_, e⟩
theorem MAt.up {a : Addr} {m : M} (h : MAt K as F H a m) (g : Gr as F as' F') (e : H' a = H a) : MAt K as' F' H' a m := by
  cases m with
  | lst ds => obtain ⟨vs, q, r⟩ := h; exact ⟨vs, e.trans q, r.up g⟩
  | ins C gs => obtain ⟨dx, fs, q, r⟩ := h; exact ⟨dx, fs, e.trans q, r.up g⟩
  | dic kvs => obtain ⟨ks, q, r⟩ := h; exact ⟨ks, e.trans q, r.up g⟩
/-- the memory, in the heap H, over what is frozen -/
structure Mm (K : PySem.W.Frag) (Z : Hp) (as : List Addr) (F H : Hp) (μ : Mem) : Prop where
  same : Same F H
  len : as.length = μ.length
  nd : as.Nodup
  fr : ∀ a ∈ as, F a = none
  at_ : ∀ (k : Nat) (m : M), μ[k]? = some m → ∃ a, as[k]? = some a ∧ MAt K as F H a m
  hid : ∀ a o, Z a = some o → H a = some o ∧ F a = none ∧ a ∉ as
theorem Mm.there {μ : Mem} (h : Mm K Z as F H μ) {a : Addr} (ha : a ∈ as) : ∃ o, H a = some o := by
  obtain ⟨k, hk⟩ := List.getElem?_of_mem ha
  have hl : k < μ.length := by rw [← h.len]; exact (List.getElem?_eq_some_iff.mp hk).1
  obtain ⟨b, hb, m⟩ := h.at_ k _ (List.getElem?_eq_getElem hl)
  obtain rfl := Option.some.inj (hk.symm.trans hb)
  exact m.some
theorem Mm.new {μ : Mem} (h : Mm K Z as F H μ) {p : Addr} (n : H p = none) : p ∉ as := fun hp => by
  obtain ⟨o, e⟩ := h.there hp
  rw [n] at e; cases e
theorem Mm.newF {μ : Mem} (h : Mm K Z as F H μ) {p : Addr} (n : H p = none) : F p = none := h.same.free n
/-- the heap grows by what nobody looks at -/
theorem Mm.ext {μ : Mem} (h : Mm K Z as F H μ) (s : Same H H') : Mm K Z as F H' μ :=
  ⟨h.same.trans s, h.len, h.nd, h.fr, fun k m e => by
    obtain ⟨a, ha, x⟩ := h.at_ k m e
    obtain ⟨o, q⟩ := x.some
    exact ⟨a, ha, x.up Gr.refl ((s _ _ q).trans q.symm)⟩, fun a o e => ⟨s _ _ (h.hid a o e).1, (h.hid a o e).2⟩⟩
theorem Gr.upd {p : Addr} {o : HO} (n : F p = none) : Gr as F as (upd F p o) := ⟨same_upd n, fun _ _ e => e⟩
/-- a new frozen thing -/
theorem Mm.addF {μ : Mem} (h : Mm K Z as F H μ) {p : Addr} {o : HO} (n : H p = none) : Mm K Z as (upd F p o) (upd H p o) μ := by
  refine ⟨fun b u e => ?_, h.len, h.nd, fun a ha => ?_, fun k m e => ?_, fun a o' e => ?_⟩
  · by_cases z : b = p
    · subst z; rw [upd_same] at e ⊢; exact e
    · rw [upd_ne z] at e ⊢; exact h.same _ _ e
  · rw [upd_ne (fun z : a = p => h.new n (by rw [← z]; exact ha))]; exact h.fr a ha
  · obtain ⟨a, ha, x⟩ := h.at_ k m e
    exact ⟨a, ha, x.up (Gr.upd (h.newF n)) (upd_ne (fun z : a = p => h.new n (by rw [← z]; exact List.mem_of_getElem? ha)))⟩
  · obtain ⟨e1, e2, e3⟩ := h.hid a o' e
    have ne : a ≠ p := ne_of_none e1 n
    exact ⟨by rw [upd_ne ne]; exact e1, by rw [upd_ne ne]; exact e2, e3⟩
theorem Gr.add {p : Addr} : Gr as F (as ++ [p]) F := ⟨Same.refl F, fun k a e => by rw [List.getElem?_append_left (List.getElem?_eq_some_iff.mp e).1]; exact e⟩
/-- a new thing that may change -/
theorem Mm.addM {μ : Mem} (h : Mm K Z as F H μ) {p : Addr} {o : HO} {m : M} (n : H p = none) (x : MAt K (as ++ [p]) F (upd H p o) p m) : Mm K Z (as ++ [p]) F (upd H p o) (μ ++ [m]) := by
  refine ⟨h.same.trans (same_upd n), by rw [List.length_append, List.length_append, h.len]; rfl, List.nodup_append.mpr ⟨h.nd, List.nodup_cons.mpr ⟨List.not_mem_nil, List.nodup_nil⟩, fun a ha b hb => ?_⟩, fun a ha => ?_, fun k m' e => ?_, fun a o' e => ?_⟩
  · rw [List.mem_singleton.mp hb]
    exact fun z => h.new n (by rw [← z]; exact ha)
  · rcases List.mem_append.mp ha with z | z
    · exact h.fr a z
    · rw [List.mem_singleton.mp z]; exact h.newF n
  · by_cases hk : k < μ.length
    · rw [List.getElem?_append_left hk] at e
      obtain ⟨a, ha, y⟩ := h.at_ k m' e
      exact ⟨a, (Gr.add (F := F)).p k a ha, y.up Gr.add (upd_ne (fun z : a = p => h.new n (by rw [← z]; exact List.mem_of_getElem? ha)))⟩
    · rw [List.getElem?_append_right (by omega)] at e
      have hz : k - μ.length = 0 := by
        have := (List.getElem?_eq_some_iff.mp e).1
        simp at this
        omega
      rw [hz] at e
      cases e
      refine ⟨p, ?_, x⟩
      rw [List.getElem?_append_right (by have := h.len; omega), h.len, hz]
      rfl
  · obtain ⟨e1, e2, e3⟩ := h.hid a o' e
    have ne : a ≠ p := ne_of_none e1 n
    exact ⟨by rw [upd_ne ne]; exact e1, e2, fun z => (List.mem_append.mp z).elim e3 fun z => ne (List.mem_singleton.mp z)⟩
/-- a thing changed -/
theorem Mm.put {μ : Mem} (h : Mm K Z as F H μ) {k : Nat} {a : Addr} {o : HO} {m : M} (ha : as[k]? = some a) (x : MAt K as F (upd H a o) a m) : Mm K Z as F (upd H a o) (μ.set k m) := by
  refine ⟨fun b u e => ?_, by rw [List.length_set]; exact h.len, h.nd, h.fr, fun j m' e => ?_, fun b o' e => ?_⟩
  · rw [upd_ne fun z => ?_]
    · exact h.same _ _ e
    · rw [z, h.fr a (List.mem_of_getElem? ha)] at e; cases e
  · by_cases hj : j = k
    · subst hj
      have hl : j < μ.length := by
        have := (List.getElem?_eq_some_iff.mp e).1
        rwa [List.length_set] at this
      rw [List.getElem?_set_self hl] at e
      cases e
      exact ⟨a, ha, x⟩
    · rw [List.getElem?_set_ne (Ne.symm hj)] at e
      obtain ⟨b, hb, y⟩ := h.at_ j m' e
      refine ⟨b, hb, y.up Gr.refl (upd_ne fun z => hj ?_)⟩
      subst z
      exact (List.getElem?_inj (List.getElem?_eq_some_iff.mp hb).1 h.nd).mp (hb.trans ha.symm)
  · obtain ⟨e1, e2, e3⟩ := h.hid b o' e
    exact ⟨by rw [upd_ne (fun z : b = a => e3 (by rw [z]; exact List.mem_of_getElem? ha))]; exact e1, e2, e3⟩
/-- the slots hold what ρ says -/
structure EnvR (K : PySem.W.Frag) (as : List Addr) (F : Hp) (σ : L2.St) (ρ : Rho) : Prop where
  len : σ.length = ρ.length
  get : ∀ (i : Nat) (d : D), ρ[i]? = some (some d) → ∃ v, σ[i]? = some (some v) ∧ Rep K as F v d
theorem EnvR.up {σ : L2.St} {ρ : Rho} (h : EnvR K as F σ ρ) (g : Gr as F as' F') : EnvR K as' F' σ ρ := ⟨h.len, fun i d e => by
  obtain ⟨v, h1, h2⟩ := h.get i d e
  exact ⟨v, h1, h2.up g⟩⟩
theorem EnvR.set {σ : L2.St} {ρ : Rho} (h : EnvR K as F σ ρ) {v : V} {d : D} (r : Rep K as F v d) (i : Nat) : EnvR K as F (σ.set i (some v)) (ρ.set i (some d)) := by
  refine ⟨by rw [List.length_set, List.length_set]; exact h.len, fun j e q => ?_⟩
  by_cases hj : j = i
  · subst hj
    have hl : j < ρ.length := by
      have := (List.getElem?_eq_some_iff.mp q).1
      rwa [List.length_set] at this
    rw [List.getElem?_set_self hl] at q
    cases q
    exact ⟨v, List.getElem?_set_self (by rw [h.len]; exact hl), r⟩
  · rw [List.getElem?_set_ne (Ne.symm hj)] at q ⊢
    exact h.get j e q
theorem EnvR.unset {σ : L2.St} {ρ : Rho} (h : EnvR K as F σ ρ) (i : Nat) : EnvR K as F (σ.set i none) (ρ.set i none) := by
  refine ⟨by rw [List.length_set, List.length_set]; exact h.len, fun j e q => ?_⟩
  by_cases hj : j = i
  · subst hj
    have hl : j < ρ.length := by
      have := (List.getElem?_eq_some_iff.mp q).1
      rwa [List.length_set] at this
    rw [List.getElem?_set_self hl] at q
    cases q
  · rw [List.getElem?_set_ne (Ne.symm hj)] at q ⊢
    exact h.get j e q
/-- the state -/
structure Rp (K : PySem.W.Frag) (Z : Hp) (as : List Addr) (F H : Hp) (σ : L2.St) (ρ : Rho) (μ : Mem) : Prop where
  mm : Mm K Z as F H μ
  env : EnvR K as F σ ρ
/-! ### what is read: frozen or in the memory -/
def view (μ : Mem) : D → D
  | .ob k => match μ[k]? with
    | some (.lst ds) => .lst ds
    | some (.ins C fs) => .ins C fs
    | _ => .ob k
  | .kt ds => .tup ds
  | .kl ds => .lst ds
  | d => d
theorem view_lst {μ : Mem} (h : Mm K Z as F H μ) {v : V} {d : D} (r : Rep K as F v d) {ds : List D} (e : view μ d = .lst ds) : ∃ a vs, v = .ref a ∧ SqL K H a vs ∧ RepL K as F vs ds := by
  cases r with
  | lst q x => cases e; exact ⟨_, _, rfl, SqL.of (h.same _ _ q), x⟩
  | kl q x => cases e; exact ⟨_, _, rfl, h.same.seq q, x⟩
  | ob q =>
    rename_i k a
    have e : (match μ[k]? with | some (M.lst ds) => D.lst ds | some (.ins C fs) => .ins C fs | _ => .ob k) = .lst ds := e
    cases z : μ[k]? with
    | none => rw [z] at e; cases e
    | some m =>
      rw [z] at e
      obtain ⟨b, hb, y⟩ := h.at_ k m z
      obtain rfl := Option.some.inj (q.symm.trans hb)
      cases m with
      | lst es => cases e; obtain ⟨vs, e1, e2⟩ := y; exact ⟨_, vs, rfl, SqL.of e1, e2⟩
      | ins C fs => cases e
      | dic kv => cases e
  | _ => cases e
theorem view_ins {μ : Mem} (h : Mm K Z as F H μ) {v : V} {d : D} (r : Rep K as F v d) {C : Addr} {gs : List (Str × D)} (e : view μ d = .ins C gs) : ∃ a dx fs, v = .ref a ∧ H a = some (.ins C dx fs) ∧ RepF K as F fs gs := by
  cases r with
  | ins q x => cases e; exact ⟨_, _, _, rfl, h.same _ _ q, x⟩
  | ob q =>
    rename_i k a
    have e : (match μ[k]? with | some (M.lst ds) => D.lst ds | some (.ins C fs) => .ins C fs | _ => .ob k) = .ins C gs := e
    cases z : μ[k]? with
    | none => rw [z] at e; cases e
    | some m =>
      rw [z] at e
      obtain ⟨b, hb, y⟩ := h.at_ k m z
      obtain rfl := Option.some.inj (q.symm.trans hb)
      cases m with
      | lst es => cases e
      | ins C fs => cases e; obtain ⟨dx, vs, e1, e2⟩ := y; exact ⟨_, dx, vs, rfl, e1, e2⟩
      | dic kv => cases e
  | _ => cases e
theorem view_tup {μ : Mem} (h : Mm K Z as F H μ) {v : V} {d : D} (r : Rep K as F v d) {ds : List D} (e : view μ d = .tup ds) : ∃ a vs, v = .ref a ∧ SqT K H a vs ∧ RepL K as F vs ds := by
  cases r with
  | tup q x => cases e; exact ⟨_, _, rfl, SqT.of (h.same _ _ q), x⟩
  | kt q x => cases e; exact ⟨_, _, rfl, SqT.ext q h.same, x⟩
  | ob q =>
    rename_i k a
    have e : (match μ[k]? with | some (M.lst ds) => D.lst ds | some (.ins C fs) => .ins C fs | _ => .ob k) = .tup ds := e
    cases z : μ[k]? with
    | none => rw [z] at e; cases e
    | some m =>
      rw [z] at e
      cases m with
      | lst es => cases e
      | ins C fs => cases e
      | dic kv => cases e
  | _ => cases e
/-- what is tracked -/
def viewT (μ : Mem) : D → D
  | .ob k => match μ[k]? with
    | some (.lst ds) => .lst ds
    | some (.ins C fs) => .ins C fs
    | _ => .ob k
  | d => d
theorem viewT_lst {μ : Mem} (h : Mm K Z as F H μ) {v : V} {d : D} (r : Rep K as F v d) {ds : List D} (e : viewT μ d = .lst ds) : ∃ a vs, v = .ref a ∧ H a = some (.lst vs) ∧ RepL K as F vs ds := by
  cases r with
  | lst q x => cases e; exact ⟨_, _, rfl, h.same _ _ q, x⟩
  | ob q =>
    rename_i k a
    have e : (match μ[k]? with | some (M.lst ds) => D.lst ds | some (.ins C fs) => .ins C fs | _ => .ob k) = .lst ds := e
    cases z : μ[k]? with
    | none => rw [z] at e; cases e
    | some m =>
      rw [z] at e
      obtain ⟨b, hb, y⟩ := h.at_ k m z
      obtain rfl := Option.some.inj (q.symm.trans hb)
      cases m with
      | lst es => cases e; obtain ⟨vs, e1, e2⟩ := y; exact ⟨_, vs, rfl, e1, e2⟩
      | ins C fs => cases e
      | dic kv => cases e
  | _ => cases e
end
end DX
set_option Elab.async false
set_option linter.all false
set_option maxRecDepth 100000
set_option maxHeartbeats 4000000
namespace DX
open PySem PySem.Spec PyProof.Rows L2
/-! readings by data -/
abbrev XD := Rho → Addr → List (Str × D) → Mem → Prop
abbrev DTE := Rho → Mem → (D → Mem → Prop) → XD → Prop
abbrev DTT := Rho → Mem → (Bool → Mem → Prop) → XD → Prop
abbrev DTA := Rho → Mem → (List D → Mem → Prop) → XD → Prop
structure DEnds where
  nx : Rho → Mem → Prop
  rt : D → Mem → Prop
  bk : Rho → Mem → Prop := fun _ _ => False
  ct : Rho → Mem → Prop := fun _ _ => False
abbrev DTS := DEnds → XD → Rho → Mem → Prop
/-- how an exception's fields stand -/
def ExcR (K : PySem.W.Frag) (as : List Addr) (F : Hp) (dx : Option Addr) (gs : List (Str × D)) : Prop := gs = [] ∨ ∃ dd fs, dx = some dd ∧ F dd = some (.xd fs) ∧ RepF K as F fs gs
section
variable {K : PySem.W.Frag} {Z : Hp} {as as' as1 : List Addr} {F F' F1 H H' H1 : Hp}
def XL (K : PySem.W.Frag) (Ex : L2.St → XK) (Z : Hp) (as : List Addr) (F : Hp) (E : XD) : Prop :=
  ∀ (σ : L2.St) (ρ : Rho) (μ : Mem) (as' : List Addr) (F' H : Hp) (C : Addr) (gs : List (Str × D)) (dx : Option Addr), Gr as F as' F' → Rp K Z as' F' H σ ρ μ → ExcR K as' F' dx gs → E ρ C gs μ → Ex σ (.ref C) dx H
theorem XL.up {Ex : L2.St → XK} {E : XD} (h : XL K Ex Z as F E) (g : Gr as F as1 F1) : XL K Ex Z as1 F1 E := fun σ ρ μ as' F' H C gs dx g' => h σ ρ μ as' F' H C gs dx (g.trans g')
abbrev X0 : L2.St → XK := fun _ => E0
abbrev XN : XD := fun _ _ _ _ => False
theorem XL.no {Ex : L2.St → XK} : XL K Ex Z as F XN := fun _ _ _ _ _ _ _ _ _ _ _ _ z => z.elim
theorem Rp.up {σ : L2.St} {ρ : Rho} {μ μ' : Mem} (h : Rp K Z as F H σ ρ μ) (g : Gr as F as' F') (m : Mm K Z as' F' H' μ') : Rp K Z as' F' H' σ ρ μ' := ⟨m, h.env.up g⟩
def Sim (K : PySem.W.Frag) (Ex : L2.St → XK) (t : TE) (u : DTE) : Prop :=
  ∀ (Z : Hp) (as : List Addr) (F H : Hp) (σ : L2.St) (ρ : Rho) (μ : Mem) (Q : D → Mem → Prop) (E : XD) (Q' : VK), Rp K Z as F H σ ρ μ → XL K Ex Z as F E → u ρ μ Q E →
    (∀ v d μ' as' F' H', Gr as F as' F' → Rp K Z as' F' H' σ ρ μ' → Rep K as' F' v d → Q d μ' → Q' v H') → t σ H Q'
def SimT (K : PySem.W.Frag) (Ex : L2.St → XK) (t : TT) (u : DTT) : Prop :=
  ∀ (Z : Hp) (as : List Addr) (F H : Hp) (σ : L2.St) (ρ : Rho) (μ : Mem) (Q : Bool → Mem → Prop) (E : XD) (Q' : Bool → Hp → Prop), Rp K Z as F H σ ρ μ → XL K Ex Z as F E → u ρ μ Q E →
    (∀ b μ' as' F' H', Gr as F as' F' → Rp K Z as' F' H' σ ρ μ' → Q b μ' → Q' b H') → t σ H Q'
def SimA (K : PySem.W.Frag) (Ex : L2.St → XK) (t : TA) (u : DTA) : Prop :=
  ∀ (Z : Hp) (as : List Addr) (F H : Hp) (σ : L2.St) (ρ : Rho) (μ : Mem) (Q : List D → Mem → Prop) (E : XD) (Q' : List V → Hp → Prop), Rp K Z as F H σ ρ μ → XL K Ex Z as F E → u ρ μ Q E →
    (∀ vs ds μ' as' F' H', Gr as F as' F' → Rp K Z as' F' H' σ ρ μ' → RepL K as' F' vs ds → Q ds μ' → Q' vs H') → t σ H Q'
def SimS (K : PySem.W.Frag) (Ex : L2.St → XK) (t : TS) (u : DTS) : Prop :=
  ∀ (Z : Hp) (as : List Addr) (F H : Hp) (σ : L2.St) (ρ : Rho) (μ : Mem) (De : DEnds) (E : XD) (D' : Ends), Rp K Z as F H σ ρ μ → XL K Ex Z as F E → u De E ρ μ →
    (∀ σ' ρ' μ' as' F' H', Gr as F as' F' → Rp K Z as' F' H' σ' ρ' μ' → De.nx ρ' μ' → D'.nx σ' H') →
    (∀ v d μ' as' F' H', Gr as F as' F' → Mm K Z as' F' H' μ' → Rep K as' F' v d → De.rt d μ' → D'.rt v H') →
    (∀ σ' ρ' μ' as' F' H', Gr as F as' F' → Rp K Z as' F' H' σ' ρ' μ' → De.bk ρ' μ' → D'.bk σ' H') →
    (∀ σ' ρ' μ' as' F' H', Gr as F as' F' → Rp K Z as' F' H' σ' ρ' μ' → De.ct ρ' μ' → D'.ct σ' H') → t D' σ H
structure PD (X : Cx) (K : PySem.W.Frag) (Ex : L2.St → XK) (e : Expr) (t : TE) (u : DTE) : Prop where
  pe : PE X e t
  sim : Sim K Ex t u
structure TD (X : Cx) (K : PySem.W.Frag) (Ex : L2.St → XK) (e : Expr) (t : TT) (u : DTT) : Prop where
  pe : PT X e t
  sim : SimT K Ex t u
structure WD (X : Cx) (K : PySem.W.Frag) (Ex : L2.St → XK) (e : Expr) (t : TT) (u : DTT) : Prop where
  pe : PW X e t
  sim : SimT K Ex t u
structure AD (X : Cx) (K : PySem.W.Frag) (Ex : L2.St → XK) (es : List Expr) (t : TA) (u : DTA) : Prop where
  pe : PA X es t
  sim : SimA K Ex t u
structure SD (X : Cx) (K : PySem.W.Frag) (Ex : L2.St → XK) (s : Stmt) (t : TS) (u : DTS) : Prop where
  pe : PS X s t
  sim : SimS K Ex t u
structure BD (X : Cx) (K : PySem.W.Frag) (Ex : L2.St → XK) (s : List Stmt) (t : TS) (u : DTS) : Prop where
  pe : PSs X s t
  sim : SimS K Ex t u
variable {Ex : L2.St → XK}
/-! ### names, constants -/
def uVar (i : Nat) : DTE := fun ρ μ Q _ => match ρ[i]? with
  | some (some d) => Q d μ
  | _ => False
theorem sim_var (i : Nat) : Sim K Ex (tVar i) (uVar i) := fun Z as F H σ ρ μ Q E Q' R X h k => by
  have h : (match ρ[i]? with | some (some d) => Q d μ | _ => False) := h
  cases e : ρ[i]? with
  | none => rw [e] at h; exact h.elim
  | some o =>
    rw [e] at h
    cases o with
    | none => exact h.elim
    | some d =>
      obtain ⟨v, h1, h2⟩ := R.env.get i d e
      exact ⟨v, h1, k v d μ as F H Gr.refl R h2 h⟩
def uC (d : D) : DTE := fun _ μ Q _ => Q d μ
theorem sim_c {v : V} {d : D} (r : ∀ as F, Rep K as F v d) : Sim K Ex (tC v) (uC d) := fun Z as F H σ ρ μ Q E Q' R X h k => k v d μ as F H Gr.refl R (r as F) h
/-! ### lists of expressions -/
def uNil : DTA := fun _ μ Q _ => Q [] μ
def uCons (u : DTE) (w : DTA) : DTA := fun ρ μ Q E => u ρ μ (fun d μ1 => w ρ μ1 (fun ds μ2 => Q (d :: ds) μ2) E) E
theorem sim_nil : SimA K Ex tNil uNil := fun Z as F H σ ρ μ Q E Q' R X h k => k [] [] μ as F H Gr.refl R .nil h
theorem sim_cons {t : TE} {u : DTE} {s : TA} {w : DTA} (a : Sim K Ex t u) (b : SimA K Ex s w) : SimA K Ex (tCons t s) (uCons u w) := fun Z as F H σ ρ μ Q E Q' R X h k =>
  a Z as F H σ ρ μ _ E _ R X h fun v d μ1 as1 F1 H1 g1 R1 r1 h1 => b Z as1 F1 H1 σ ρ μ1 _ E _ R1 (X.up g1) h1 fun vs ds μ2 as2 F2 H2 g2 R2 r2 h2 =>
    k (v :: vs) (d :: ds) μ2 as2 F2 H2 (g1.trans g2) R2 (.cons (r1.up g2) r2) h2
/-! ### displays -/
def uTup (w : DTA) : DTE := fun ρ μ Q E => w ρ μ (fun ds μ1 => ds.length ≤ 1000 ∧ Q (.tup ds) μ1) E
def uLst (w : DTA) : DTE := fun ρ μ Q E => w ρ μ (fun ds μ1 => ds.length ≤ 1000 ∧ Q (.lst ds) μ1) E
def uLstM (w : DTA) : DTE := fun ρ μ Q E => w ρ μ (fun ds μ1 => ds.length ≤ 1000 ∧ Q (.ob μ1.length) (μ1 ++ [.lst ds])) E
theorem le_line {n : Nat} (h : n ≤ 1000) : n ≤ sizeLine := Nat.le_trans h (by decide)
theorem sim_tup {t : TA} {w : DTA} (a : SimA K Ex t w) : Sim K Ex (tTup t) (uTup w) := fun Z as F H σ ρ μ Q E Q' R X h k =>
  a Z as F H σ ρ μ _ E _ R X h fun vs ds μ1 as1 F1 H1 g1 R1 r1 h1 => ⟨by rw [r1.len]; exact le_line h1.1, fun p np =>
    have g2 := Gr.upd (as := as1) (o := .tup vs) (R1.mm.newF np)
    k _ _ μ1 as1 _ _ (g1.trans g2) (R1.up g2 (R1.mm.addF np)) (.tup upd_same (r1.up g2)) h1.2⟩
theorem sim_lst {t : TA} {w : DTA} (a : SimA K Ex t w) : Sim K Ex (tLst t) (uLst w) := fun Z as F H σ ρ μ Q E Q' R X h k =>
  a Z as F H σ ρ μ _ E _ R X h fun vs ds μ1 as1 F1 H1 g1 R1 r1 h1 => ⟨by rw [r1.len]; exact le_line h1.1, fun p np =>
    have g2 := Gr.upd (as := as1) (o := .lst vs) (R1.mm.newF np)
    k _ _ μ1 as1 _ _ (g1.trans g2) (R1.up g2 (R1.mm.addF np)) (.lst upd_same (r1.up g2)) h1.2⟩
theorem rep_ob {as : List Addr} {n : Nat} {p : Addr} (e : as.length = n) : Rep K (as ++ [p]) F (.ref p) (.ob n) := .ob (by rw [List.getElem?_append_right (by omega), e, Nat.sub_self]; rfl)
theorem sim_lstM {t : TA} {w : DTA} (a : SimA K Ex t w) : Sim K Ex (tLst t) (uLstM w) := fun Z as F H σ ρ μ Q E Q' R X h k =>
  a Z as F H σ ρ μ _ E _ R X h fun vs ds μ1 as1 F1 H1 g1 R1 r1 h1 => ⟨by rw [r1.len]; exact le_line h1.1, fun p np =>
    k _ _ _ (as1 ++ [p]) F1 _ (g1.trans Gr.add) (R1.up Gr.add (R1.mm.addM (m := .lst ds) np ⟨vs, upd_same, r1.up Gr.add⟩)) (rep_ob R1.mm.len) h1.2⟩
/-! ### operators by values -/
abbrev DR2 := D → D → Mem → (D → Mem → Prop) → Prop
def SimR (K : PySem.W.Frag) (r : R2) (dr : DR2) : Prop := ∀ (Z : Hp) (as : List Addr) (F H : Hp) (μ : Mem) (x y : V) (d e : D) (Q : D → Mem → Prop) (Q' : VK), Mm K Z as F H μ → Rep K as F x d → Rep K as F y e → dr d e μ Q →
  (∀ v d' μ' as' F' H', Gr as F as' F' → Mm K Z as' F' H' μ' → Rep K as' F' v d' → Q d' μ' → Q' v H') → r x y H Q'
def uOp (dr : DR2) (ua ub : DTE) : DTE := fun ρ μ Q E => ua ρ μ (fun x μ1 => ub ρ μ1 (fun y μ2 => dr x y μ2 Q) E) E
theorem sim_op {r : R2} {dr : DR2} {ta tb : TE} {ua ub : DTE} (s : SimR K r dr) (a : Sim K Ex ta ua) (b : Sim K Ex tb ub) : Sim K Ex (tOp r ta tb) (uOp dr ua ub) := fun Z as F H σ ρ μ Q E Q' R X h k =>
  a Z as F H σ ρ μ _ E _ R X h fun v d μ1 as1 F1 H1 g1 R1 r1 h1 => b Z as1 F1 H1 σ ρ μ1 _ E _ R1 (X.up g1) h1 fun v2 d2 μ2 as2 F2 H2 g2 R2 r2 h2 =>
    s Z as2 F2 H2 μ2 v v2 d d2 Q Q' R2.mm (r1.up g2) r2 h2 fun v' d' μ' as' F' H' g3 M3 r3 q => k v' d' μ' as' F' H' ((g1.trans g2).trans g3) (R2.up g3 M3) r3 q
def rOr (r s : R2) : R2 := fun x y H Q => r x y H Q ∨ s x y H Q
theorem opr_or {X : Cx} {f : Value → Value → Sem Value} {r s : R2} (a : OpR X f r) (b : OpR X f s) : OpR X f (rOr r s) := fun pins s σ H x y v u Q I rx ry h =>
  h.elim (fun z => a pins s σ H x y v u Q I rx ry z) fun z => b pins s σ H x y v u Q I rx ry z
theorem simR_or {r s : R2} {a b : DR2} (h1 : SimR K r a) (h2 : SimR K s b) : SimR K (rOr r s) (fun x y μ Q => a x y μ Q ∨ b x y μ Q) := fun Z as F H μ x y d e Q Q' M rx ry h k =>
  h.elim (fun z => .inl (h1 Z as F H μ x y d e Q Q' M rx ry z k)) fun z => .inr (h2 Z as F H μ x y d e Q Q' M rx ry z k)
theorem SimR.imp {r : R2} {a b : DR2} (h : SimR K r a) (i : ∀ x y μ Q, b x y μ Q → a x y μ Q) : SimR K r b := fun Z as F H μ x y d e Q Q' M rx ry z k => h Z as F H μ x y d e Q Q' M rx ry (i _ _ _ _ z) k
/-- ints -/
def dI (g : Int → Int → D) : DR2 := fun x y μ Q => match x, y with
  | .int i, .int j => Q (g i j) μ
  | _, _ => False
def dIC (C : Int → Int → Prop) (g : Int → Int → D) : DR2 := fun x y μ Q => match x, y with
  | .int i, .int j => C i j ∧ Q (g i j) μ
  | _, _ => False
theorem simR_int {g : Int → Int → D} {v : Int → Int → V} (h : ∀ i j as F, Rep K as F (v i j) (g i j)) : SimR K (rI0 v) (dI g) := fun Z as F H μ x y d e Q Q' M rx ry z k => by
  cases rx <;> try exact z.elim
  cases ry <;> try exact z.elim
  exact ⟨_, _, rfl, rfl, k _ _ μ as F H Gr.refl M (h _ _ as F) z⟩
theorem simR_intC {C : Int → Int → Prop} {g : Int → Int → D} {v : Int → Int → V} (h : ∀ i j as F, Rep K as F (v i j) (g i j)) : SimR K (rI C v) (dIC C g) := fun Z as F H μ x y d e Q Q' M rx ry z k => by
  cases rx <;> try exact z.elim
  cases ry <;> try exact z.elim
  exact ⟨_, _, rfl, rfl, z.1, k _ _ μ as F H Gr.refl M (h _ _ as F) z.2⟩
end
end DX
set_option Elab.async false
set_option linter.all false
set_option maxRecDepth 100000
set_option maxHeartbeats 4000000
namespace DX
open PySem PySem.Spec PyProof.Rows L2
/-! data: equality, what repr and == may be asked of -/
mutual
def deqv : D → D → Bool
  | .non, .non => true
  | .bl a, .bl b => a == b
  | .bl a, .int j => (if a then 1 else 0) == j
  | .int i, .bl b => i == (if b then 1 else 0)
  | .int i, .int j => i == j
  | .str x, .str y => x == y
  | .byt x, .byt y => x.toList == y.toList
  | .lst xs, .lst ys => deqvL xs ys
  | .tup xs, .tup ys => deqvL xs ys
  | _, _ => false
def deqvL : List D → List D → Bool
  | [], [] => true
  | x :: xs, y :: ys => deqv x y && deqvL xs ys
  | _, _ => false
end
mutual
def toP : D → Option PyData
  | .non => some .none
  | .bl b => some (.bool b)
  | .int i => some (.int i)
  | .str x => some (.str x)
  | .lst xs => (toPL xs).map .list
  | .tup xs => (toPL xs).map .tuple
  | _ => none
def toPL : List D → Option (List PyData)
  | [] => some []
  | x :: xs => match toP x, toPL xs with
    | some p, some ps => some (p :: ps)
    | _, _ => none
end
mutual
/-- pure data whose texts are well-formed -/
def dlay : D → Bool
  | .non => true
  | .bl _ => true
  | .int _ => true
  | .str x => PyData.strOk x
  | .lst xs => dlayL xs
  | .tup xs => dlayL xs
  | _ => false
def dlayL : List D → Bool
  | [] => true
  | x :: xs => dlay x && dlayL xs
end
mutual
def ddep : D → Nat
  | .lst xs => ddepL xs + 1
  | .tup xs => ddepL xs + 1
  | _ => 0
def ddepL : List D → Nat
  | [] => 0
  | x :: xs => max (ddep x) (ddepL xs)
end
def dok (d : D) : Bool := dlay d && decide (ddep d ≤ 60)
section
variable {K : PySem.W.Frag} {Z : Hp} {as as' as1 : List Addr} {F F' F1 H H' H1 : Hp}
mutual
theorem lay_toP : ∀ {d : D}, dlay d = true → ∃ p, toP d = some p ∧ PyData.canLay0 p = true ∧ p.depth = ddep d
  | .non, _ => ⟨_, rfl, rfl, rfl⟩
  | .bl _, _ => ⟨_, rfl, rfl, rfl⟩
  | .int _, _ => ⟨_, rfl, rfl, rfl⟩
  | .str x, h => ⟨.str x, rfl, h, rfl⟩
  | .lst xs, h => by
    obtain ⟨ps, h1, h2, h3⟩ := lay_toPL (ds := xs) h
    exact ⟨.list ps, (by show (toPL xs).map _ = _; rw [h1]; rfl), h2, (by show PyData.depthAll ps + 1 = ddepL xs + 1; rw [h3])⟩
  | .tup xs, h => by
    obtain ⟨ps, h1, h2, h3⟩ := lay_toPL (ds := xs) h
    exact ⟨.tuple ps, (by show (toPL xs).map _ = _; rw [h1]; rfl), h2, (by show PyData.depthAll ps + 1 = ddepL xs + 1; rw [h3])⟩
  | .byt _, h => nomatch h
  | .kt _, h => nomatch h
  | .kl _, h => nomatch h
  | .ins _ _, h => nomatch h
  | .val _, h => nomatch h
  | .ob _, h => nomatch h
  | .exc _ _ _ _, h => nomatch h
theorem lay_toPL : ∀ {ds : List D}, dlayL ds = true → ∃ ps, toPL ds = some ps ∧ PyData.canLayAll0 ps = true ∧ PyData.depthAll ps = ddepL ds
  | [], _ => ⟨[], rfl, rfl, rfl⟩
  | d :: ds, h => by
    have h : (dlay d && dlayL ds) = true := h
    rw [Bool.and_eq_true] at h
    obtain ⟨p, h1, h2, h3⟩ := lay_toP (d := d) h.1
    obtain ⟨ps, g1, g2, g3⟩ := lay_toPL (ds := ds) h.2
    refine ⟨p :: ps, ?_, ?_, ?_⟩
    · show (match toP d, toPL ds with | some p, some ps => some (p :: ps) | _, _ => none) = _
      rw [h1, g1]
    · show (PyData.canLay0 p && PyData.canLayAll0 ps) = true
      rw [h2, g2]; rfl
    · show max p.depth (PyData.depthAll ps) = max (ddep d) (ddepL ds)
      rw [h3, g3]
end
theorem toP_lst {xs : List D} {p : PyData} (h : toP (.lst xs) = some p) : ∃ ps, toPL xs = some ps ∧ p = .list ps := by
  have h : (toPL xs).map PyData.list = some p := h
  cases e : toPL xs with
  | none => rw [e] at h; cases h
  | some ps => rw [e] at h; exact ⟨ps, rfl, (Option.some.inj h).symm⟩
theorem toP_tup {xs : List D} {p : PyData} (h : toP (.tup xs) = some p) : ∃ ps, toPL xs = some ps ∧ p = .tuple ps := by
  have h : (toPL xs).map PyData.tuple = some p := h
  cases e : toPL xs with
  | none => rw [e] at h; cases h
  | some ps => rw [e] at h; exact ⟨ps, rfl, (Option.some.inj h).symm⟩
theorem toPL_cons {d : D} {ds : List D} {ps : List PyData} (h : toPL (d :: ds) = some ps) : ∃ p qs, toP d = some p ∧ toPL ds = some qs ∧ ps = p :: qs := by
  have h : (match toP d, toPL ds with | some p, some ps => some (p :: ps) | _, _ => none) = some ps := h
  cases e : toP d with
  | none => rw [e] at h; cases h
  | some p =>
    cases e2 : toPL ds with
    | none => rw [e, e2] at h; cases h
    | some qs => rw [e, e2] at h; exact ⟨p, qs, rfl, rfl, (Option.some.inj h).symm⟩
mutual
theorem toP_eqv : ∀ {d e : D} {p q : PyData}, toP d = some p → toP e = some q → PyData.eqv p q = deqv d e
  | .lst xs, e, p, q, h, g => by
    obtain ⟨ps, hp, rfl⟩ := toP_lst h
    cases e with
    | lst ys => obtain ⟨qs, hq, rfl⟩ := toP_lst g; exact toPL_eqv hp hq
    | tup ys => obtain ⟨qs, hq, rfl⟩ := toP_tup g; rfl
    | _ => first | (cases g; rfl) | cases g
  | .tup xs, e, p, q, h, g => by
    obtain ⟨ps, hp, rfl⟩ := toP_tup h
    cases e with
    | lst ys => obtain ⟨qs, hq, rfl⟩ := toP_lst g; rfl
    | tup ys => obtain ⟨qs, hq, rfl⟩ := toP_tup g; exact toPL_eqv hp hq
    | _ => first | (cases g; rfl) | cases g
  | .non, e, p, q, h, g => by
    cases h
    cases e with
    | lst ys => obtain ⟨qs, hq, rfl⟩ := toP_lst g; rfl
    | tup ys => obtain ⟨qs, hq, rfl⟩ := toP_tup g; rfl
    | _ => first | (cases g; rfl) | cases g
  | .bl _, e, p, q, h, g => by
    cases h
    cases e with
    | lst ys => obtain ⟨qs, hq, rfl⟩ := toP_lst g; rfl
    | tup ys => obtain ⟨qs, hq, rfl⟩ := toP_tup g; rfl
    | _ => first | (cases g; rfl) | cases g
  | .int _, e, p, q, h, g => by
    cases h
    cases e with
    | lst ys => obtain ⟨qs, hq, rfl⟩ := toP_lst g; rfl
    | tup ys => obtain ⟨qs, hq, rfl⟩ := toP_tup g; rfl
    | _ => first | (cases g; rfl) | cases g
  | .str _, e, p, q, h, g => by
    cases h
    cases e with
    | lst ys => obtain ⟨qs, hq, rfl⟩ := toP_lst g; rfl
    | tup ys => obtain ⟨qs, hq, rfl⟩ := toP_tup g; rfl
    | _ => first | (cases g; rfl) | cases g
  | .byt _, _, _, _, h, _ => nomatch h
  | .kt _, _, _, _, h, _ => nomatch h
  | .kl _, _, _, _, h, _ => nomatch h
  | .ins _ _, _, _, _, h, _ => nomatch h
  | .val _, _, _, _, h, _ => nomatch h
  | .ob _, _, _, _, h, _ => nomatch h
  | .exc _ _ _ _, _, _, _, h, _ => nomatch h
theorem toPL_eqv : ∀ {ds es : List D} {ps qs : List PyData}, toPL ds = some ps → toPL es = some qs → PyData.eqvAll ps qs = deqvL ds es
  | [], [], _, _, h, g => by cases h; cases g; rfl
  | [], e :: es, _, _, h, g => by
    cases h
    obtain ⟨q, qs, g1, g2, rfl⟩ := toPL_cons g
    rfl
  | d :: ds, [], _, _, h, g => by
    cases g
    obtain ⟨q, qs, g1, g2, rfl⟩ := toPL_cons h
    rfl
  | d :: ds, e :: es, _, _, h, g => by
    obtain ⟨p, ps, h1, h2, rfl⟩ := toPL_cons h
    obtain ⟨q, qs, g1, g2, rfl⟩ := toPL_cons g
    show (PyData.eqv p q && PyData.eqvAll ps qs) = (deqv d e && deqvL ds es)
    rw [toP_eqv h1 g1, toPL_eqv h2 g2]
end
mutual
theorem Rep.dp (s : Same F H) : ∀ {v : V} {d : D} {p : PyData}, Rep K as F v d → toP d = some p → Dp K H v p
  | _, _, _, .non, h => by cases h; exact .non
  | _, _, _, .bl b, h => by cases h; exact .bl b
  | _, _, _, .int b, h => by cases h; exact .int b
  | _, _, _, .str b, h => by cases h; exact .str b
  | _, _, _, .lst e r, h => by obtain ⟨ps, hp, rfl⟩ := toP_lst h; exact .lst (SqL.of (s _ _ e)) (RepL.dp s r hp)
  | _, _, _, .tup e r, h => by obtain ⟨ps, hp, rfl⟩ := toP_tup h; exact .tup (SqT.of (s _ _ e)) (RepL.dp s r hp)
  | _, _, _, .byt _, h => nomatch h
  | _, _, _, .kl _ _, h => nomatch h
  | _, _, _, .kt _ _, h => nomatch h
  | _, _, _, .ins _ _, h => nomatch h
  | _, _, _, .val _, h => nomatch h
  | _, _, _, .ob _, h => nomatch h
  | _, _, _, .exc0, h => nomatch h
  | _, _, _, .exc _ _, h => nomatch h
theorem RepL.dp (s : Same F H) : ∀ {vs : List V} {ds : List D} {ps : List PyData}, RepL K as F vs ds → toPL ds = some ps → DpAll K H vs ps
  | _, _, _, .nil, h => by cases h; exact .nil
  | _, _, _, .cons r rs, h => by
    obtain ⟨p, ps, h1, h2, rfl⟩ := toPL_cons h
    exact .cons (Rep.dp s r h1) (RepL.dp s rs h2)
end
theorem view_cases (μ : Mem) (d : D) : (∃ ds, view μ d = .lst ds) ∨ (∃ ds, view μ d = .tup ds) ∨ (∃ C fs, view μ d = .ins C fs) ∨ view μ d = d := by
  cases d with
  | ob k =>
    show (∃ ds, (match μ[k]? with | some (M.lst ds) => D.lst ds | some (.ins C fs) => .ins C fs | _ => .ob k) = _) ∨ (∃ ds, (match μ[k]? with | some (M.lst ds) => D.lst ds | some (.ins C fs) => .ins C fs | _ => .ob k) = _) ∨ (∃ C fs, (match μ[k]? with | some (M.lst ds) => D.lst ds | some (.ins C fs) => .ins C fs | _ => .ob k) = _) ∨ (match μ[k]? with | some (M.lst ds) => D.lst ds | some (.ins C fs) => .ins C fs | _ => .ob k) = _
    cases μ[k]? with
    | none => exact .inr (.inr (.inr rfl))
    | some m => cases m with
      | lst ds => exact .inl ⟨ds, rfl⟩
      | ins C fs => exact .inr (.inr (.inl ⟨C, fs, rfl⟩))
      | dic kv => exact .inr (.inr (.inr rfl))
  | kt ds => exact .inr (.inl ⟨ds, rfl⟩)
  | kl ds => exact .inl ⟨ds, rfl⟩
  | _ => exact .inr (.inr (.inr rfl))
/-- what is read as data: its own or the memory's list -/
theorem view_dp {μ : Mem} (M : Mm K Z as F H μ) {v : V} {d : D} {p : PyData} (r : Rep K as F v d) (h : toP (view μ d) = some p) : Dp K H v p := by
  rcases view_cases μ d with ⟨ds, z⟩ | ⟨ds, z⟩ | ⟨C, fs, z⟩ | z
  · rw [z] at h
    obtain ⟨ps, hp, rfl⟩ := toP_lst h
    obtain ⟨a, vs, rfl, e, x⟩ := view_lst M r z
    exact .lst e (RepL.dp M.same x hp)
  · rw [z] at h
    obtain ⟨ps, hp, rfl⟩ := toP_tup h
    obtain ⟨a, vs, rfl, e, x⟩ := view_tup M r z
    exact .tup e (RepL.dp M.same x hp)
  · rw [z] at h; cases h
  · rw [z] at h; exact Rep.dp M.same r h
/-- flat -/
def dflat : D → Bool
  | .non => true
  | .bl _ => true
  | .int _ => true
  | .str _ => true
  | _ => false
theorem flat_rep {v : V} {d : D} (r : Rep K as F v d) (h : dflat d = true) : flatV v = true := by
  cases r <;> first | rfl | cases h
theorem flat_eqV {v w' : V} {d e : D} (r : Rep K as F v d) (s : Rep K as F w' e) (h : dflat d = true) (g : dflat e = true) : eqV v w' = deqv d e := by
  cases r <;> first | (cases h; done) | (cases s <;> first | rfl | (cases g; done))
theorem flat_lay {d : D} (h : dflat d = true) : view [] d = d := by cases d <;> first | rfl | cases h
theorem view_flat {μ : Mem} {d : D} (h : dflat (view μ d) = true) : view μ d = d := by
  cases d with
  | ob k =>
    exfalso
    have h : dflat (match μ[k]? with | some (M.lst ds) => D.lst ds | some (.ins C fs) => .ins C fs | _ => .ob k) = true := h
    split at h <;> cases h
  | kt ds => cases h
  | kl ds => cases h
  | _ => rfl
def dEqOk (x y : D) : Bool := (dflat x && dflat y) || (dok x && dok y)
def dEq : DR2 := fun x y μ Q => dEqOk (view μ x) (view μ y) = true ∧ Q (.bl (deqv (view μ x) (view μ y))) μ
def dNe : DR2 := fun x y μ Q => dEqOk (view μ x) (view μ y) = true ∧ Q (.bl (!deqv (view μ x) (view μ y))) μ
theorem dok_shaped {d : D} (h : dok d = true) : ∃ p, toP d = some p ∧ SeqAt.shaped p = true := by
  unfold dok at h
  rw [Bool.and_eq_true, decide_eq_true_iff] at h
  obtain ⟨p, h1, h2, h3⟩ := lay_toP h.1
  refine ⟨p, h1, ?_⟩
  unfold SeqAt.shaped
  rw [h2, h3, Bool.true_and, decide_eq_true_iff]
  omega
theorem flat_cases {x y : V} {d e : D} (rx : Rep K as F x d) (ry : Rep K as F y e) (h1 : dflat d = true) (h2 : dflat e = true) :
    (scal x y = true ∧ decide (x = y) = deqv d e) ∨ (dok d = true ∧ dok e = true) := by
  cases rx <;> first | (cases h1; done) | skip
  all_goals (cases ry <;> first | (cases h2; done) | skip)
  all_goals first
    | exact .inl ⟨rfl, rfl⟩
    | exact .inr ⟨rfl, rfl⟩
    | exact .inl ⟨rfl, dec_int⟩
    | exact .inl ⟨rfl, dec_bl⟩
    | exact .inl ⟨rfl, dec_str⟩
theorem sim_eq : SimR K (rOr rEq (rEqD K)) dEq := fun Z as F H μ x y d e Q Q' M rx ry z k => by
  obtain ⟨ok, q⟩ := z
  have data : dok (view μ d) = true → dok (view μ e) = true → rEqD K x y H Q' := fun h1 h2 => by
    obtain ⟨p, p1, p2⟩ := dok_shaped h1
    obtain ⟨r, r1, r2⟩ := dok_shaped h2
    exact ⟨p, r, view_dp M rx p1, view_dp M ry r1, p2, r2, k _ _ μ as F H Gr.refl M (.bl _) (by rw [toP_eqv p1 r1]; exact q)⟩
  unfold dEqOk at ok
  rw [Bool.or_eq_true, Bool.and_eq_true, Bool.and_eq_true] at ok
  rcases ok with ⟨h1, h2⟩ | ⟨h1, h2⟩
  · have e1 := view_flat h1
    have e2 := view_flat h2
    rw [e1, e2] at q
    rw [e1] at h1 data
    rw [e2] at h2 data
    rcases flat_cases rx ry h1 h2 with ⟨s1, s2⟩ | ⟨s1, s2⟩
    · exact .inl ⟨s1, k _ _ μ as F H Gr.refl M (.bl _) (by rw [s2]; exact q)⟩
    · exact .inr (data s1 s2)
  · exact .inr (data h1 h2)
theorem sim_ne : SimR K (rOr rNe (rNeD K)) dNe := fun Z as F H μ x y d e Q Q' M rx ry z k => by
  obtain ⟨ok, q⟩ := z
  have data : dok (view μ d) = true → dok (view μ e) = true → rNeD K x y H Q' := fun h1 h2 => by
    obtain ⟨p, p1, p2⟩ := dok_shaped h1
    obtain ⟨r, r1, r2⟩ := dok_shaped h2
    exact ⟨p, r, view_dp M rx p1, view_dp M ry r1, p2, r2, k _ _ μ as F H Gr.refl M (.bl _) (by rw [toP_eqv p1 r1]; exact q)⟩
  unfold dEqOk at ok
  rw [Bool.or_eq_true, Bool.and_eq_true, Bool.and_eq_true] at ok
  rcases ok with ⟨h1, h2⟩ | ⟨h1, h2⟩
  · have e1 := view_flat h1
    have e2 := view_flat h2
    rw [e1, e2] at q
    rw [e1] at h1 data
    rw [e2] at h2 data
    rcases flat_cases rx ry h1 h2 with ⟨s1, s2⟩ | ⟨s1, s2⟩
    · exact .inl ⟨s1, k _ _ μ as F H Gr.refl M (.bl _) (by rw [s2]; exact q)⟩
    · exact .inr (data s1 s2)
  · exact .inr (data h1 h2)
theorem op_eqA {X : Cx} (hu : X.A.units + 64 < cLine) (hK : X.K = K) : OpR X (compareOp .Eq) (rOr rEq (rEqD K)) := hK ▸ opr_or op_eq (op_eqD hu)
theorem op_neA {X : Cx} (hu : X.A.units + 64 < cLine) (hK : X.K = K) : OpR X (compareOp .NotEq) (rOr rNe (rNeD K)) := hK ▸ opr_or op_ne (op_neD hu)
end
end DX
set_option Elab.async false
set_option linter.all false
set_option maxRecDepth 100000
set_option maxHeartbeats 4000000
namespace DX
open PySem PySem.Spec PyProof.Rows L2
section
variable {K : PySem.W.Frag} {Z : Hp} {as as' as1 : List Addr} {F F' F1 H H' H1 : Hp} {Ex : L2.St → XK}
/-! ### arithmetic -/
theorem rI_int (f : Int → Int → Int) : ∀ i j as F, Rep K as F (V.int (f i j)) (D.int (f i j)) := fun _ _ _ _ => .int _
theorem rI_bl (f : Int → Int → Bool) : ∀ i j as F, Rep K as F (V.bl (f i j)) (D.bl (f i j)) := fun _ _ _ _ => .bl _
theorem sim_sub : SimR K (rI0 fun i j => .int (i - j)) (dI fun i j => .int (i - j)) := simR_int (rI_int _)
theorem sim_mul : SimR K (rI CMul fun i j => .int (i * j)) (dIC CMul fun i j => .int (i * j)) := simR_intC (rI_int _)
theorem sim_fdiv : SimR K (rI CDiv fun i j => .int (i / j)) (dIC CDiv fun i j => .int (i / j)) := simR_intC (rI_int _)
theorem sim_fdivW : SimR K (rI CDivW fun i j => .int (i / j)) (dIC CDivW fun i j => .int (i / j)) := simR_intC (rI_int _)
theorem sim_mulW : SimR K (rI CMulW fun i j => .int (i * j)) (dIC CMulW fun i j => .int (i * j)) := simR_intC (rI_int _)
theorem sim_mod : SimR K (rI (fun _ j => 0 < j) fun i j => .int (i % j)) (dIC (fun _ j => 0 < j) fun i j => .int (i % j)) := simR_intC (rI_int _)
theorem sim_pow : SimR K (rI CPow fun i j => .int (i ^ j.toNat)) (dIC CPow fun i j => .int (i ^ j.toNat)) := simR_intC (rI_int _)
theorem sim_shl : SimR K (rI CPow fun i j => .int (i * 2 ^ j.toNat)) (dIC CPow fun i j => .int (i * 2 ^ j.toNat)) := simR_intC (rI_int _)
theorem sim_shr : SimR K (rI (fun _ j => 0 ≤ j) fun i j => .int (i / 2 ^ j.toNat)) (dIC (fun _ j => 0 ≤ j) fun i j => .int (i / 2 ^ j.toNat)) := simR_intC (rI_int _)
theorem sim_band : SimR K (rI0 fun i j => .int (Builtin.bitAnd i j)) (dI fun i j => .int (Builtin.bitAnd i j)) := simR_int (rI_int _)
theorem sim_bor : SimR K (rI0 fun i j => .int (Builtin.bitOr i j)) (dI fun i j => .int (Builtin.bitOr i j)) := simR_int (rI_int _)
theorem sim_lt : SimR K (rI0 fun i j => .bl (decide (i < j))) (dI fun i j => .bl (decide (i < j))) := simR_int (rI_bl _)
theorem sim_le : SimR K (rI0 fun i j => .bl (decide (i ≤ j))) (dI fun i j => .bl (decide (i ≤ j))) := simR_int (rI_bl _)
theorem sim_gt : SimR K (rI0 fun i j => .bl (decide (j < i))) (dI fun i j => .bl (decide (j < i))) := simR_int (rI_bl _)
theorem sim_ge : SimR K (rI0 fun i j => .bl (decide (j ≤ i))) (dI fun i j => .bl (decide (j ≤ i))) := simR_int (rI_bl _)
/-! ### + -/
def rAddStr : R2 := fun x y H Q => ∃ i j, x = .str i ∧ y = .str j ∧ i.length + j.length ≤ sizeLine ∧ Q (.str (i ++ j)) H
def dAdd : DR2 := fun x y μ Q => match viewT μ x, viewT μ y with
  | .int i, .int j => Q (.int (i + j)) μ
  | .str i, .str j => i.length + j.length ≤ sizeLine ∧ Q (.str (i ++ j)) μ
  | .lst xs, .lst ys => xs.length + ys.length ≤ sizeLine ∧ Q (.lst (xs ++ ys)) μ
  | .tup xs, .tup ys => xs.length + ys.length ≤ sizeLine ∧ Q (.tup (xs ++ ys)) μ
  | _, _ => False
theorem viewT_cases (μ : Mem) (d : D) : (∃ ds, viewT μ d = .lst ds) ∨ (∃ C fs, viewT μ d = .ins C fs) ∨ viewT μ d = d := by
  cases d with
  | ob k =>
    show (∃ ds, (match μ[k]? with | some (M.lst ds) => D.lst ds | some (.ins C fs) => .ins C fs | _ => .ob k) = _) ∨ (∃ C fs, (match μ[k]? with | some (M.lst ds) => D.lst ds | some (.ins C fs) => .ins C fs | _ => .ob k) = _) ∨ (match μ[k]? with | some (M.lst ds) => D.lst ds | some (.ins C fs) => .ins C fs | _ => .ob k) = _
    cases μ[k]? with
    | none => exact .inr (.inr rfl)
    | some m => cases m with
      | lst ds => exact .inl ⟨ds, rfl⟩
      | ins C fs => exact .inr (.inl ⟨C, fs, rfl⟩)
      | dic kv => exact .inr (.inr rfl)
  | _ => exact .inr (.inr rfl)
theorem viewT_int {μ : Mem} {d : D} {i : Int} (h : viewT μ d = .int i) : d = .int i := by
  rcases viewT_cases μ d with ⟨ds, z⟩ | ⟨C, fs, z⟩ | z <;> rw [z] at h
  · cases h
  · cases h
  · exact h
theorem viewT_str {μ : Mem} {d : D} {i : Str} (h : viewT μ d = .str i) : d = .str i := by
  rcases viewT_cases μ d with ⟨ds, z⟩ | ⟨C, fs, z⟩ | z <;> rw [z] at h
  · cases h
  · cases h
  · exact h
theorem viewT_tup {μ : Mem} {d : D} {i : List D} (h : viewT μ d = .tup i) : d = .tup i := by
  rcases viewT_cases μ d with ⟨ds, z⟩ | ⟨C, fs, z⟩ | z <;> rw [z] at h
  · cases h
  · cases h
  · exact h
def rAddAll (K : PySem.W.Frag) : R2 := rOr (rI0 fun i j => .int (i + j)) (rOr rAddStr (rOr rCat (rCatA K)))
theorem op_addA {X : Cx} (hK : X.K = K) : OpR X (binaryOp .Add) (rAddAll K) := hK ▸ opr_or op_add (opr_or op_add_str (opr_or op_cat op_catA))
theorem sim_add : SimR K (rAddAll K) dAdd := fun Z as F H μ x y d e Q Q' M rx ry z k => by
  unfold dAdd at z
  split at z
  · rename_i i j h1 h2
    cases viewT_int h1; cases viewT_int h2
    cases rx; cases ry
    exact .inl ⟨_, _, rfl, rfl, k _ _ μ as F H Gr.refl M (.int _) z⟩
  · rename_i i j h1 h2
    cases viewT_str h1; cases viewT_str h2
    cases rx; cases ry
    exact .inr (.inl ⟨_, _, rfl, rfl, z.1, k _ _ μ as F H Gr.refl M (.str _) z.2⟩)
  · rename_i xs ys h1 h2
    obtain ⟨a, vs, rfl, e1, r1⟩ := viewT_lst M rx h1
    obtain ⟨b, us, rfl, e2, r2⟩ := viewT_lst M ry h2
    refine .inr (.inr (.inl ⟨a, b, vs, us, rfl, rfl, e1, e2, by rw [r1.len, r2.len]; exact z.1, fun p np => ?_⟩))
    have g := Gr.upd (as := as) (o := .lst (vs ++ us)) (M.newF np)
    exact k _ _ μ as _ _ g (M.addF np) (.lst upd_same ((r1.append r2).up g)) z.2
  · rename_i xs ys h1 h2
    cases viewT_tup h1; cases viewT_tup h2
    cases rx with
    | tup e1 r1 =>
      cases ry with
      | tup e2 r2 =>
        rename_i a vs b us
        have same : ∀ {c : Addr} {ws : List V} {ds : List D}, F c = some (.tup ws) → RepL K as F ws ds → ds = xs ++ ys → Q' (.ref c) H := fun e r q => k _ _ μ as F H Gr.refl M (.tup e r) (by rw [q]; exact z.2)
        refine .inr (.inr (.inr ⟨a, b, vs, us, rfl, rfl, SqT.of (M.same _ _ e1), SqT.of (M.same _ _ e2), by rw [r1.len, r2.len]; exact z.1, fun z0 => ?_, fun _ z0 => ?_, fun _ _ p np => ?_⟩))
        · subst z0
          cases r1
          exact same e2 r2 rfl
        · subst z0
          cases r2
          exact same e1 r1 (List.append_nil _).symm
        · have g := Gr.upd (as := as) (o := .tup (vs ++ us)) (M.newF np)
          exact k _ _ μ as _ _ g (M.addF np) (.tup upd_same ((r1.append r2).up g)) z.2
  · exact z.elim
/-! ### unary -/
def uUn (f : Int → D) (ua : DTE) : DTE := fun ρ μ Q E => ua ρ μ (fun x μ1 => match x with
  | .int i => Q (f i) μ1
  | _ => False) E
theorem sim_un {f : Int → Int} {t : TE} {u : DTE} (a : Sim K Ex t u) : Sim K Ex (tUn (rU fun i => .int (f i)) t) (uUn (fun i => .int (f i)) u) := fun Z as F H σ ρ μ Q E Q' R X h k =>
  a Z as F H σ ρ μ _ E _ R X h fun v d μ1 as1 F1 H1 g1 R1 r1 h1 => by
    cases r1 <;> try exact h1.elim
    exact ⟨_, rfl, k _ _ _ _ _ _ g1 R1 (.int _) h1⟩
/-! ### is None -/
def isNon : D → Bool
  | .non => true
  | .val v => decide (v = .non)
  | _ => false
theorem isNon_eq {v : V} {d : D} (r : Rep K as F v d) : decide (v = .non) = isNon d := by cases r <;> rfl
def uIsN (neg : Bool) (ua : DTE) : DTE := fun ρ μ Q E => ua ρ μ (fun x μ1 => Q (.bl (if neg then !isNon x else isNon x)) μ1) E
theorem sim_isN {t : TE} {u : DTE} (a : Sim K Ex t u) : Sim K Ex (tOp (fun x y H Q => y = .non ∧ Q (.bl (decide (x = .non))) H) t (tC .non)) (uIsN false u) := fun Z as F H σ ρ μ Q E Q' R X h k =>
  a Z as F H σ ρ μ _ E _ R X h fun v d μ1 as1 F1 H1 g1 R1 r1 h1 => ⟨rfl, by rw [isNon_eq r1]; exact k _ _ _ _ _ _ g1 R1 (.bl _) h1⟩
theorem sim_notN {t : TE} {u : DTE} (a : Sim K Ex t u) : Sim K Ex (tOp (fun x y H Q => y = .non ∧ Q (.bl (!decide (x = .non))) H) t (tC .non)) (uIsN true u) := fun Z as F H σ ρ μ Q E Q' R X h k =>
  a Z as F H σ ρ μ _ E _ R X h fun v d μ1 as1 F1 H1 g1 R1 r1 h1 => ⟨rfl, by rw [isNon_eq r1]; exact k _ _ _ _ _ _ g1 R1 (.bl _) h1⟩
/-! ### truth -/
def dTru (μ : Mem) (d : D) (k : Bool → Prop) : Prop := match view μ d with
  | .non => k false
  | .bl b => k b
  | .int i => k (i != 0)
  | .str x => x.length ≤ sizeLine ∧ k ((x.length : Int) != 0)
  | .lst xs => k (!xs.isEmpty)
  | .tup xs => k (!xs.isEmpty)
  | _ => False
theorem isEmpty_rep {vs : List V} {ds : List D} (r : RepL K as F vs ds) : vs.isEmpty = ds.isEmpty := by cases r <;> rfl
theorem view_non {μ : Mem} {d : D} {e : D} (h : view μ d = e) (h1 : ∀ ds, e ≠ .lst ds) (h2 : ∀ ds, e ≠ .tup ds) (h3 : ∀ C fs, e ≠ .ins C fs) : d = e := by
  rcases view_cases μ d with ⟨ds, z⟩ | ⟨ds, z⟩ | ⟨C, fs, z⟩ | z <;> rw [z] at h
  · exact absurd h.symm (h1 _)
  · exact absurd h.symm (h2 _)
  · exact absurd h.symm (h3 _ _)
  · exact h
theorem tru_of {μ : Mem} (M : Mm K Z as F H μ) {v : V} {d : D} (r : Rep K as F v d) {k : Bool → Prop} (h : dTru μ d k) : ∃ b, TruV K v H b ∧ k b := by
  unfold dTru at h
  split at h
  · rename_i e; cases view_non e (by intro _ z; cases z) (by intro _ z; cases z) (by intro _ _ z; cases z); cases r; exact ⟨_, rfl, h⟩
  · rename_i e; cases view_non e (by intro _ z; cases z) (by intro _ z; cases z) (by intro _ _ z; cases z); cases r; exact ⟨_, rfl, h⟩
  · rename_i e; cases view_non e (by intro _ z; cases z) (by intro _ z; cases z) (by intro _ _ z; cases z); cases r; exact ⟨_, rfl, h⟩
  · rename_i e; cases view_non e (by intro _ z; cases z) (by intro _ z; cases z) (by intro _ _ z; cases z); cases r; exact ⟨_, ⟨h.1, rfl⟩, h.2⟩
  · rename_i e
    obtain ⟨a, vs, rfl, q, x⟩ := view_lst M r e
    exact ⟨_, .inl ⟨vs, q, rfl⟩, by rw [isEmpty_rep x]; exact h⟩
  · rename_i e
    obtain ⟨a, vs, rfl, q, x⟩ := view_tup M r e
    exact ⟨_, .inr (.inl ⟨vs, q, rfl⟩), by rw [isEmpty_rep x]; exact h⟩
  · exact h.elim
def uTru (u : DTE) : DTT := fun ρ μ Q E => u ρ μ (fun d μ' => dTru μ' d fun b => Q b μ') E
theorem sim_tru {t : TE} {u : DTE} (a : Sim K Ex t u) : SimT K Ex (fun σ H Q => t σ H fun x H' => ∃ k, TruV K x H' k ∧ Q k H') (uTru u) := fun Z as F H σ ρ μ Q E Q' R X h k =>
  a Z as F H σ ρ μ _ E _ R X h fun v d μ1 as1 F1 H1 g1 R1 r1 h1 => by
    obtain ⟨b, h2, h3⟩ := tru_of R1.mm r1 h1
    exact ⟨b, h2, k b μ1 as1 F1 H1 g1 R1 h3⟩
def uTest (u : DTE) : DTT := fun ρ μ Q E => u ρ μ (fun d μ' => match d with
  | .bl b => Q b μ'
  | _ => False) E
theorem sim_test {t : TE} {u : DTE} (a : Sim K Ex t u) : SimT K Ex (tTest t) (uTest u) := fun Z as F H σ ρ μ Q E Q' R X h k =>
  a Z as F H σ ρ μ _ E _ R X h fun v d μ1 as1 F1 H1 g1 R1 r1 h1 => by
    cases r1 <;> try exact h1.elim
    exact ⟨_, rfl, k _ μ1 as1 F1 H1 g1 R1 h1⟩
/-! ### and, or, not -/
def uAndB (a b : DTT) : DTT := fun ρ μ Q E => a ρ μ (fun c μ1 => if c = true then b ρ μ1 Q E else Q false μ1) E
def uOrB (a b : DTT) : DTT := fun ρ μ Q E => a ρ μ (fun c μ1 => if c = true then Q true μ1 else b ρ μ1 Q E) E
def uNotB (a : DTT) : DTT := fun ρ μ Q E => a ρ μ (fun c μ1 => Q (!c) μ1) E
theorem sim_andB {t s : TT} {u w : DTT} (a : SimT K Ex t u) (b : SimT K Ex s w) : SimT K Ex (tAnd t s) (uAndB u w) := fun Z as F H σ ρ μ Q E Q' R X h k =>
  a Z as F H σ ρ μ _ E _ R X h fun c μ1 as1 F1 H1 g1 R1 h1 => by
    cases c with
    | true => rw [if_pos rfl] at h1 ⊢; exact b Z as1 F1 H1 σ ρ μ1 Q E Q' R1 (X.up g1) h1 fun c μ2 as2 F2 H2 g2 => k c μ2 as2 F2 H2 (g1.trans g2)
    | false => rw [if_neg Bool.false_ne_true] at h1 ⊢; exact k false μ1 as1 F1 H1 g1 R1 h1
theorem sim_orB {t s : TT} {u w : DTT} (a : SimT K Ex t u) (b : SimT K Ex s w) : SimT K Ex (tOr t s) (uOrB u w) := fun Z as F H σ ρ μ Q E Q' R X h k =>
  a Z as F H σ ρ μ _ E _ R X h fun c μ1 as1 F1 H1 g1 R1 h1 => by
    cases c with
    | false => rw [if_neg Bool.false_ne_true] at h1 ⊢; exact b Z as1 F1 H1 σ ρ μ1 Q E Q' R1 (X.up g1) h1 fun c μ2 as2 F2 H2 g2 => k c μ2 as2 F2 H2 (g1.trans g2)
    | true => rw [if_pos rfl] at h1 ⊢; exact k true μ1 as1 F1 H1 g1 R1 h1
theorem sim_notB {t : TT} {u : DTT} (a : SimT K Ex t u) : SimT K Ex (tNot t) (uNotB u) := fun Z as F H σ ρ μ Q E Q' R X h k =>
  a Z as F H σ ρ μ _ E _ R X h fun c μ1 as1 F1 H1 g1 R1 h1 => k _ μ1 as1 F1 H1 g1 R1 h1
def uAnd (a b : DTE) : DTE := fun ρ μ Q E => a ρ μ (fun x μ1 => dTru μ1 x fun c => if c = true then b ρ μ1 Q E else Q x μ1) E
def uOr (a b : DTE) : DTE := fun ρ μ Q E => a ρ μ (fun x μ1 => dTru μ1 x fun c => if c = true then Q x μ1 else b ρ μ1 Q E) E
def uNot (a : DTE) : DTE := fun ρ μ Q E => a ρ μ (fun x μ1 => dTru μ1 x fun c => Q (.bl (!c)) μ1) E
theorem sim_and {t s : TE} {u w : DTE} (a : Sim K Ex t u) (b : Sim K Ex s w) : Sim K Ex (tAndT K t s) (uAnd u w) := fun Z as F H σ ρ μ Q E Q' R X h k =>
  a Z as F H σ ρ μ _ E _ R X h fun v d μ1 as1 F1 H1 g1 R1 r1 h1 => by
    obtain ⟨c, h2, h3⟩ := tru_of R1.mm r1 h1
    refine ⟨c, h2, ?_⟩
    cases c with
    | true => rw [if_pos rfl] at h3 ⊢; exact b Z as1 F1 H1 σ ρ μ1 Q E Q' R1 (X.up g1) h3 fun c d' μ2 as2 F2 H2 g2 => k c d' μ2 as2 F2 H2 (g1.trans g2)
    | false => rw [if_neg Bool.false_ne_true] at h3 ⊢; exact k v d μ1 as1 F1 H1 g1 R1 r1 h3
theorem sim_or {t s : TE} {u w : DTE} (a : Sim K Ex t u) (b : Sim K Ex s w) : Sim K Ex (tOrT K t s) (uOr u w) := fun Z as F H σ ρ μ Q E Q' R X h k =>
  a Z as F H σ ρ μ _ E _ R X h fun v d μ1 as1 F1 H1 g1 R1 r1 h1 => by
    obtain ⟨c, h2, h3⟩ := tru_of R1.mm r1 h1
    refine ⟨c, h2, ?_⟩
    cases c with
    | false => rw [if_neg Bool.false_ne_true] at h3 ⊢; exact b Z as1 F1 H1 σ ρ μ1 Q E Q' R1 (X.up g1) h3 fun c d' μ2 as2 F2 H2 g2 => k c d' μ2 as2 F2 H2 (g1.trans g2)
    | true => rw [if_pos rfl] at h3 ⊢; exact k v d μ1 as1 F1 H1 g1 R1 r1 h3
theorem sim_not {t : TE} {u : DTE} (a : Sim K Ex t u) : Sim K Ex (tNotT K t) (uNot u) := fun Z as F H σ ρ μ Q E Q' R X h k =>
  a Z as F H σ ρ μ _ E _ R X h fun v d μ1 as1 F1 H1 g1 R1 r1 h1 => by
    obtain ⟨c, h2, h3⟩ := tru_of R1.mm r1 h1
    exact ⟨c, h2, k _ _ μ1 as1 F1 H1 g1 R1 (.bl _) h3⟩
def uIf (c : DTT) (a b : DTE) : DTE := fun ρ μ Q E => c ρ μ (fun c μ1 => if c = true then a ρ μ1 Q E else b ρ μ1 Q E) E
theorem sim_if {tc : TT} {uc : DTT} {t s : TE} {u w : DTE} (c : SimT K Ex tc uc) (a : Sim K Ex t u) (b : Sim K Ex s w) : Sim K Ex (tIf tc t s) (uIf uc u w) := fun Z as F H σ ρ μ Q E Q' R X h k =>
  c Z as F H σ ρ μ _ E _ R X h fun c μ1 as1 F1 H1 g1 R1 h1 => by
    cases c with
    | true => rw [if_pos rfl] at h1 ⊢; exact a Z as1 F1 H1 σ ρ μ1 Q E Q' R1 (X.up g1) h1 fun c d' μ2 as2 F2 H2 g2 => k c d' μ2 as2 F2 H2 (g1.trans g2)
    | false => rw [if_neg Bool.false_ne_true] at h1 ⊢; exact b Z as1 F1 H1 σ ρ μ1 Q E Q' R1 (X.up g1) h1 fun c d' μ2 as2 F2 H2 g2 => k c d' μ2 as2 F2 H2 (g1.trans g2)
/-- a chain of two comparisons -/
def uChain (dr dr' : DR2) (ua ub uc : DTE) : DTE := fun ρ μ Q E => ua ρ μ (fun x μ1 => ub ρ μ1 (fun y μ2 => dr x y μ2 fun z μ3 => match z with
  | .bl c => if c = true then uc ρ μ3 (fun w μ4 => dr' y w μ4 Q) E else Q (.bl false) μ3
  | _ => False) E) E
theorem sim_chain {r r' : R2} {dr dr' : DR2} {ta tb tc : TE} {ua ub uc : DTE} (s : SimR K r dr) (s' : SimR K r' dr') (a : Sim K Ex ta ua) (b : Sim K Ex tb ub) (c : Sim K Ex tc uc) : Sim K Ex (tChain r r' ta tb tc) (uChain dr dr' ua ub uc) := fun Z as F H σ ρ μ Q E Q' R X h k =>
  a Z as F H σ ρ μ _ E _ R X h fun v d μ1 as1 F1 H1 g1 R1 r1 h1 => b Z as1 F1 H1 σ ρ μ1 _ E _ R1 (X.up g1) h1 fun v2 d2 μ2 as2 F2 H2 g2 R2 r2 h2 =>
    s Z as2 F2 H2 μ2 v v2 d d2 _ _ R2.mm (r1.up g2) r2 h2 fun v3 d3 μ3 as3 F3 H3 g3 M3 r3 q => by
      cases r3 <;> try exact q.elim
      rename_i kb
      refine ⟨kb, rfl, ?_⟩
      have g123 := (g1.trans g2).trans g3
      have R3 := R2.up g3 M3
      cases kb with
      | true =>
        have q : (if true = true then uc ρ μ3 (fun w μ4 => dr' d2 w μ4 Q) E else Q (.bl false) μ3) := q
        rw [if_pos rfl] at q ⊢
        exact c Z as3 F3 H3 σ ρ μ3 _ E _ R3 (X.up g123) q fun v4 d4 μ4 as4 F4 H4 g4 R4 r4 q4 =>
          s' Z as4 F4 H4 μ4 v2 v4 d2 d4 Q Q' R4.mm ((r2.up g3).up g4) r4 q4 fun v5 d5 μ5 as5 F5 H5 g5 M5 r5 q5 => k v5 d5 μ5 as5 F5 H5 ((g123.trans g4).trans g5) (R4.up g5 M5) r5 q5
      | false =>
        have q : (if false = true then uc ρ μ3 (fun w μ4 => dr' d2 w μ4 Q) E else Q (.bl false) μ3) := q
        rw [if_neg Bool.false_ne_true] at q ⊢
        exact k _ _ μ3 as3 F3 H3 g123 R3 (.bl false) q
end
end DX
set_option Elab.async false
set_option linter.all false
set_option maxRecDepth 100000
set_option maxHeartbeats 4000000
namespace DX
open PySem PySem.Spec PyProof.Rows L2
section
variable {K : PySem.W.Frag} {Z : Hp} {as as' as1 : List Addr} {F F' F1 H H' H1 : Hp} {Ex : L2.St → XK}
/-! ### subscripts -/
theorem atI_rep {vs : List V} {ds : List D} {i : Int} {d : D} (r : RepL K as F vs ds) (h : atI ds i = some d) : ∃ v, atI vs i = some v ∧ Rep K as F v d := by
  unfold atI at h ⊢
  rw [r.len]
  cases e : ixN ds.length i with
  | none => rw [e] at h; cases h
  | some j => rw [e] at h; exact r.get h
def dIx : DR2 := fun x y μ Q => match view μ x, y with
  | .lst xs, .int i => match atI xs i with
    | some d => Q d μ
    | none => False
  | .tup xs, .int i => match atI xs i with
    | some d => Q d μ
    | none => False
  | .str z, .int i => match atI z.cps.toList i with
    | some c => z.length ≤ sizeLine ∧ Q (.str ⟨#[c]⟩) μ
    | none => False
  | _, _ => False
theorem ix_A {X : Cx} (hK : X.K = K) : IxR X (rIx K) := hK ▸ ix_seq
theorem view_str {μ : Mem} {d : D} {z : Str} (h : view μ d = .str z) : d = .str z := view_non h (by intro _ z; cases z) (by intro _ z; cases z) (by intro _ _ z; cases z)
theorem view_int {μ : Mem} {d : D} {z : Int} (h : view μ d = .int z) : d = .int z := view_non h (by intro _ z; cases z) (by intro _ z; cases z) (by intro _ _ z; cases z)
theorem sim_ix : SimR K (rIx K) dIx := fun Z as F H μ x y d e Q Q' M rx ry z k => by
  unfold dIx at z
  split at z
  · rename_i xs i h1
    cases ry
    obtain ⟨a, vs, rfl, q, r⟩ := view_lst M rx h1
    split at z
    · rename_i d' h2
      obtain ⟨v, h3, h4⟩ := atI_rep r h2
      exact .inl ⟨a, vs, _, v, rfl, rfl, q, h3, k v d' μ as F H Gr.refl M h4 z⟩
    · exact z.elim
  · rename_i xs i h1
    cases ry
    obtain ⟨a, vs, rfl, q, r⟩ := view_tup M rx h1
    split at z
    · rename_i d' h2
      obtain ⟨v, h3, h4⟩ := atI_rep r h2
      exact .inr (.inl ⟨a, vs, _, v, rfl, rfl, q, h3, k v d' μ as F H Gr.refl M h4 z⟩)
    · exact z.elim
  · rename_i w i h1
    cases ry
    cases view_str h1
    cases rx
    split at z
    · rename_i c h2
      exact .inr (.inr ⟨_, _, c, rfl, rfl, z.1, h2, k _ _ μ as F H Gr.refl M (.str _) z.2⟩)
    · exact z.elim
  · exact z.elim
/-! ### slices -/
def dcut (xs : List D) (lo hi : Option Int) : List D := (xs.drop (HT.sIx xs.length 0 lo)).take (HT.sIx xs.length xs.length hi - HT.sIx xs.length 0 lo)
theorem cut_rep {vs : List V} {ds : List D} (r : RepL K as F vs ds) (lo hi : Option Int) : RepL K as F (cutV vs lo hi) (dcut ds lo hi) := by
  unfold cutV dcut
  rw [r.len]
  exact (r.drop _).take _
abbrev DTO := Rho → Mem → (Option Int → Mem → Prop) → XD → Prop
def SimO (K : PySem.W.Frag) (Ex : L2.St → XK) (t : TO) (u : DTO) : Prop :=
  ∀ (Z : Hp) (as : List Addr) (F H : Hp) (σ : L2.St) (ρ : Rho) (μ : Mem) (Q : Option Int → Mem → Prop) (E : XD) (Q' : Option Int → Hp → Prop), Rp K Z as F H σ ρ μ → XL K Ex Z as F E → u ρ μ Q E →
    (∀ b μ' as' F' H', Gr as F as' F' → Rp K Z as' F' H' σ ρ μ' → Q b μ' → Q' b H') → t σ H Q'
def uNoPart : DTO := fun _ μ Q _ => Q none μ
def uPart (u : DTE) : DTO := fun ρ μ Q E => u ρ μ (fun d μ1 => match d with
  | .int i => Q (some i) μ1
  | _ => False) E
theorem sim_noPart : SimO K Ex tNoPart uNoPart := fun Z as F H σ ρ μ Q E Q' R X h k => k none μ as F H Gr.refl R h
theorem sim_part {t : TE} {u : DTE} (a : Sim K Ex t u) : SimO K Ex (tPart t) (uPart u) := fun Z as F H σ ρ μ Q E Q' R X h k =>
  a Z as F H σ ρ μ _ E _ R X h fun v d μ1 as1 F1 H1 g1 R1 r1 h1 => by
    cases r1 <;> try exact h1.elim
    exact ⟨_, rfl, k _ μ1 as1 F1 H1 g1 R1 h1⟩
/-- frozen (m = false) or a new list of the memory -/
def uSl (m : Bool) (ue : DTE) (ul uh : DTO) : DTE := fun ρ μ Q E => ue ρ μ (fun x μ1 => ul ρ μ1 (fun lo μ2 => uh ρ μ2 (fun hi μ3 => match view μ3 x with
  | .lst xs => if m = true then Q (.ob μ3.length) (μ3 ++ [.lst (dcut xs lo hi)]) else Q (.lst (dcut xs lo hi)) μ3
  | .tup xs => Q (.tup (dcut xs lo hi)) μ3 ∧ ∃ ys, x = .tup ys
  | .str z => z.length ≤ sizeLine ∧ Q (.str (cutS z lo hi)) μ3
  | _ => False) E) E) E
def rSlAll (K : PySem.W.Frag) : V → Option Int → Option Int → Hp → VK → Prop := fun x lo hi H Q => rSlL K x lo hi H Q ∨ (rSlA K x lo hi H Q ∨ rSlS x lo hi H Q)
theorem sl_A {X : Cx} (hK : X.K = K) : SlR X (rSlAll K) := hK ▸ sl_list.or (sl_tupA.or sl_str)
theorem cut_whole {xs : List D} {lo hi : Option Int} (h : HT.sIx xs.length 0 lo = 0 ∧ HT.sIx xs.length xs.length hi = xs.length) : dcut xs lo hi = xs := by
  unfold dcut
  rw [h.1, h.2]
  simp
theorem sim_sl (m : Bool) {te : TE} {tl th : TO} {ue : DTE} {ul uh : DTO} (a : Sim K Ex te ue) (b : SimO K Ex tl ul) (c : SimO K Ex th uh) : Sim K Ex (tSl (rSlAll K) te tl th) (uSl m ue ul uh) := fun Z as F H σ ρ μ Q E Q' R X h k =>
  a Z as F H σ ρ μ _ E _ R X h fun v d μ1 as1 F1 H1 g1 R1 r1 h1 => b Z as1 F1 H1 σ ρ μ1 _ E _ R1 (X.up g1) h1 fun lo μ2 as2 F2 H2 g2 R2 h2 =>
    c Z as2 F2 H2 σ ρ μ2 _ E _ R2 (X.up (g1.trans g2)) h2 fun hi μ3 as3 F3 H3 g3 R3 h3 => by
      have g := (g1.trans g2).trans g3
      have r3 := (r1.up g2).up g3
      have h3 : (match view μ3 d with
        | .lst xs => if m = true then Q (.ob μ3.length) (μ3 ++ [.lst (dcut xs lo hi)]) else Q (.lst (dcut xs lo hi)) μ3
        | .tup xs => Q (.tup (dcut xs lo hi)) μ3 ∧ ∃ ys, d = .tup ys
        | .str z => z.length ≤ sizeLine ∧ Q (.str (cutS z lo hi)) μ3
        | _ => False) := h3
      split at h3
      · rename_i xs e
        obtain ⟨p, vs, rfl, q, r⟩ := view_lst R3.mm r3 e
        refine .inl ⟨p, vs, rfl, q, fun n nn => ?_⟩
        cases m with
        | true =>
          rw [if_pos rfl] at h3
          exact k _ _ _ (as3 ++ [n]) F3 _ (g.trans Gr.add) (R3.up Gr.add (R3.mm.addM (m := .lst _) nn ⟨_, upd_same, (cut_rep r lo hi).up Gr.add⟩)) (rep_ob R3.mm.len) h3
        | false =>
          rw [if_neg Bool.false_ne_true] at h3
          have g4 := Gr.upd (as := as3) (o := .lst (cutV vs lo hi)) (R3.mm.newF nn)
          exact k _ _ μ3 as3 _ _ (g.trans g4) (R3.up g4 (R3.mm.addF nn)) (.lst upd_same ((cut_rep r lo hi).up g4)) h3
      · rename_i xs e
        obtain ⟨h4, ys, rfl⟩ := h3
        cases e
        cases r3 with
        | tup e1 r =>
          rename_i p vs
          refine .inr (.inl ⟨p, vs, rfl, SqT.of (R3.mm.same _ _ e1), fun w => ?_, fun _ n nn => ?_⟩)
          · rw [r.len] at w
            exact k _ _ μ3 as3 F3 H3 g R3 (.tup e1 r) (by rw [← cut_whole w]; exact h4)
          · have g4 := Gr.upd (as := as3) (o := .tup (cutV vs lo hi)) (R3.mm.newF nn)
            exact k _ _ μ3 as3 _ _ (g.trans g4) (R3.up g4 (R3.mm.addF nn)) (.tup upd_same ((cut_rep r lo hi).up g4)) h4
      · rename_i z e
        cases view_str e
        cases r3
        exact .inr (.inr ⟨_, rfl, h3.1, k _ _ μ3 as3 F3 H3 g R3 (.str _) h3.2⟩)
      · exact h3.elim
/-! ### in -/
def dInOk (x c : D) (ds : List D) : Bool := (dflat x && ds.all dflat) || (dok x && dok c)
def dIn (neg : Bool) : DR2 := fun x y μ Q => match view μ y with
  | .lst ds => dInOk (view μ x) (.lst ds) ds = true ∧ Q (.bl (if neg then !(ds.any fun e => deqv e (view μ x)) else ds.any fun e => deqv e (view μ x))) μ
  | .tup ds => dInOk (view μ x) (.tup ds) ds = true ∧ Q (.bl (if neg then !(ds.any fun e => deqv e (view μ x)) else ds.any fun e => deqv e (view μ x))) μ
  | _ => False
def rInD (K : PySem.W.Frag) (neg : Bool) : R2 := fun x y H Q => ∃ d ds, Dp K H x d ∧ (Dp K H y (.list ds) ∨ Dp K H y (.tuple ds)) ∧ d.canLay0 = true ∧ PyData.canLayAll0 ds = true ∧ d.depth ≤ 60 ∧ Q (.bl (if neg then !(ds.any fun e => PyData.eqv e d) else ds.any fun e => PyData.eqv e d)) H
theorem op_inD {X : Cx} (hu : X.A.units + 64 < cLine) : OpR X (compareOp .In) (rInD X.K false) := by
  intro pins s σ H x y v u Q I rx ry h
  obtain ⟨d, ds, hd, he, c1, c2, hz, q⟩ := h
  obtain ⟨as, r1⟩ := Dp.reads I d x v hd rx
  have hm : min (PyData.depthAll ds) d.depth ≤ d.depth := Nat.min_le_right _ _
  rcases he with he | he
  · obtain ⟨bs, r2⟩ := Dp.reads I _ y u he ry
    exact SeqAt.in_list_reads r2 r1 c2 c1 (by omega) ⟨.bl _, H, I, rfl, q⟩
  · obtain ⟨bs, r2⟩ := Dp.reads I _ y u he ry
    exact SeqAt.in_tuple_reads r2 r1 c2 c1 (by omega) ⟨.bl _, H, I, rfl, q⟩
theorem op_notInD {X : Cx} (hu : X.A.units + 64 < cLine) : OpR X (compareOp .NotIn) (rInD X.K true) := by
  intro pins s σ H x y v u Q I rx ry h
  obtain ⟨d, ds, hd, he, c1, c2, hz, q⟩ := h
  obtain ⟨as, r1⟩ := Dp.reads I d x v hd rx
  have hm : min (PyData.depthAll ds) d.depth ≤ d.depth := Nat.min_le_right _ _
  rcases he with he | he
  · obtain ⟨bs, r2⟩ := Dp.reads I _ y u he ry
    exact SeqAt.notIn_list_reads r2 r1 c2 c1 (by omega) ⟨.bl _, H, I, rfl, q⟩
  · obtain ⟨bs, r2⟩ := Dp.reads I _ y u he ry
    exact SeqAt.notIn_tuple_reads r2 r1 c2 c1 (by omega) ⟨.bl _, H, I, rfl, q⟩
theorem op_inA {X : Cx} (hu : X.A.units + 64 < cLine) (hK : X.K = K) : OpR X (compareOp .In) (rOr (rIn K false) (rInD K false)) := hK ▸ opr_or op_in_seq (op_inD hu)
theorem op_notInA {X : Cx} (hu : X.A.units + 64 < cLine) (hK : X.K = K) : OpR X (compareOp .NotIn) (rOr (rIn K true) (rInD K true)) := hK ▸ opr_or op_notIn_seq (op_notInD hu)
theorem flat_all : ∀ {vs : List V} {ds : List D}, RepL K as F vs ds → ds.all dflat = true → vs.all flatV = true
  | _, _, .nil, _ => rfl
  | _, _, .cons q r, h => by
    rw [List.all_cons, Bool.and_eq_true] at h ⊢
    exact ⟨flat_rep q h.1, flat_all r h.2⟩
theorem flat_any {x : V} {d : D} (rx : Rep K as F x d) (hx : dflat d = true) : ∀ {vs : List V} {ds : List D}, RepL K as F vs ds → ds.all dflat = true → inV x vs = ds.any fun e => deqv e d
  | _, _, .nil, _ => rfl
  | _, _, .cons (v := v) (vs := vs) q r, h => by
    rw [List.all_cons, Bool.and_eq_true] at h
    have ih := flat_any rx hx r h.2
    show (eqV v x || inV x vs) = _
    rw [List.any_cons, ih, flat_eqV q rx h.1 hx]
theorem lay_all {ds : List D} {ps : List PyData} {d : D} {p : PyData} (h : toPL ds = some ps) (hd : toP d = some p) : (ps.any fun e => PyData.eqv e p) = ds.any fun e => deqv e d := by
  induction ds generalizing ps with
  | nil => cases h; rfl
  | cons a r ih =>
    obtain ⟨q, qs, h1, h2, rfl⟩ := toPL_cons h
    rw [List.any_cons, List.any_cons, ih h2, toP_eqv h1 hd]
theorem sim_in (neg : Bool) : SimR K (rOr (rIn K neg) (rInD K neg)) (dIn neg) := fun Z as F H μ x y d e Q Q' M rx ry z k => by
  have go : ∀ (c : D) (ds : List D) (p : Addr) (vs : List V), (c = .lst ds ∧ SqL K H p vs ∨ c = .tup ds ∧ SqT K H p vs) → view μ e = c → y = .ref p → RepL K as F vs ds → dInOk (view μ d) c ds = true →
      Q (.bl (if neg then !(ds.any fun e => deqv e (view μ d)) else ds.any fun e => deqv e (view μ d))) μ → rOr (rIn K neg) (rInD K neg) x y H Q' := by
    rintro c ds p vs hc hv rfl r ok q
    unfold dInOk at ok
    rw [Bool.or_eq_true, Bool.and_eq_true, Bool.and_eq_true] at ok
    rcases ok with ⟨h1, h2⟩ | ⟨h1, h2⟩
    · have e1 := view_flat h1
      rw [e1] at h1 q
      refine .inl ⟨p, vs, rfl, hc.elim (fun w => .inl w.2) (fun w => .inr w.2), flat_rep rx h1, flat_all r h2, ?_⟩
      rw [flat_any rx h1 r h2]
      exact k _ _ μ as F H Gr.refl M (.bl _) q
    · obtain ⟨a, a1, a2⟩ := dok_shaped h1
      unfold dok at h1 h2
      rw [Bool.and_eq_true, decide_eq_true_iff] at h1 h2
      obtain ⟨a', a3, a4, a5⟩ := lay_toP h1.1
      obtain rfl := Option.some.inj (a1.symm.trans a3)
      obtain ⟨b, b1, b2, b3⟩ := lay_toP h2.1
      have hd := view_dp M rx a1
      have he := view_dp M ry (p := b) (by rw [hv]; exact b1)
      rcases hc with ⟨rfl, hq⟩ | ⟨rfl, hq⟩
      · obtain ⟨ps, p1, rfl⟩ := toP_lst b1
        refine .inr ⟨a, ps, hd, .inl he, a4, b2, by rw [a5]; exact h1.2, ?_⟩
        rw [lay_all p1 a1]
        exact k _ _ μ as F H Gr.refl M (.bl _) q
      · obtain ⟨ps, p1, rfl⟩ := toP_tup b1
        refine .inr ⟨a, ps, hd, .inr he, a4, b2, by rw [a5]; exact h1.2, ?_⟩
        rw [lay_all p1 a1]
        exact k _ _ μ as F H Gr.refl M (.bl _) q
  unfold dIn at z
  split at z
  · rename_i ds hv
    obtain ⟨p, vs, ep, q, r⟩ := view_lst M ry hv
    exact go _ ds p vs (.inl ⟨rfl, q⟩) hv ep r z.1 z.2
  · rename_i ds hv
    obtain ⟨p, vs, ep, q, r⟩ := view_tup M ry hv
    exact go _ ds p vs (.inr ⟨rfl, q⟩) hv ep r z.1 z.2
  · exact z.elim
/-! ### fields -/
def uFld (C : Addr) (f : Str) (ua : DTE) : DTE := fun ρ μ Q E => ua ρ μ (fun x μ1 => match view μ1 x with
  | .ins C' gs => C' = C ∧ (match gs.lookup f with
    | some d => Q d μ1
    | none => False)
  | _ => False) E
theorem sim_fld {C : Addr} {f : Str} {t : TE} {u : DTE} (c : Cls K C) (n : NoAttr K C f) (a : Sim K Ex t u) : Sim K Ex (tFld K t f) (uFld C f u) := fun Z as F H σ ρ μ Q E Q' R X h k =>
  a Z as F H σ ρ μ _ E _ R X h fun v d μ1 as1 F1 H1 g1 R1 r1 h1 => by
    have h1 : (match view μ1 d with | .ins C' gs => C' = C ∧ (match gs.lookup f with | some d => Q d μ1 | none => False) | _ => False) := h1
    cases e : view μ1 d with
    | ins C' gs =>
      rw [e] at h1
      obtain ⟨hc, h2⟩ := h1
      subst hc
      obtain ⟨p, dx, fs, rfl, q, r⟩ := view_ins R1.mm r1 e
      cases l : gs.lookup f with
      | some d' =>
        rw [l] at h2
        obtain ⟨v', l', rr⟩ := r.look l
        exact ⟨p, _, dx, fs, v', rfl, q, c, n, l', k _ _ μ1 as1 F1 H1 g1 R1 rr h2⟩
      | none => rw [l] at h2; exact h2.elim
    | _ => rw [e] at h1; exact h1.elim
end
end DX
set_option Elab.async false
set_option linter.all false
set_option maxRecDepth 100000
set_option maxHeartbeats 4000000
namespace Gd
open PySem PySem.Spec PyProof.Rows L2
/-! promises that are kept where no repr is under way: what repr of a list or a tuple asks -/
abbrev Calm0 (A : Around) : Prop := A.guards = some []
def FnG (P : Program) (w : World) (K : PySem.W.Frag) (mg : Str → Option Value) (base : Heap) (CX : CXT) (k : Nat) (f : Addr) (sp : Sp) : Prop :=
  ∀ (A : Around) (outer : List Env) (s : Shared) (H : Hp) (us : List Value) (vs : List V) (Q : VK) (E : XK), Calm0 A → Room k A → Env0 P w K mg base A outer s H → Vals vs us → sp vs H Q E →
    codeAny (model P w) A (.call (.ref f) ⟨us, []⟩) (CR CX outer P w H s Q E) s
section
variable {P : Program} {w : World} {K : PySem.W.Frag} {mg : Str → Option Value} {base : Heap} {k : Nat} {f : Addr} {fd : FuncData} {x qual : Str} {st : Stmt} {N ps : List Str} {sp : Sp}
theorem FnG.of {CX : CXT} (F : FnR P w K mg base CX k f sp) : FnG P w K mg base CX k f sp := fun A o s H us vs Q E _ hr e r h => F A o s H us vs Q E hr e r h
/-- a def by its body, run where no repr is under way -/
theorem fnG_ok (F : Fun K x qual st f fd) (S : FnScope N ps (defScope st)) (B : L2.Binds K fd ps []) (len : ∀ vs H Q E, sp vs H Q E → vs.length = ps.length)
    (body : ∀ (cdv : Value) (A : Around) (outer : List Env) (s : Shared) (H : Hp) (vs : List V) (Q : VK) (E : XK), Calm0 A → Room k (A.deeper (envOfC qual (defScope st) s.heap.objs.size f cdv)) → sp vs H Q E →
      ∃ t, PSs (cxOf CX0 P w K mg base N qual (defScope st) f cdv A outer s H E).nox (defBody st) t ∧ t { nx := fun _ G => Q .non G, rt := Q } (start N vs) H) : FnG P w K mg base CX0 (k + 1) f sp := by
  obtain ⟨oc, od, kV, doc, pm, an, cdv, ct, osl, rfl, lk, hcd⟩ := F.ex
  intro A outer s H us vs Q E g room e r h
  have n1 : vs.length = ps.length := len vs H Q E h
  have inH : K.In s.heap := e.mod.kin.keeps (fun b o z => (e.bs b o z).left)
  have nolim : s.heap.NoLimit := e.mod.nolimit.keeps (fun b o z => (e.bs b o z).left)
  have bd := B s us inH (by rw [List.append_nil, ← r.length]; exact n1)
  rw [List.append_nil] at bd
  have kinds : ∀ q ∈ ps.zip us, (defScope st).names.lookup q.1 = some .local ∨ ((defScope st).names.lookup q.1 = some .cell ∧ ((cellsFrom (s.heap.objs.size + 1) (defScope st).names []).lookup q.1).isSome = true) := by
    rintro ⟨n, v⟩ hq
    cases S.par n (List.of_mem_zip hq).1 with
    | inl z => exact Or.inl z
    | inr z => exact Or.inr ⟨z, PySem.W.cellsFrom_some _ _ _ (Or.inl z)⟩
  obtain ⟨t, ht, q⟩ := body cdv A outer s H vs Q E g (room.deeper _) h
  apply codeAny_call_function room.depth (inH _ _ lk) rfl S.co S.gen rfl (PySem.W.codeRec_of inH hcd) (bd _ _ _ _ _)
  apply wpAny_newFunctionEnv_cells S.kind kinds
  intro env he s1 z
  subst he
  refine And.intro (nolim.keeps z.toInCall.keep) (codeAny_func ?_)
  have I := inv_start (CX := CX0) (E := E) S room.hd e n1 r z
  apply wpAny_mono (ht.nox.run [] s1 (start N vs) H _ I q) (fun fl s2 hs => ?_) (fun _ _ hs => hs)
  cases fl with
  | ret u => obtain ⟨v, σ2, H2, J, rv, z2⟩ := hs; exact ⟨v, H2, J.os, J.bare, J.base, J.hok, rv, z2⟩
  | next => obtain ⟨σ2, H2, J, z2⟩ := hs; exact ⟨V.non, H2, J.os, J.bare, J.base, J.hok, rfl, z2⟩
  | brk => exact hs.elim fun _ z2 => z2.elim fun _ z3 => z3.2.elim
  | cont => exact hs.elim fun _ z2 => z2.elim fun _ z3 => z3.2.elim
end
section
variable {X : Cx} {CX : CXT} {k : Nat} {f : Addr} {sp : Sp} {E : XK} {x : Str} {p pos : Pos} {e : Expr} {es : List Expr} {t : TA}
theorem pe_callG (F : FnG X.prog X.w X.K X.mg X.base CX k f sp) (g : Calm0 X.A) (hr : Room k X.A) (hg : Gl X x) (hm : X.mg x = some (.ref f)) (hk : PySem.W.keepIn X.K (.ref f) = true) (hx : Passes CX X E)
    (ha : PA X (e :: es) t) (hdb : (x == ("__debug__" : Str)) = false := by decide) (he : starEach (e :: es) X.env = (false, eval e X.env) :: starEach es X.env := by rfl) (hpl : (backTo pos (starEach es X.env)).any (·.1) = false := by rfl) :
    PE X (.Call (.Name x p) (e :: es) [] pos) (tCall sp [] E t) := by
  constructor
  intro pins s σ H Q I h
  apply wpAny_Call_Name_kw (ld_glob I hg hm ?_ hdb)
  apply PySem.W.callWith_K (h₀ := X.base) I.ok.mod.kin hk (thn (ha.run pos pins s σ H _ I h) fun us s1 ⟨vs, H1, I1, r, q⟩ => ⟨I1.kIn, ?_⟩) he hpl
  have q : sp vs H1 Q E := by
    have z : sp (vs ++ []) H1 Q E := q
    rwa [List.append_nil] at z
  refine wpAny_call (codeAny_mono (F _ _ _ _ _ _ _ _ g hr I1.env0 r q) fun z s2 hq => ?_)
  match z, hq with
  | .error u, hq => exact hx pins σ H1 s1 u s2 I1 hq
  | .ok (.ret u), hq => exact I1.after hq
end
/-! repr of data -/
def okShow : PyData → Bool
  | .int i => decide (i.natAbs.log2 < 1920)
  | d => d.showable && !d.hasDict && decide (d.depth ≤ 8) && decide (d.shown.length ≤ 1000000)
theorem show_of {d : PyData} (n : ∀ i, d ≠ .int i) (h : okShow d = true) : d.showable = true ∧ d.hasDict = false ∧ d.depth ≤ 8 ∧ d.shown.length ≤ sizeLine := by
  cases d with
  | int i => exact (n i rfl).elim
  | _ =>
    simp only [okShow, Bool.and_eq_true, decide_eq_true_eq, Bool.not_eq_true'] at h
    exact ⟨h.1.1.1, h.1.1.2, h.1.2, Nat.le_trans h.2 (by decide)⟩
theorem call_reprD {X : Cx} (g : Calm0 X.A) (hu : X.A.units + 64 < cLine) : CallR X (.builtin "repr") (fun xs H Q => ∃ v d, xs = [v] ∧ Dp X.K H v d ∧ okShow d = true ∧ Q (.str d.shown) H) := by
  intro pins s σ H xs us Q I r ⟨v, d, e, hd, ok, q⟩
  subst e
  obtain ⟨u, rfl, ru⟩ := vals1 r
  cases hd with
  | non => cases ru; exact PySem.P.repr_of_none ⟨.str _, H, I.tok _, ⟨_, rfl⟩, q⟩
  | bl b => cases ru; exact PySem.P.repr_of_bool ⟨.str _, H, I.tok _, ⟨_, rfl⟩, q⟩
  | int i => obtain ⟨t, rfl⟩ := ru; exact PySem.P.repr_of_int (of_decide_eq_true ok) ⟨.str _, H, I.tok _, ⟨_, rfl⟩, q⟩
  | str z => obtain ⟨t, rfl⟩ := ru; exact PySem.P.repr_of_str ⟨.str _, H, I.tok _, ⟨_, rfl⟩, q⟩ (show_of (by intro i e; cases e) ok).2.2.2
  | lst h1 h2 =>
    obtain ⟨o1, o2, o3, o5⟩ := show_of (by intro i e; cases e) ok
    obtain ⟨as, rd⟩ := Dp.reads I _ _ _ (Dp.lst h1 h2) ru
    cases ru
    exact repr_of_reads' rd o1 (fun z => by rw [o2] at z; cases z) g (by omega) (fun _ _ z => z) (fun h' u tk hk => ⟨.str _, H, I.kept hk, ⟨_, rfl⟩, q⟩) o5
  | tup h1 h2 =>
    obtain ⟨o1, o2, o3, o5⟩ := show_of (by intro i e; cases e) ok
    obtain ⟨as, rd⟩ := Dp.reads I _ _ _ (Dp.tup h1 h2) ru
    cases ru
    exact repr_of_reads' rd o1 (fun z => by rw [o2] at z; cases z) g (by omega) (fun _ _ z => z) (fun h' u tk hk => ⟨.str _, H, I.kept hk, ⟨_, rfl⟩, q⟩) o5
/-! the head of a law that is kept where no repr is under way -/
section
variable {P : Program} {w : World} {K : PySem.W.Frag} {mg mb : Str → Option Value} {k : Nat} {fa a : Addr} {sp : Sp} {s : Shared} {vs : List Value} {ns : List Int}
/-- what the law's run is to give -/
abbrev Gives (s : Shared) (r : Result) (s2 : Shared) : Prop := r = .ok (.ret (.bool true)) ∧ OldK s.heap s2.heap ∧ s2.os = s.os ∧ AllBare s2.gens
/-- the ground of a heap H that tracks at most the script -/
theorem ground_of {H : Hp} (inH : K.In s.heap) (g : s.heap.Ns mainGlobals mg) (b : s.heap.Ns builtinsNs mb) (bb : ∀ x : Str, x ≠ "__name__" → mb x = bootBuiltins x) (nl : s.heap.NoLimit) (ng : s.gens = #[])
    (sc : s.heap.get? a = some { cls := .type "list", data := .seq vs.toArray }) (ok : HOk P w H s.heap) (one : ∀ b u, H b = some u → b = a ∧ K.lookup a = none) :
    K.In (hidT s.heap H) ∧ (hidT s.heap H).Ns mainGlobals mg ∧ Env0 P w K mg (hidT s.heap H) callerA [] s H := by
  have open_ : ∀ {b : Addr} {o : Obj}, s.heap.get? b = some o → b ≠ a → (hidT s.heap H).get? b = some o := fun {b o} e n => hidT_get e (by
    cases z : H b with
    | none => rfl
    | some u => exact (n (one b u z).1).elim)
  have names : ∀ {b : Addr} {m : Str → Option Value}, s.heap.Ns b m → (hidT s.heap H).Ns b m := by
    rintro b m ⟨o, es, ep, e, d, r⟩
    refine ⟨o, es, ep, open_ e ?_, d, r⟩
    rintro rfl
    rw [e] at sc
    cases sc
    cases d
  have inG : K.In (hidT s.heap H) := fun b o e => by
    by_cases z : b = a
    · subst z
      refine hidT_get (inH b o e) ?_
      cases y : H b with
      | none => rfl
      | some u => rw [(one b u y).2] at e; cases e
    · exact open_ (inH b o e) z
  obtain ⟨mc, l1, l2⟩ := nl
  exact ⟨inG, names g, ⟨rfl, ⟨inG, names g, ⟨mb, names b, bb⟩, ⟨mc, names l1, l2⟩⟩, fun b o e => of_hidT e, Nat.le_of_eq (hidT_size _ _), trivial, fun b hb => (nomatch hb), ok, .of_eq ng⟩⟩
theorem law_runG (inH : K.In s.heap) (g : s.heap.Ns mainGlobals mg) (b : s.heap.Ns builtinsNs mb) (bb : ∀ x : Str, x ≠ "__name__" → mb x = bootBuiltins x) (nl : s.heap.NoLimit) (ng : s.gens = #[])
    (sc : s.heap.get? a = some { cls := .type "list", data := .seq vs.toArray }) (hi : IntsAre vs ns) (hl : ns.length ≤ sizeLine) (hr : Room k callerA)
    (F : ∀ base : Heap, K.In base → base.Ns mainGlobals mg → FnG P w K mg base CX0 k fa sp) (hsp : ∀ H : Hp, SqL K H a (ns.map V.int) → sp [.ref a] H (fun v _ => v = .bl true) fun _ _ _ => False) :
    codeAny (model P w) callerA (.call (.ref fa) ⟨[.ref a], []⟩) (Gives s) s := by
  have rv := vals_ints hi
  have small : (ns.map V.int).length ≤ sizeLine := by rw [List.length_map]; exact hl
  have way : ∀ H : Hp, (∀ b u, H b = some u → ∃ o xs, u = .frz o (.lst xs)) → SqL K H a (ns.map V.int) → HOk P w H s.heap → (∀ b u, H b = some u → b = a ∧ K.lookup a = none) → codeAny (model P w) callerA (.call (.ref fa) ⟨[.ref a], []⟩) (Gives s) s := by
    intro H fz S ok one
    obtain ⟨g1, g2, g3⟩ := ground_of inH g b bb nl ng sc ok one
    refine codeAny_mono (F _ g1 g2 callerA [] s H [.ref a] [V.ref a] _ _ rfl hr g3 (.cons rfl .nil) (hsp H S)) fun r s2 h => ?_
    match r, h with
    | .ok (.ret u), ⟨v, H2, os, bare, un, ok2, ru, q⟩ =>
      have q : v = .bl true := q
      subst q
      have ru : u = Value.bool true := ru
      subst ru
      refine ⟨rfl, OldK.of_keep fun c o e => ?_, os, bare⟩
      cases z : H c with
      | none => exact un.keep c o e z (by intro y; cases y) (by simp)
      | some u =>
        obtain ⟨ob, xs, rfl⟩ := fz c u z
        have e1 := (ok c _ z).1
        rw [e] at e1
        cases e1
        exact (ok2 c _ (un.frzs c o _ z)).1
  cases own : K.lookup a with
  | some o =>
    have e := inH a o own
    rw [sc] at e
    cases e
    exact way (fun _ => none) (fun _ _ z => nomatch z) (.inr ⟨_, vs.toArray, _, own, rfl, rfl, rfl, by rw [List.size_toArray, hi.length]; exact hl, by simpa using rv⟩) (fun _ _ z => nomatch z) (fun _ _ z => nomatch z)
  | none =>
    have at_ : ∀ b u, (if b = a then some (HO.frz { cls := .type "list", data := .seq vs.toArray } (.lst (ns.map V.int))) else none) = some u → b = a ∧ u = .frz { cls := .type "list", data := .seq vs.toArray } (.lst (ns.map V.int)) := fun b u z => by
      by_cases y : b = a
      · rw [if_pos y] at z; cases z; exact ⟨y, rfl⟩
      · rw [if_neg y] at z; cases z
    refine way (fun b => if b = a then some (.frz { cls := .type "list", data := .seq vs.toArray } (.lst (ns.map V.int))) else none) (fun b u z => ⟨_, _, (at_ b u z).2⟩) (.inl (.inr ⟨_, if_pos rfl⟩)) (fun b u z => ?_) (fun b u z => ⟨(at_ b u z).1, own⟩)
    obtain ⟨rfl, rfl⟩ := at_ b u z
    exact ⟨sc, small, vs, _, rv, sc⟩
end
theorem walkG {l : PySem.W.OpenLaw} {n k : Nat} {q : Program} {loose : List Str} {XP : (Str → Option Value) → Heap → Prop} {YP : World → Heap → Prop} {d : DefRec} {K : Params → PySem.W.Frag} {sp : PySem.W.Frag → Sp}
    (hn : l.most = some n) (n2 : n ≤ sizeLine) (hdf : d.params.defaults = []) (hr : Room k callerA) (hY : ∀ (w : World) (h : Heap), YP w h → (K w.params).In h)
    (F : ∀ (w : World) (mg : Str → Option Value) (fa : Addr) (h : Heap), (K w.params).In h → h.Ns mainGlobals mg → mg d.name = some (.ref fa) → ∀ base : Heap, (K w.params).In base → base.Ns mainGlobals mg → FnG l.prog w (K w.params) mg base CX0 k fa (sp (K w.params)))
    (hsp : ∀ (K : PySem.W.Frag) (H : Hp) (a : Addr) (ns : List Int), ns.length ≤ n → SqL K H a (ns.map V.int) → sp K [.ref a] H (fun v _ => v = .bl true) fun _ _ _ => False) :
    PySem.W.WalkO q loose XP YP l.row.toRowW d [] (fun f vs => PySem.call f vs) := by
  apply Att.attach_call hn hdf
  intro w s₀ s₁ mg mb fa o pm cd doc a vs ns G Y ho hd hcd hmg hobj hints hlen hg
  exact law_runG (hY w _ Y) G.T.g G.T.b G.T.builtins G.T.nolimit hg hobj hints (Nat.le_trans hlen n2) hr (F w mg fa _ (hY w _ Y) G.T.g hmg) (fun H S => hsp _ H a ns hlen S)
end Gd
set_option Elab.async false
set_option linter.all false
set_option maxRecDepth 100000
set_option maxHeartbeats 4000000
namespace DX
open PySem PySem.Spec PyProof.Rows L2
/-! ### built-in calls -/
abbrev DC := List D → Mem → (D → Mem → Prop) → Prop
section
variable {K : PySem.W.Frag} {Z : Hp} {as as' as1 : List Addr} {F F' F1 H H' H1 : Hp} {Ex : L2.St → XK}
def SimC (K : PySem.W.Frag) (r : List V → Hp → VK → Prop) (dc : DC) : Prop := ∀ (Z : Hp) (as : List Addr) (F H : Hp) (μ : Mem) (vs : List V) (ds : List D) (Q : D → Mem → Prop) (Q' : VK), Mm K Z as F H μ → RepL K as F vs ds → dc ds μ Q →
  (∀ v d' μ' as' F' H', Gr as F as' F' → Mm K Z as' F' H' μ' → Rep K as' F' v d' → Q d' μ' → Q' v H') → r vs H Q'
def uCB (dc : DC) (ua : DTA) : DTE := fun ρ μ Q E => ua ρ μ (fun ds μ1 => dc ds μ1 Q) E
theorem sim_cb {r : List V → Hp → VK → Prop} {dc : DC} {t : TA} {u : DTA} (s : SimC K r dc) (a : SimA K Ex t u) : Sim K Ex (tCB r t) (uCB dc u) := fun Z as F H σ ρ μ Q E Q' R X h k =>
  a Z as F H σ ρ μ _ E _ R X h fun vs ds μ1 as1 F1 H1 g1 R1 r1 h1 => s Z as1 F1 H1 μ1 vs ds Q Q' R1.mm r1 h1 fun v d' μ' as' F' H' g2 M2 r2 q => k v d' μ' as' F' H' (g1.trans g2) (R1.up g2 M2) r2 q
def one (f : D → Mem → (D → Mem → Prop) → Prop) : DC := fun ds μ Q => match ds with
  | [x] => f x μ Q
  | _ => False
theorem simC_one {r : List V → Hp → VK → Prop} {f : D → Mem → (D → Mem → Prop) → Prop}
    (h : ∀ (Z : Hp) (as : List Addr) (F H : Hp) (μ : Mem) (v : V) (d : D) (Q : D → Mem → Prop) (Q' : VK), Mm K Z as F H μ → Rep K as F v d → f d μ Q → (∀ v d' μ' as' F' H', Gr as F as' F' → Mm K Z as' F' H' μ' → Rep K as' F' v d' → Q d' μ' → Q' v H') → r [v] H Q') : SimC K r (one f) := fun Z as F H μ vs ds Q Q' M rs z k => by
  match vs, ds, rs, z with
  | _, _, .cons r1 .nil, z => exact h Z as F H μ _ _ Q Q' M r1 z k
  | _, _, .nil, z => exact z.elim
  | _, _, .cons _ (.cons _ _), z => exact z.elim
/-! len -/
def dLen : DC := one fun x μ Q => match view μ x with
  | .lst xs => Q (.int xs.length) μ
  | .tup xs => Q (.int xs.length) μ
  | .str z => z.length ≤ sizeLine ∧ Q (.int z.length) μ
  | .byt z => z.size ≤ sizeLine ∧ Q (.int z.size) μ
  | _ => False
def rLen (K : PySem.W.Frag) : List V → Hp → VK → Prop := fun xs H Q => ∃ x n, xs = [x] ∧ LenV K x H n ∧ Q (.int n) H
theorem call_lenA {X : Cx} (hK : X.K = K) : CallR X (.builtin "len") (rLen K) := hK ▸ call_len
theorem view_byt {μ : Mem} {d : D} {z : Array UInt8} (h : view μ d = .byt z) : d = .byt z := view_non h (by intro _ z; cases z) (by intro _ z; cases z) (by intro _ _ z; cases z)
theorem sim_len : SimC K (rLen K) dLen := simC_one fun Z as F H μ v d Q Q' M r z k => by
  cases e : view μ d with
  | lst xs =>
    rw [e] at z
    obtain ⟨a, vs, rfl, q, x⟩ := view_lst M r e
    exact ⟨_, _, rfl, .inl ⟨vs, q, rfl⟩, by rw [x.len]; exact k _ _ μ as F H Gr.refl M (.int _) z⟩
  | tup xs =>
    rw [e] at z
    obtain ⟨a, vs, rfl, q, x⟩ := view_tup M r e
    exact ⟨_, _, rfl, .inr ⟨vs, q, rfl⟩, by rw [x.len]; exact k _ _ μ as F H Gr.refl M (.int _) z⟩
  | str w =>
    rw [e] at z
    cases view_str e
    cases r
    exact ⟨_, _, rfl, ⟨z.1, rfl⟩, k _ _ μ as F H Gr.refl M (.int _) z.2⟩
  | byt w =>
    rw [e] at z
    cases view_byt e
    cases r
    exact ⟨_, _, rfl, ⟨z.1, rfl⟩, k _ _ μ as F H Gr.refl M (.int _) z.2⟩
  | _ => rw [e] at z; exact z.elim
/-! types -/
inductive Ty where
  | non | bl | int | str | byt | lst | tup | dic
  | own (C : Addr)
def tyOf (μ : Mem) : D → Option Ty
  | .non => some .non
  | .bl _ => some .bl
  | .int _ => some .int
  | .str _ => some .str
  | .byt _ => some .byt
  | .lst _ => some .lst
  | .kl _ => some .lst
  | .tup _ => some .tup
  | .kt _ => some .tup
  | .ins C _ => some (.own C)
  | .ob k => match μ[k]? with
    | some (.lst _) => some .lst
    | some (.ins C _) => some (.own C)
    | some (.dic _) => some .dic
    | none => none
  | _ => none
def tyVal : Ty → Value
  | .non => .type "NoneType"
  | .bl => .type "bool"
  | .int => .type "int"
  | .str => .type "str"
  | .byt => .type "bytes"
  | .lst => .type "list"
  | .tup => .type "tuple"
  | .dic => .type "dict"
  | .own C => .ref C
/-- an own class's facts for isinstance -/
structure OwnT (K : PySem.W.Frag) (C : Addr) : Prop where
  cl : Cls K C
  cC : PySem.W.findIn K (.ref C) "__class__" = some (some (.builtin "object.__class__"))
  cG : PySem.W.specialIn K (.builtin "object.__class__") "__get__" = some (some (.builtin "getset_descriptor.__get__"))
  cT : PySem.W.takesIn K (.builtin "object.__class__") = some true
  cM : PySem.W.mroIn K C (.type "object") = some true
theorem sqL_ty {a : Addr} {xs : List V} (h : SqL K H a xs) : TyX K H (.ref a) (.type "list") := by
  rcases h with (h | ⟨o, h⟩) | ⟨o, its, n, h, c, _⟩
  · exact .base (.lst h)
  · exact .base (.frz h)
  · exact .kList h c
theorem sqT_ty {a : Addr} {xs : List V} (h : SqT K H a xs) : TyX K H (.ref a) (.type "tuple") := by
  rcases h with (h | ⟨o, h⟩) | ⟨o, its, n, h, c, _⟩
  · exact .base (.tup h)
  · exact .fTuple h
  · exact .kTuple h c
def TyOk (K : PySem.W.Frag) : Ty → Prop
  | .own C => OwnT K C
  | _ => True
theorem ty_of {μ : Mem} (M : Mm K Z as F H μ) {v : V} {d : D} (r : Rep K as F v d) {t : Ty} (h : tyOf μ d = some t) (ok : TyOk K t) : TyX K H v (tyVal t) := by
  cases r with
  | ob q =>
    rename_i k a
    have h : (match μ[k]? with | some (DX.M.lst _) => some Ty.lst | some (.ins C _) => some (.own C) | some (.dic _) => some .dic | none => none) = some t := h
    cases z : μ[k]? with
    | none => rw [z] at h; cases h
    | some m =>
      rw [z] at h
      obtain ⟨b, hb, y⟩ := M.at_ k m z
      obtain rfl := Option.some.inj (q.symm.trans hb)
      cases m with
      | lst es => cases h; obtain ⟨vs, e1, _⟩ := y; exact .base (.lst e1)
      | ins C fs => cases h; obtain ⟨dx, vs, e1, _⟩ := y; exact .base (.ins e1 ok.cl ok.cC ok.cG ok.cT ok.cM)
      | dic kv => cases h; obtain ⟨ks, e1, _⟩ := y; exact .base (.dK e1)
  | non => cases h; exact .base .non
  | bl b => cases h; exact .base (.bl b)
  | int b => cases h; exact .base (.int b)
  | str b => cases h; exact .base (.str b)
  | byt b => cases h; exact .byt b
  | lst q x => cases h; exact .base (.lst (M.same _ _ q))
  | kl q x => cases h; exact sqL_ty (M.same.seq q)
  | tup q x => cases h; exact .base (.tup (M.same _ _ q))
  | kt q x => cases h; exact sqT_ty (SqT.ext q M.same)
  | ins q x => cases h; exact .base (.ins (M.same _ _ q) ok.cl ok.cC ok.cG ok.cT ok.cM)
  | _ => cases h
/-- isinstance(x, T), T a built-in class -/
def tyIs : Ty → Ty → Bool
  | .non, .non => true
  | .bl, .bl => true
  | .bl, .int => true
  | .int, .int => true
  | .str, .str => true
  | .byt, .byt => true
  | .lst, .lst => true
  | .tup, .tup => true
  | .dic, .dic => true
  | _, _ => false
def tyName : Ty → String
  | .non => "NoneType" | .bl => "bool" | .int => "int" | .str => "str" | .byt => "bytes" | .lst => "list" | .tup => "tuple" | .dic => "dict" | .own _ => ""
/-- what an own class answers of a built-in one -/
def OwnB (K : PySem.W.Frag) (C : Addr) (T : Ty) : Prop := OwnT K C ∧ PySem.W.kitOne K (.ref C) (tyVal T) = some false
def dIsB (K : PySem.W.Frag) (T : Ty) (x : D) (μ : Mem) (Q : D → Mem → Prop) : Prop := match tyOf μ x with
  | some (.own C) => OwnB K C T ∧ Q (.bl false) μ
  | some t => Q (.bl (tyIs t T)) μ
  | none => False
def dIsiB (K : PySem.W.Frag) (T : Ty) : DC := fun ds μ Q => match ds with
  | [x, .val _] => dIsB K T x μ Q
  | _ => False
theorem kit_tab {t T : Ty} (h1 : ∀ C, t ≠ .own C) (h2 : ∀ C, T ≠ .own C) : PySem.W.kitOne K (tyVal t) (tyVal T) = some (tyIs t T) := by
  cases t <;> first | exact absurd rfl (h1 _) | (cases T <;> first | exact absurd rfl (h2 _) | exact kit_ty (by decide +kernel))
end
/-- a term that gives the class c -/
structure IsCls (c : V) (u : Value) : Prop where
  cls : ClsV c u
section
variable {K : PySem.W.Frag} {Z : Hp} {as as' as1 : List Addr} {F F' F1 H H' H1 : Hp} {Ex : L2.St → XK}
def uIs (f : D → Mem → (D → Mem → Prop) → Prop) (ua : DTE) : DTE := fun ρ μ Q E => ua ρ μ (fun x μ1 => f x μ1 Q) E
theorem sim_isB {T : Ty} {n : String} (hT : ∀ C, T ≠ .own C) (e : tyVal T = .type n) {t : TE} {u : DTE} (a : Sim K Ex t u) : Sim K Ex (tCB (rIsi K) (tCons t (tCons (tC (.ty n)) tNil))) (uIs (dIsB K T) u) := fun Z as F H σ ρ μ Q E Q' R X h k =>
  a Z as F H σ ρ μ _ E _ R X h fun v d μ1 as1 F1 H1 g1 R1 r1 h1 => by
    have h1 : dIsB K T d μ1 Q := h1
    unfold dIsB at h1
    cases z : tyOf μ1 d with
    | none => rw [z] at h1; exact h1.elim
    | some t =>
      rw [z] at h1
      have go : ∀ b, PySem.W.kitOne K (tyVal t) (tyVal T) = some b → TyOk K t → Q (.bl b) μ1 → rIsi K [v, .ty n] H1 Q' := fun b hb ok q => ⟨v, .ty n, tyVal t, .type n, b, rfl, .ty n, ty_of R1.mm r1 z ok, by rw [← e]; exact hb, k _ _ μ1 as1 F1 H1 g1 R1 (.bl _) q⟩
      cases t with
      | own C => exact go false h1.1.2 h1.1.1 h1.2
      | _ => exact go _ (kit_tab (by intro C z; cases z) hT) True.intro h1
/-- isinstance(x, C), C an own class -/
structure KitO (K : PySem.W.Frag) (C : Addr) : Prop where
  b : ∀ t : Ty, (∀ C, t ≠ .own C) → PySem.W.kitOne K (tyVal t) (.ref C) = some false
def dIsO (K : PySem.W.Frag) (C : Addr) (x : D) (μ : Mem) (Q : D → Mem → Prop) : Prop := match tyOf μ x with
  | some (.own C') => OwnT K C' ∧ ∃ b, PySem.W.kitOne K (.ref C') (.ref C) = some b ∧ Q (.bl b) μ
  | some _ => Q (.bl false) μ
  | none => False
theorem sim_isO {C : Addr} (kt : KitO K C) {t : TE} {u : DTE} (a : Sim K Ex t u) : Sim K Ex (tCB (rIsi K) (tCons t (tCons (tC (.ref C)) tNil))) (uIs (dIsO K C) u) := fun Z as F H σ ρ μ Q E Q' R X h k =>
  a Z as F H σ ρ μ _ E _ R X h fun v d μ1 as1 F1 H1 g1 R1 r1 h1 => by
    have h1 : dIsO K C d μ1 Q := h1
    unfold dIsO at h1
    cases z : tyOf μ1 d with
    | none => rw [z] at h1; exact h1.elim
    | some t =>
      rw [z] at h1
      have go : ∀ b, PySem.W.kitOne K (tyVal t) (.ref C) = some b → TyOk K t → Q (.bl b) μ1 → rIsi K [v, .ref C] H1 Q' := fun b hb ok q => ⟨v, .ref C, tyVal t, .ref C, b, rfl, .own C, ty_of R1.mm r1 z ok, hb, k _ _ μ1 as1 F1 H1 g1 R1 (.bl _) q⟩
      cases t with
      | own C' =>
        obtain ⟨o, b, hb, q⟩ := h1
        exact go b hb o q
      | _ => exact go false (kt.b _ (by intro C z; cases z)) True.intro h1
theorem call_isiA {X : Cx} (hK : X.K = K) : CallR X (.builtin "isinstance") (rIsi K) := hK ▸ call_isi
/-! int, bool -/
def dInt : DC := one fun x μ Q => match x with
  | .int i => Q (.int i) μ
  | .bl b => Q (.int (if b then 1 else 0)) μ
  | _ => False
theorem sim_int : SimC K (fun xs H Q => (∃ i, xs = [.int i] ∧ Q (.int i) H) ∨ ∃ k, xs = [.bl k] ∧ Q (.int (if k then 1 else 0)) H) dInt := simC_one fun Z as F H μ v d Q Q' M r z k => by
  cases r <;> try exact z.elim
  · exact .inr ⟨_, rfl, k _ _ μ as F H Gr.refl M (.int _) z⟩
  · exact .inl ⟨_, rfl, k _ _ μ as F H Gr.refl M (.int _) z⟩
/-! list(x), tuple(x) -/
def dList (m : Bool) : DC := one fun x μ Q => match view μ x with
  | .lst xs => if m = true then Q (.ob μ.length) (μ ++ [.lst xs]) else Q (.lst xs) μ
  | .tup xs => if m = true then Q (.ob μ.length) (μ ++ [.lst xs]) else Q (.lst xs) μ
  | _ => False
def rList (K : PySem.W.Frag) : List V → Hp → VK → Prop := fun xs H Q => ∃ p ys, xs = [.ref p] ∧ (SqL K H p ys ∨ SqT K H p ys) ∧ ∀ l, H l = none → Q (.ref l) (upd H l (.lst ys))
theorem call_listA {X : Cx} (hK : X.K = K) : CallR X (.type "list") (rList K) := hK ▸ call_list_of
theorem new_lst {μ : Mem} (M : Mm K Z as F H μ) {vs : List V} {ds : List D} (x : RepL K as F vs ds) {m : Bool} {Q : D → Mem → Prop} {Q' : VK} (q : if m = true then Q (.ob μ.length) (μ ++ [.lst ds]) else Q (.lst ds) μ)
    (k : ∀ v d' μ' as' F' H', Gr as F as' F' → Mm K Z as' F' H' μ' → Rep K as' F' v d' → Q d' μ' → Q' v H') : ∀ l, H l = none → Q' (.ref l) (upd H l (.lst vs)) := fun l nl => by
  cases m with
  | true =>
    rw [if_pos rfl] at q
    exact k _ _ _ _ F _ Gr.add (M.addM (m := .lst ds) nl ⟨vs, upd_same, x.up Gr.add⟩) (rep_ob M.len) q
  | false =>
    rw [if_neg Bool.false_ne_true] at q
    have g := Gr.upd (as := as) (o := .lst vs) (M.newF nl)
    exact k _ _ μ as _ _ g (M.addF nl) (.lst upd_same (x.up g)) q
theorem sim_list (m : Bool) : SimC K (rList K) (dList m) := simC_one fun Z as F H μ v d Q Q' M r z k => by
  cases e : view μ d with
  | lst xs =>
    rw [e] at z
    obtain ⟨a, vs, rfl, q, x⟩ := view_lst M r e
    exact ⟨a, vs, rfl, .inl q, new_lst M x z k⟩
  | tup xs =>
    rw [e] at z
    obtain ⟨a, vs, rfl, q, x⟩ := view_tup M r e
    exact ⟨a, vs, rfl, .inr q, new_lst M x z k⟩
  | _ => rw [e] at z; exact z.elim
def dTuple : DC := one fun x μ Q => match view μ x with
  | .lst xs => Q (.tup xs) μ
  | .tup _ => Q x μ
  | _ => False
def rTuple (K : PySem.W.Frag) : List V → Hp → VK → Prop := fun xs H Q => ∃ p ys, xs = [.ref p] ∧ ((SqL K H p ys ∧ ∀ l, H l = none → Q (.ref l) (upd H l (.tup ys))) ∨ (SqT K H p ys ∧ Q (.ref p) H))
theorem call_tupleA {X : Cx} (hK : X.K = K) : CallR X (.type "tuple") (rTuple K) := hK ▸ call_tuple_of
theorem sim_tuple : SimC K (rTuple K) dTuple := simC_one fun Z as F H μ v d Q Q' M r z k => by
  cases e : view μ d with
  | lst xs =>
    rw [e] at z
    obtain ⟨a, vs, rfl, q, x⟩ := view_lst M r e
    refine ⟨a, vs, rfl, .inl ⟨q, fun l nl => ?_⟩⟩
    have g := Gr.upd (as := as) (o := .tup vs) (M.newF nl)
    exact k _ _ μ as _ _ g (M.addF nl) (.tup upd_same (x.up g)) z
  | tup xs =>
    rw [e] at z
    obtain ⟨a, vs, rfl, q, x⟩ := view_tup M r e
    exact ⟨a, vs, rfl, .inr ⟨q, k _ _ μ as F H Gr.refl M r z⟩⟩
  | _ => rw [e] at z; exact z.elim
/-! sum, any, all -/
theorem ints_rep : ∀ {vs : List V} {ns : List Int}, RepL K as F vs (ns.map D.int) → vs = ns.map V.int
  | [], [], _ => rfl
  | _, _ :: _, .cons (.int _) r => by rw [ints_rep r]; rfl
theorem bls_rep : ∀ {vs : List V} {ns : List Bool}, RepL K as F vs (ns.map D.bl) → vs = ns.map V.bl
  | [], [], _ => rfl
  | _, _ :: _, .cons (.bl _) r => by rw [bls_rep r]; rfl
theorem strs_rep : ∀ {vs : List V} {ns : List Str}, RepL K as F vs (ns.map D.str) → vs = ns.map V.str
  | [], [], _ => rfl
  | _, _ :: _, .cons (.str _) r => by rw [strs_rep r]; rfl
theorem rep_strs : ∀ ns : List Str, RepL K as F (ns.map V.str) (ns.map D.str)
  | [] => .nil
  | _ :: r => .cons (.str _) (rep_strs r)
def dSum : DC := one fun x μ Q => ∃ ns : List Int, view μ x = .lst (ns.map .int) ∧ Q (.int ns.sum) μ
def dAny : DC := one fun x μ Q => ∃ bs : List Bool, view μ x = .lst (bs.map .bl) ∧ Q (.bl (bs.any id)) μ
def dAll : DC := one fun x μ Q => ∃ bs : List Bool, view μ x = .lst (bs.map .bl) ∧ Q (.bl (bs.all id)) μ
theorem sim_sum : SimC K (rSum K) dSum := simC_one fun Z as F H μ v d Q Q' M r z k => by
  obtain ⟨ns, e, z⟩ := z
  obtain ⟨a, vs, rfl, q, x⟩ := view_lst M r e
  cases ints_rep x
  exact ⟨a, ns, rfl, q, k _ _ μ as F H Gr.refl M (.int _) z⟩
theorem sim_any : SimC K (rAny K) dAny := simC_one fun Z as F H μ v d Q Q' M r z k => by
  obtain ⟨ns, e, z⟩ := z
  obtain ⟨a, vs, rfl, q, x⟩ := view_lst M r e
  cases bls_rep x
  exact ⟨a, ns, rfl, q, k _ _ μ as F H Gr.refl M (.bl _) z⟩
theorem sim_all : SimC K (rAll K) dAll := simC_one fun Z as F H μ v d Q Q' M r z k => by
  obtain ⟨ns, e, z⟩ := z
  obtain ⟨a, vs, rfl, q, x⟩ := view_lst M r e
  cases bls_rep x
  exact ⟨a, ns, rfl, q, k _ _ μ as F H Gr.refl M (.bl _) z⟩
theorem call_sumA {X : Cx} (hc : X.calm = true) (hK : X.K = K) : CallR X (.builtin "sum") (rSum K) := hK ▸ cr_sum hc
theorem call_anyA {X : Cx} (hc : X.calm = true) (hK : X.K = K) : CallR X (.builtin "any") (rAny K) := hK ▸ cr_any hc
theorem call_allA {X : Cx} (hc : X.calm = true) (hK : X.K = K) : CallR X (.builtin "all") (rAll K) := hK ▸ cr_all hc
/-! repr -/
def rRepr (K : PySem.W.Frag) : List V → Hp → VK → Prop := fun xs H Q => ∃ v d, xs = [v] ∧ Dp K H v d ∧ Gd.okShow d = true ∧ Q (.str d.shown) H
def dRepr : DC := one fun x μ Q => ∃ p, toP (view μ x) = some p ∧ Gd.okShow p = true ∧ Q (.str p.shown) μ
theorem sim_repr : SimC K (rRepr K) dRepr := simC_one fun Z as F H μ v d Q Q' M r z k => by
  obtain ⟨p, e, o, z⟩ := z
  exact ⟨v, p, rfl, view_dp M r e, o, k _ _ μ as F H Gr.refl M (.str _) z⟩
theorem call_reprA {X : Cx} (g : Gd.Calm0 X.A) (hu : X.A.units + 64 < cLine) (hK : X.K = K) : CallR X (.builtin "repr") (rRepr K) := hK ▸ Gd.call_reprD g hu
/-! ### methods of built-in types -/
abbrev DM := D → List D → Mem → (D → Mem → Prop) → Prop
def SimM (K : PySem.W.Frag) (r : V → List V → Hp → VK → Prop) (dm : DM) : Prop := ∀ (Z : Hp) (as : List Addr) (F H : Hp) (μ : Mem) (v : V) (d : D) (vs : List V) (ds : List D) (Q : D → Mem → Prop) (Q' : VK), Mm K Z as F H μ → Rep K as F v d → RepL K as F vs ds → dm d ds μ Q →
  (∀ v d' μ' as' F' H', Gr as F as' F' → Mm K Z as' F' H' μ' → Rep K as' F' v d' → Q d' μ' → Q' v H') → r v vs H Q'
/-- the receiver is a list -/
def isLst (μ : Mem) (d : D) : Prop := match view μ d with
  | .lst _ => True
  | _ => False
def uBM (dm : DM) (uo : DTE) (ua : DTA) : DTE := fun ρ μ Q E => uo ρ μ (fun x μ1 => isLst μ1 x ∧ ua ρ μ1 (fun ds μ2 => dm x ds μ2 Q) E) E
theorem lst_ty {μ : Mem} (M : Mm K Z as F H μ) {v : V} {d : D} (r : Rep K as F v d) (h : isLst μ d) : tyV K "list" v H := by
  unfold isLst at h
  cases e : view μ d with
  | lst xs =>
    obtain ⟨a, vs, rfl, q, x⟩ := view_lst M r e
    exact .inl ⟨rfl, vs, q⟩
  | _ => rw [e] at h; exact h.elim
theorem sim_bm {r : V → List V → Hp → VK → Prop} {dm : DM} {to : TE} {uo : DTE} {t : TA} {u : DTA} (s : SimM K r dm) (o : Sim K Ex to uo) (a : SimA K Ex t u) : Sim K Ex (tBM K "list" r to t) (uBM dm uo u) := fun Z as F H σ ρ μ Q E Q' R X h k =>
  o Z as F H σ ρ μ _ E _ R X h fun v d μ1 as1 F1 H1 g1 R1 r1 h1 => ⟨lst_ty R1.mm r1 h1.1, a Z as1 F1 H1 σ ρ μ1 _ E _ R1 (X.up g1) h1.2 fun vs ds μ2 as2 F2 H2 g2 R2 r2 h2 =>
    s Z as2 F2 H2 μ2 v d vs ds Q Q' R2.mm (r1.up g2) r2 h2 fun v d' μ' as' F' H' g3 M3 r3 q => k v d' μ' as' F' H' ((g1.trans g2).trans g3) (R2.up g3 M3) r3 q⟩
theorem sim_bm0 {r : V → List V → Hp → VK → Prop} {dm : DM} {to : TE} {uo : DTE} (s : SimM K r dm) (o : Sim K Ex to uo) : Sim K Ex (tBM0 K "list" r to) (uBM dm uo uNil) := fun Z as F H σ ρ μ Q E Q' R X h k =>
  o Z as F H σ ρ μ _ E _ R X h fun v d μ1 as1 F1 H1 g1 R1 r1 h1 => ⟨lst_ty R1.mm r1 h1.1, s Z as1 F1 H1 μ1 v d [] [] Q Q' R1.mm r1 .nil h1.2 fun v d' μ' as' F' H' g3 M3 r3 q => k v d' μ' as' F' H' (g1.trans g3) (R1.up g3 M3) r3 q⟩
def dAppend : DM := fun x ds μ Q => match x, ds with
  | .ob k, [y] => match μ[k]? with
    | some (.lst xs) => xs.length < sizeLine ∧ Q .non (μ.set k (.lst (xs ++ [y])))
    | _ => False
  | _, _ => False
theorem sim_append : SimM K rAppend dAppend := fun Z as F H μ v d vs ds Q Q' M r rs z k => by
  unfold dAppend at z
  split at z
  · rename_i n y
    cases r with
    | ob q =>
      rename_i a
      match vs, rs with
      | _, .cons ry .nil =>
        cases e : μ[n]? with
        | none => rw [e] at z; exact z.elim
        | some m =>
          rw [e] at z
          obtain ⟨b, hb, w⟩ := M.at_ n m e
          obtain rfl := Option.some.inj (q.symm.trans hb)
          cases m with
          | lst xs =>
            obtain ⟨us, e1, e2⟩ := w
            refine ⟨a, us, _, rfl, rfl, e1, by rw [e2.len]; exact z.1, ?_⟩
            exact k _ _ _ as F _ Gr.refl (M.put (m := .lst (xs ++ [y])) q ⟨_, upd_same, e2.append (.cons ry .nil)⟩) .non z.2
          | _ => exact z.elim
  · exact z.elim
def dExtend : DM := fun x ds μ Q => match x, ds with
  | .ob k, [y] => match μ[k]?, viewT μ y with
    | some (.lst xs), .lst ys => xs.length + ys.length ≤ sizeLine ∧ Q .non (μ.set k (.lst (xs ++ ys)))
    | _, _ => False
  | _, _ => False
theorem sim_extend : SimM K rExtend dExtend := fun Z as F H μ v d vs ds Q Q' M r rs z k => by
  unfold dExtend at z
  split at z
  · rename_i n y
    cases r with
    | ob q =>
      rename_i a
      match vs, rs with
      | _, .cons ry .nil =>
        cases e : μ[n]? with
        | none => rw [e] at z; exact z.elim
        | some m =>
          rw [e] at z
          obtain ⟨b, hb, w⟩ := M.at_ n m e
          obtain rfl := Option.some.inj (q.symm.trans hb)
          cases m with
          | lst xs =>
            obtain ⟨us, e1, e2⟩ := w
            cases ey : viewT μ y with
            | lst ys =>
              rw [ey] at z
              obtain ⟨c, ws, rfl, e3, e4⟩ := viewT_lst M ry ey
              refine ⟨a, c, us, ws, rfl, rfl, e1, e3, by rw [e2.len, e4.len]; exact z.1, ?_⟩
              exact k _ _ _ as F _ Gr.refl (M.put (m := .lst (xs ++ ys)) q ⟨_, upd_same, e2.append e4⟩) .non z.2
            | _ => rw [ey] at z; exact z.elim
          | _ => exact z.elim
  · exact z.elim
/-- the first place of y -/
def dindex (ds : List D) (y : D) : Option Nat := ds.findIdx? fun e => deqv e y
def dIndex : DM := fun x ds μ Q => match view μ x, ds with
  | .lst xs, [y] => (dflat y && xs.all dflat) = true ∧ (match dindex xs y with
    | some j => Q (.int (j : Nat)) μ
    | none => False)
  | _, _ => False
theorem mt_indexA {X : Cx} (hK : X.K = K) : MtR X "list.index" (rIndex K) := hK ▸ mt_index
theorem sim_index : SimM K (rIndex K) dIndex := fun Z as F H μ v d vs ds Q Q' M r rs z k => by
  unfold dIndex at z
  split at z
  · rename_i xs y e
    obtain ⟨a, us, rfl, q, x⟩ := view_lst M r e
    match vs, rs with
    | _, .cons (v := vy) ry .nil =>
      obtain ⟨fl, z⟩ := z
      rw [Bool.and_eq_true] at fl
      have lay := fl.2
      cases hj : dindex xs y with
      | none => rw [hj] at z; exact z.elim
      | some j =>
        rw [hj] at z
        unfold dindex at hj
        rw [List.findIdx?_eq_some_iff_getElem] at hj
        obtain ⟨h1, h2, h3⟩ := hj
        obtain ⟨w, w1, w2⟩ := x.get (List.getElem?_eq_getElem h1)
        have fx : ∀ {i : Nat} {d : D}, xs[i]? = some d → dflat d = true := fun {i d} h => List.all_eq_true.mp lay d (List.mem_of_getElem? h)
        refine ⟨a, us, vy, j, w, rfl, rfl, q, flat_rep ry fl.1, flat_all x fl.2, w1, ?_, fun m w' hm hw' => ?_, k _ _ μ as F H Gr.refl M (.int _) z⟩
        · rw [flat_eqV w2 ry (fx (List.getElem?_eq_getElem h1)) fl.1]
          exact h2
        · obtain ⟨d', d1, d2⟩ := x.get' hw'
          rw [flat_eqV d2 ry (fx d1) fl.1]
          have hlt : m < xs.length := (List.getElem?_eq_some_iff.mp d1).1
          have := h3 m hm
          rw [List.getElem?_eq_getElem hlt] at d1
          cases d1
          simpa using this
  · exact z.elim
/-! ### methods of texts -/
def uM1 (dm : DM) (uo ue : DTE) : DTE := fun ρ μ Q E => uo ρ μ (fun x μ1 => (match x with | .str _ => True | _ => False) ∧ ue ρ μ1 (fun y μ2 => dm x [y] μ2 Q) E) E
theorem sim_m1 {r : V → List V → Hp → VK → Prop} {dm : DM} {to te : TE} {uo ue : DTE} (s : SimM K r dm) (o : Sim K Ex to uo) (a : Sim K Ex te ue) : Sim K Ex (tM1 r to te) (uM1 dm uo ue) := fun Z as F H σ ρ μ Q E Q' R X h k =>
  o Z as F H σ ρ μ _ E _ R X h fun v d μ1 as1 F1 H1 g1 R1 r1 h1 => ⟨(by cases r1 <;> first | exact ⟨_, rfl⟩ | exact h1.1.elim), a Z as1 F1 H1 σ ρ μ1 _ E _ R1 (X.up g1) h1.2 fun v2 d2 μ2 as2 F2 H2 g2 R2 r2 h2 =>
    s Z as2 F2 H2 μ2 v d [v2] [d2] Q Q' R2.mm (r1.up g2) (.cons r2 .nil) h2 fun v d' μ' as' F' H' g3 M3 r3 q => k v d' μ' as' F' H' ((g1.trans g2).trans g3) (R2.up g3 M3) r3 q⟩
def rSplit : V → List V → Hp → VK → Prop := fun x xs H Q => ∃ a b, x = .str a ∧ xs = [.str b] ∧ (b.length == 0) = false ∧ a.length + 2 ≤ sizeLine ∧ rNewStrs (Txt.split a b) H Q
def dSplit : DM := fun x ds μ Q => match x, ds with
  | .str a, [.str b] => (b.length == 0) = false ∧ a.length + 2 ≤ sizeLine ∧ Q (.lst ((Txt.split a b).map .str)) μ
  | _, _ => False
theorem sim_split : SimM K rSplit dSplit := fun Z as F H μ v d vs ds Q Q' M r rs z k => by
  unfold dSplit at z
  split at z
  · rename_i wa wb
    cases r
    match vs, rs with
    | _, .cons (.str _) .nil =>
      refine ⟨_, _, rfl, rfl, z.1, z.2.1, fun p np => ?_⟩
      have g := Gr.upd (as := as) (o := .lst ((Txt.split wa wb).map V.str)) (M.newF np)
      exact k _ _ μ as _ _ g (M.addF np) (.lst upd_same (rep_strs _)) z.2.2
  · exact z.elim
def rJoin (K : PySem.W.Frag) : V → List V → Hp → VK → Prop := fun x xs H Q => ∃ a p, ∃ ys : List Str, x = .str a ∧ xs = [.ref p] ∧ (SqL K H p (ys.map V.str) ∨ SqT K H p (ys.map V.str)) ∧ (ys.map (·.length)).sum + ys.length * a.length ≤ 16777216 ∧ Q (.str (Txt.join a ys)) H
def dJoin : DM := fun x ds μ Q => match x, ds with
  | .str a, [y] => ∃ ys : List Str, (view μ y = .lst (ys.map .str) ∨ view μ y = .tup (ys.map .str)) ∧ (ys.map (·.length)).sum + ys.length * a.length ≤ 16777216 ∧ Q (.str (Txt.join a ys)) μ
  | _, _ => False
theorem mt_joinA {X : Cx} (hK : X.K = K) : MtR X "str.join" (rJoin K) := hK ▸ mt_join
theorem sim_join : SimM K (rJoin K) dJoin := fun Z as F H μ v d vs ds Q Q' M r rs z k => by
  unfold dJoin at z
  split at z
  · cases r
    obtain ⟨ys, e, hz, z⟩ := z
    match vs, rs with
    | _, .cons ry .nil =>
      rcases e with e | e
      · obtain ⟨a, us, rfl, q, x⟩ := view_lst M ry e
        cases strs_rep x
        exact ⟨_, a, ys, rfl, rfl, .inl q, hz, k _ _ μ as F H Gr.refl M (.str _) z⟩
      · obtain ⟨a, us, rfl, q, x⟩ := view_tup M ry e
        cases strs_rep x
        exact ⟨_, a, ys, rfl, rfl, .inr q, hz, k _ _ μ as F H Gr.refl M (.str _) z⟩
  · exact z.elim
end
end DX
set_option Elab.async false
set_option linter.all false
set_option maxRecDepth 100000
set_option maxHeartbeats 4000000
namespace DX
open PySem PySem.Spec PyProof.Rows L2
/-! ### what was made within is frozen at the end -/
mutual
/-- names no object from n on -/
def cld (n : Nat) : D → Bool
  | .lst xs => cldL n xs
  | .tup xs => cldL n xs
  | .kt xs => cldL n xs
  | .kl xs => cldL n xs
  | .ins _ fs => cldF n fs
  | .exc _ _ _ fs => cldF n fs
  | .ob k => decide (k < n)
  | _ => true
def cldL (n : Nat) : List D → Bool
  | [] => true
  | x :: xs => cld n x && cldL n xs
def cldF (n : Nat) : List (Str × D) → Bool
  | [] => true
  | (_, x) :: xs => cld n x && cldF n xs
end
def cldK (n : Nat) : List (Key × D) → Bool
  | [] => true
  | (_, x) :: xs => cld n x && cldK n xs
def cldM (n : Nat) : M → Bool
  | .lst xs => cldL n xs
  | .ins _ fs => cldF n fs
  | .dic kvs => cldK n kvs
section
variable {K : PySem.W.Frag} {Z : Hp} {as as' as1 : List Addr} {F F' F1 H H' H1 : Hp}
mutual
theorem Rep.cut {bs : List Addr} {n : Nat} (hb : ∀ (k : Nat) (a : Addr), k < n → as[k]? = some a → bs[k]? = some a) : ∀ {v : V} {d : D}, Rep K as F v d → cld n d = true → Rep K bs F v d
  | _, _, .non, _ => .non
  | _, _, .bl b, _ => .bl b
  | _, _, .int b, _ => .int b
  | _, _, .str b, _ => .str b
  | _, _, .byt b, _ => .byt b
  | _, _, .lst h r, c => .lst h (RepL.cut hb r c)
  | _, _, .tup h r, c => .tup h (RepL.cut hb r c)
  | _, _, .kt h r, c => .kt h (RepL.cut hb r c)
  | _, _, .kl h r, c => .kl h (RepL.cut hb r c)
  | _, _, .ins h r, c => .ins h (RepF.cut hb r c)
  | _, _, .val v, _ => .val v
  | _, _, .ob h, c => .ob (hb _ _ (of_decide_eq_true c) h)
  | _, _, .exc0, _ => .exc0
  | _, _, .exc h r, c => .exc h (RepF.cut hb r c)
theorem RepL.cut {bs : List Addr} {n : Nat} (hb : ∀ (k : Nat) (a : Addr), k < n → as[k]? = some a → bs[k]? = some a) : ∀ {vs : List V} {ds : List D}, RepL K as F vs ds → cldL n ds = true → RepL K bs F vs ds
  | _, _, .nil, _ => .nil
  | _, _, .cons (d := d) (ds := ds) h r, c => by
    have c : (cld n d && cldL n ds) = true := c
    rw [Bool.and_eq_true] at c
    exact .cons (Rep.cut hb h c.1) (RepL.cut hb r c.2)
theorem RepF.cut {bs : List Addr} {n : Nat} (hb : ∀ (k : Nat) (a : Addr), k < n → as[k]? = some a → bs[k]? = some a) : ∀ {vs : List (Str × V)} {ds : List (Str × D)}, RepF K as F vs ds → cldF n ds = true → RepF K bs F vs ds
  | _, _, .nil, _ => .nil
  | _, _, .cons (d := d) (ds := ds) h r, c => by
    have c : (cld n d && cldF n ds) = true := c
    rw [Bool.and_eq_true] at c
    exact .cons (Rep.cut hb h c.1) (RepF.cut hb r c.2)
end
theorem RepK.cut {bs : List Addr} {n : Nat} (hb : ∀ (k : Nat) (a : Addr), k < n → as[k]? = some a → bs[k]? = some a) : ∀ {vs : List (Key × V)} {ds : List (Key × D)}, RepK K as F vs ds → cldK n ds = true → RepK K bs F vs ds
  | _, _, .nil, _ => .nil
  | _, _, .cons (d := d) (ds := ds) h r, c => by
    have c : (cld n d && cldK n ds) = true := c
    rw [Bool.and_eq_true] at c
    exact .cons (Rep.cut hb h c.1) (RepK.cut hb r c.2)
mutual
theorem Rep.cld {v : V} : ∀ {d : D}, Rep K as F v d → cld as.length d = true
  | _, .non => rfl
  | _, .bl b => rfl
  | _, .int b => rfl
  | _, .str b => rfl
  | _, .byt b => rfl
  | _, .lst h r => RepL.cld r
  | _, .tup h r => RepL.cld r
  | _, .kt h r => RepL.cld r
  | _, .kl h r => RepL.cld r
  | _, .ins h r => RepF.cld r
  | _, .val v => rfl
  | _, .ob h => decide_eq_true (List.getElem?_eq_some_iff.mp h).1
  | _, .exc0 => rfl
  | _, .exc h r => RepF.cld r
theorem RepL.cld : ∀ {vs : List V} {ds : List D}, RepL K as F vs ds → cldL as.length ds = true
  | _, _, .nil => rfl
  | _, _, .cons (d := d) (ds := ds) h r => by
    show (DX.cld as.length d && cldL as.length ds) = true
    rw [Rep.cld h, RepL.cld r]; rfl
theorem RepF.cld : ∀ {vs : List (Str × V)} {ds : List (Str × D)}, RepF K as F vs ds → cldF as.length ds = true
  | _, _, .nil => rfl
  | _, _, .cons (d := d) (ds := ds) h r => by
    show (DX.cld as.length d && cldF as.length ds) = true
    rw [Rep.cld h, RepF.cld r]; rfl
end
theorem RepK.cld : ∀ {vs : List (Key × V)} {ds : List (Key × D)}, RepK K as F vs ds → cldK as.length ds = true
  | _, _, .nil => rfl
  | _, _, .cons (d := d) (ds := ds) h r => by
    show (DX.cld as.length d && cldK as.length ds) = true
    rw [Rep.cld h, RepK.cld r]; rfl
theorem MAt.cld {a : Addr} {m : M} (h : MAt K as F H a m) : cldM as.length m = true := by
  cases m with
  | lst ds => obtain ⟨vs, e, r⟩ := h; exact r.cld
  | ins C gs => obtain ⟨dx, fs, e, r⟩ := h; exact r.cld
  | dic kvs => obtain ⟨ks, e, r⟩ := h; exact r.cld
theorem MAt.cut {bs : List Addr} {n : Nat} (hb : ∀ (k : Nat) (a : Addr), k < n → as[k]? = Option.some a → bs[k]? = Option.some a) {a : Addr} {m : M} (h : MAt K as F H a m) (c : cldM n m = true) : MAt K bs F H a m := by
  cases m with
  | lst ds => obtain ⟨vs, e, r⟩ := h; exact ⟨vs, e, r.cut hb c⟩
  | ins C gs => obtain ⟨dx, fs, e, r⟩ := h; exact ⟨dx, fs, e, r.cut hb c⟩
  | dic kvs => obtain ⟨ks, e, r⟩ := h; exact ⟨ks, e, r.cut hb c⟩
/-- each object below n: as it was, or naming none from n on -/
def stays (n : Nat) (μ0 μ : Mem) : Prop := n ≤ μ.length ∧ ∀ (k : Nat) (m : M), k < n → μ[k]? = some m → μ0[k]? = some m ∨ cldM n m = true
/-- the frozen heap with all objects from n on in it -/
def frz (F H : Hp) (bs : List Addr) : Hp := fun a => if a ∈ bs then H a else F a
theorem frz_in {bs : List Addr} {a : Addr} (h : a ∈ bs) : frz F H bs a = H a := if_pos h
theorem frz_out {bs : List Addr} {a : Addr} (h : a ∉ bs) : frz F H bs a = F a := if_neg h
/-- what was made from n on is frozen -/
theorem Mm.freeze {μ : Mem} (M : Mm K Z as F H μ) {n : Nat} (hn : n ≤ μ.length) (hc : ∀ (k : Nat) (m : DX.M), k < n → μ[k]? = some m → cldM n m = true) :
    Mm K Z (as.take n) (frz F H (as.drop n)) H (μ.take n) ∧ Same F (frz F H (as.drop n)) := by
  have sf : Same F (frz F H (as.drop n)) := fun b o e => by
    by_cases hb : b ∈ as.drop n
    · rw [M.fr b (List.mem_of_mem_drop hb)] at e; cases e
    · rw [frz_out hb]; exact e
  have nd := M.nd
  have split : as = as.take n ++ as.drop n := (List.take_append_drop n as).symm
  have ndd : (as.take n ++ as.drop n).Nodup := by rw [← split]; exact nd
  refine ⟨⟨fun b o e => ?_, by rw [List.length_take, List.length_take, M.len], nd.sublist (List.take_sublist _ _), fun a ha => ?_, fun k m e => ?_, fun a o e => ?_⟩, sf⟩
  · by_cases hb : b ∈ as.drop n
    · rw [frz_in hb] at e; exact e
    · rw [frz_out hb] at e; exact M.same _ _ e
  · have : a ∉ as.drop n := fun h => (List.nodup_append.mp ndd).2.2 a ha a h rfl
    rw [frz_out this]
    exact M.fr a (List.mem_of_mem_take ha)
  · have hk : k < n := by
      have := (List.getElem?_eq_some_iff.mp e).1
      rw [List.length_take] at this
      omega
    rw [List.getElem?_take_of_lt hk] at e
    obtain ⟨a, ha, x⟩ := M.at_ k m e
    have ha' : (as.take n)[k]? = some a := by rw [List.getElem?_take_of_lt hk]; exact ha
    refine ⟨a, ha', ?_⟩
    have y := x.up (as' := as) (F' := frz F H (as.drop n)) (H' := H) ⟨sf, fun _ _ e => e⟩ rfl
    exact y.cut (fun k a hk h => by rw [List.getElem?_take_of_lt hk]; exact h) (hc k m hk e)
  · obtain ⟨e1, e2, e3⟩ := M.hid a o e
    exact ⟨e1, by rw [frz_out fun h => e3 (List.mem_of_mem_drop h)]; exact e2, fun h => e3 (List.mem_of_mem_take h)⟩
/-- data with the objects from n on told by their content -/
def fz (μ : Mem) (n : Nat) : Nat → D → D
  | 0, d => d
  | f + 1, .ob k => if k < n then .ob k else match μ[k]? with
    | some (.lst ds) => .lst (ds.map (fz μ n f))
    | some (.ins C fs) => .ins C (fs.map fun p => (p.1, fz μ n f p.2))
    | _ => .ob k
  | f + 1, .lst ds => .lst (ds.map (fz μ n f))
  | f + 1, .tup ds => .tup (ds.map (fz μ n f))
  | _ + 1, d => d
theorem fz_rep {μ : Mem} (M : Mm K Z as F H μ) {n : Nat} (sf : Same F (frz F H (as.drop n))) : ∀ (f : Nat) {v : V} {d : D}, Rep K as F v d → Rep K as (frz F H (as.drop n)) v (fz μ n f d)
  | 0, v, d, r => r.up ⟨sf, fun _ _ e => e⟩
  | f + 1, v, d, r => by
    have up : Gr as F as (frz F H (as.drop n)) := ⟨sf, fun _ _ e => e⟩
    have all : ∀ {vs : List V} {ds : List D}, RepL K as F vs ds → RepL K as (frz F H (as.drop n)) vs (ds.map (fz μ n f)) := fun {vs ds} r => by
      induction ds generalizing vs with
      | nil => cases r; exact .nil
      | cons d ds ih => cases r with | cons h t => exact .cons (fz_rep M sf f h) (ih t)
    have allF : ∀ {vs : List (Str × V)} {ds : List (Str × D)}, RepF K as F vs ds → RepF K as (frz F H (as.drop n)) vs (ds.map fun p => (p.1, fz μ n f p.2)) := fun {vs ds} r => by
      induction ds generalizing vs with
      | nil => cases r; exact .nil
      | cons d ds ih => cases r with | cons h t => exact .cons (fz_rep M sf f h) (ih t)
    cases r with
    | lst e r => exact .lst (sf _ _ e) (all r)
    | tup e r => exact .tup (sf _ _ e) (all r)
    | ob q =>
      rename_i k a
      show Rep K as (frz F H (as.drop n)) (.ref a) (if k < n then .ob k else match μ[k]? with
        | some (.lst ds) => .lst (ds.map (fz μ n f))
        | some (.ins C fs) => .ins C (fs.map fun p => (p.1, fz μ n f p.2))
        | _ => .ob k)
      by_cases hk : k < n
      · rw [if_pos hk]; exact .ob q
      · rw [if_neg hk]
        have hin : a ∈ as.drop n := by
          refine List.mem_of_getElem? (i := k - n) ?_
          rw [List.getElem?_drop]
          rw [show n + (k - n) = k by omega]
          exact q
        cases z : μ[k]? with
        | none => exact .ob q
        | some m =>
          obtain ⟨b, hb, y⟩ := M.at_ k m z
          obtain rfl := Option.some.inj (q.symm.trans hb)
          cases m with
          | lst ds => obtain ⟨vs, e1, e2⟩ := y; exact .lst (by rw [frz_in hin]; exact e1) (all e2)
          | ins C fs => obtain ⟨dx, vs, e1, e2⟩ := y; exact .ins (by rw [frz_in hin]; exact e1) (allF e2)
          | dic kv => exact .ob q
    | non => exact .non
    | bl b => exact .bl b
    | int b => exact .int b
    | str b => exact .str b
    | byt b => exact .byt b
    | kl e r => exact Rep.up up (.kl e r)
    | kt e r => exact Rep.up up (.kt e r)
    | ins e r => exact Rep.up up (.ins e r)
    | val v => exact .val v
    | exc0 => exact .exc0
    | exc e r => exact Rep.up up (.exc e r)
end
end DX
set_option Elab.async false
set_option linter.all false
set_option maxRecDepth 100000
set_option maxHeartbeats 2000000
/-! own operators, static methods, an own class called with a star -/
namespace Vx
open PySem PySem.Spec PyProof.Rows L2
section
variable {P : Program} {w : World} {K : PySem.W.Frag} {mg : Str → Option Value} {base : Heap} {CX : CXT} {k : Nat} {f : Addr} {fd : FuncData} {ps : List Str} {sp : Sp}
theorem fnR (F : FnOk P w K mg base CX k f fd ps sp) (hb : L2.Binds K fd ps []) : FnR P w K mg base CX k f sp := by
  intro A outer s H us vs Q E hr e0 r hsp
  have hl := F.len _ _ _ _ hsp
  have KX : K.In s.heap := e0.mod.kin.keeps fun b o e => (e0.bs b o e).1
  refine F.run A outer s H ⟨us, []⟩ us vs Q E hr e0 ?_ r hsp
  have := hb s us KX (by rw [List.append_nil, ← r.length]; exact hl)
  simpa using this
end
section
variable {X : Cx} {CX : CXT} {k : Nat} {C f : Addr} {sp : Sp} {E : XK} {pins : List (Addr × Obj)} {σ : L2.St} {H : Hp} {s : Shared} {Q : VK}
theorem cmpBack_of {v : Value} {s' : Shared} (h : EP X pins σ Q v s') : PySem.W.CmpBack (EP X pins σ Q) v s' := by
  cases v with
  | notImplemented =>
    obtain ⟨v', H', I', r, q⟩ := h
    cases v' with
    | int i => obtain ⟨t, e⟩ := r; cases e
    | str i => obtain ⟨t, e⟩ := r; cases e
    | byt i => obtain ⟨t, e⟩ := r; cases e
    | flt i => obtain ⟨t, e⟩ := r; cases e
    | non => cases r
    | bl b => cases r
    | ref a => cases r
    | ty n => cases r
  | _ => exact h
theorem call_cmp {us : List Value} {vs : List V} (F : FnR X.prog X.w X.K X.mg X.base CX k f sp) (hr : Room k X.A) (hx : Passes CX X E) (I : L2.Inv X pins σ H s) (r : Vals vs us) (h : sp vs H Q E) :
    wpAny (model X.prog X.w) X.A (call (.ref f) us) (PySem.W.CmpBack (EP X pins σ Q)) X.xe s :=
  wpAny_mono (wpAny_call (run_fnR F hr hx I r h)) (fun _ _ z => cmpBack_of z) fun _ _ z => z
/-- o op y by the own method of o's class; y of the same class, or an int -/
def rOwn (C : Addr) (sp : Sp) (E : XK) : R2 := fun x y H Q => (∃ a dx fs, x = .ref a ∧ H a = some (.ins C dx fs)) ∧ ((∃ b dy gs, y = .ref b ∧ H b = some (.ins C dy gs)) ∨ ∃ i, y = .int i) ∧ sp [x, y] H Q E
/-- what the text says of an operator of the class at C -/
structure OpF (K : PySem.W.Frag) (C f : Addr) (op : Operator) : Prop where
  sf : PySem.W.selfFirst K C = true
  at_ : PySem.W.findIn K (.ref C) (PySem.dunder op.info.2) = some (some (.ref f))
  fn : PySem.W.isFn K (.ref f) = true
  rf : ∃ rc, PySem.W.findIn K (.ref C) (PySem.dunderR op.info.2) = some rc ∧ (rc = none ∨ ∃ g : Addr, rc = some (.ref g))
  i1 : ∃ fo, PySem.W.findIn K (.type "int") (PySem.dunder op.info.2) = some fo
  i2 : ∃ ro, PySem.W.findIn K (.type "int") (PySem.dunderR op.info.2) = some ro
  sub : PySem.W.subIn K (.type "int") (.ref C) = some false
theorem op_own {op : Operator} (O : OpF X.K C f op) (F : FnR X.prog X.w X.K X.mg X.base CX k f sp) (hr : Room k X.A) (hx : Passes CX X E) : OpR X (binaryOp op) (rOwn C sp E) := by
  intro pins s σ H x y v u Q I rx ry hq
  obtain ⟨⟨a, dx, fs, rfl, ha⟩, hy, hsp⟩ := hq
  have ev : v = Value.ref a := rx
  have cl := call_cmp F hr hx I (us := [v, u]) (vs := [V.ref a, y]) (.cons rx (.cons ry .nil)) hsp
  subst ev
  obtain ⟨mA, J, _⟩ := ins_get I.hok ha
  obtain ⟨od, J, _⟩ := J.look
  obtain ⟨m, hF⟩ := I.fr
  rcases hy with ⟨b, dy, gs, rfl, hb⟩ | ⟨i, rfl⟩
  · have eu : u = Value.ref b := ry
    subst eu
    obtain ⟨mB, J', _⟩ := ins_get I.hok hb
    obtain ⟨od', J', _⟩ := J'.look
    exact PySem.W.binop_K hF I.ok.mod.kin J J'.type O.sf O.at_ O.fn cl
  · obtain ⟨t, rfl⟩ := ry
    obtain ⟨rc, r1, r2⟩ := O.rf
    obtain ⟨fo, i1⟩ := O.i1
    obtain ⟨ro, i2⟩ := O.i2
    exact PySem.W.ksp_binT (T := "int") hF I.ok.mod.kin J rfl O.sf O.at_ O.fn r1 r2 i1 i2 O.sub cl
/-- o cmp y by the own method, y of the same class -/
def rCmp (C : Addr) (sp : Sp) (E : XK) : R2 := fun x y H Q => (∃ a dx fs, x = .ref a ∧ H a = some (.ins C dx fs)) ∧ (∃ b dy gs, y = .ref b ∧ H b = some (.ins C dy gs)) ∧ sp [x, y] H Q E
theorem op_cmpOwn {op : CmpOp} (hc : ∀ v u, compareOp op v u = richCompare op v u) (nf : PySem.W.notFirst X.K C (.ref C) = true) (at_ : PySem.W.findIn X.K (.ref C) (cmpInfo op).2.1 = some (some (.ref f))) (fn : PySem.W.isFn X.K (.ref f) = true)
    (F : FnR X.prog X.w X.K X.mg X.base CX k f sp) (hr : Room k X.A) (hx : Passes CX X E) : OpR X (compareOp op) (rCmp C sp E) := by
  intro pins s σ H x y v u Q I rx ry hq
  obtain ⟨⟨a, dx, fs, rfl, ha⟩, ⟨b, dy, gs, rfl, hb⟩, hsp⟩ := hq
  have ev : v = Value.ref a := rx
  have eu : u = Value.ref b := ry
  have cl := call_cmp F hr hx I (us := [v, u]) (vs := [V.ref a, V.ref b]) (.cons rx (.cons ry .nil)) hsp
  subst ev eu
  obtain ⟨mA, J, _⟩ := ins_get I.hok ha
  obtain ⟨od, J, _⟩ := J.look
  obtain ⟨mB, J', _⟩ := ins_get I.hok hb
  obtain ⟨od', J', _⟩ := J'.look
  obtain ⟨m, hF⟩ := I.fr
  rw [hc]
  exact PySem.W.cmp_K hr.units0 hF I.ok.mod.kin J J'.type nf at_ fn cl
/-- x in o by the own method -/
def rInOwn (C : Addr) (sp : Sp) (E : XK) (neg : Bool) : R2 := fun x y H Q => (∃ a dx fs, y = .ref a ∧ H a = some (.ins C dx fs)) ∧ sp [y, x] H (fun v H' => ∃ b, v = .bl b ∧ Q (.bl (if neg then !b else b)) H') E
theorem op_inOwn (at_ : PySem.W.findIn X.K (.ref C) "__contains__" = some (some (.ref f))) (fn : PySem.W.isFn X.K (.ref f) = true)
    (F : FnR X.prog X.w X.K X.mg X.base CX k f sp) (hr : Room k X.A) (hx : Passes CX X E) : OpR X (compareOp .In) (rInOwn C sp E false) := by
  intro pins s σ H x y v u Q I rx ry hq
  obtain ⟨⟨a, dx, fs, rfl, ha⟩, hsp⟩ := hq
  have eu : u = Value.ref a := ry
  have cl := wpAny_call (run_fnR (us := [u, v]) (vs := [V.ref a, x]) F hr hx I (.cons ry (.cons rx .nil)) hsp)
  subst eu
  obtain ⟨mA, J, _⟩ := ins_get I.hok ha
  obtain ⟨od, J, _⟩ := J.look
  obtain ⟨m, hF⟩ := I.fr
  refine PySem.W.in_K hF I.ok.mod.kin J at_ fn (wpAny_mono cl (fun r s' z => ?_) fun _ _ z => z)
  obtain ⟨v', H', I', rv, b, rfl, q⟩ := z
  have er : r = Value.bool b := rv
  subst er
  exact wpAny_truthy_bool ⟨.bl b, H', I', rfl, q⟩
end
/-! static methods -/
structure SMet (K : PySem.W.Frag) (C : Addr) (mc : Value) (m : Str) (p g : Addr) : Prop where
  at_ : PySem.W.findCls K (.ref C) mc m = some (.get (.builtin "staticmethod.__get__") (.ref p) .none (.ref C))
  rc : ∃ rest, PySem.W.recIn K p "staticmethod" = some (.ref g :: rest)
  kp : PySem.W.keepIn K (.ref g) = true
def tSMeth (C : Addr) (sp : Sp) (E : XK) (ta : TE) (t : TA) : TE := fun σ H Q => ta σ H fun x H1 => x = .ref C ∧ t σ H1 fun vs H2 => sp vs H2 Q E
section
variable {X : Cx} {CX : CXT} {k : Nat} {C p g : Addr} {mc : Value} {sp : Sp} {E : XK} {o e : Expr} {es : List Expr} {m : Str} {pos apos : Pos} {ta : TE} {t : TA} {pl : Sem Bool}
theorem pe_smeth (he : PE X o ta) (r : ClX.CRead X.K C mc) (c : SMet X.K C mc m p g) (F : FnR X.prog X.w X.K X.mg X.base CX k g sp) (hr : Room k X.A) (hx : Passes CX X E) (ha : PA X (e :: es) t)
    (hst : starEach (e :: es) X.env = (false, eval e X.env) :: starEach es X.env := by rfl) (hpl : (backTo pos (starEach es X.env)).any (·.1) = false := by rfl)
    (ht : eval (.Call (.Attribute o m apos) (e :: es) [] pos) X.env = (do
      let ov ← eval o X.env
      standAt apos.atName
      let (f, first) ← holding [ov] (getMethod ov m pl)
      callWith pos f first (backTo pos (starEach (e :: es) X.env)) (backToKw pos (keywordEach [] X.env))) := by rfl) :
    PE X (.Call (.Attribute o m apos) (e :: es) [] pos) (tSMeth C sp E ta t) := by
  refine ⟨fun pins s σ H Q I h => ?_⟩
  refine PySem.W.methodCall_KW (pl := pl) (thn (he.run pins s σ H _ I h) fun u s1 ⟨x, H1, I1, rx, ex, q⟩ => ?_) ht
  subst ex
  obtain rfl : u = Value.ref C := rx
  obtain ⟨rest, hp⟩ := c.rc
  refine PySem.W.method_cls I1.kIn r.ga (PySem.W.cls_bind I1.kIn r.rd c.at_ (wpAny_call (PySem.W.sm_get (s := { s1 with toks := s1.toks + 1 }) I1.kIn hp (PySem.W.handed_on rfl ?_))))
  have I2 : L2.Inv X pins σ H1 { s1 with toks := s1.toks + 1 } := I1.tok _
  refine PySem.W.callWith_K (h₀ := X.base) I2.ok.mod.kin c.kp (thn (ha.run pos pins _ σ H1 _ I2 q) fun us s3 ⟨vs, H2, I3, rv, q2⟩ => ⟨I3.kIn, ?_⟩) hst hpl
  exact wpAny_call (run_fnR F hr hx I3 rv q2)
end
/-! C(*xs) -/
section
variable {X : Cx} {CX : CXT} {k : Nat} {f C : Addr} {sp : Sp} {E : XK} {x : Str} {e : Expr} {te : TE} {p pos sp_ : Pos}
def tMakeS (K : PySem.W.Frag) (C : Addr) (sp : Sp) (E : XK) (te : TE) : TE := fun σ H Q => te σ H fun y H1 => ∃ a xs, y = V.ref a ∧ (SqT K H1 a xs ∨ SqL K H1 a xs) ∧ ∀ x dx, H1 x = Option.none → H1 dx = Option.none → dx ≠ x →
  sp (V.ref x :: xs) (upd (upd H1 dx (.own x)) x (.ins C dx [])) (fun v H2 => v = .non ∧ Q (.ref x) H2) E
theorem pe_makeS (M : Mk X.K C f) (F : FnR X.prog X.w X.K X.mg X.base CX k f sp) (hr : Room (k + 1) X.A) (hg : Gl X x) (hm : X.mg x = some (.ref C)) (hx : Passes CX X E) (he : PE X e te) (hd : (x == ("__debug__" : Str)) = false := by decide)
    (hst : starEach [.Starred e sp_] X.env = [(true, eval e X.env)] := by rfl) :
    PE X (.Call (.Name x p) [.Starred e sp_] [] pos) (tMakeS X.K C sp E te) := by
  refine ⟨fun pins s σ H Q I h => ?_⟩
  refine wpAny_Call_Name_kw (ld_glob I hg hm ?_ hd)
  refine PySem.W.callWith_S (h₀ := X.base) I.ok.mod.kin M.kp (thn (he.run pins s σ H _ I h) fun v s1 ⟨y, H1, I1, ry, a, xs, ey, hxs, q⟩ => ?_) hst
  subst ey
  obtain rfl : v = Value.ref a := ry
  exact StX.star_any I1 hxs fun us s2 I2 rv => ⟨I2.kIn, StX.run_makeR M F hr hx I2 rv q⟩
def tMakeZ (C : Addr) (sp : Sp) (E : XK) : TE := fun _ H Q => ∀ x dx, H x = Option.none → H dx = Option.none → dx ≠ x →
  sp [V.ref x] (upd (upd H dx (.own x)) x (.ins C dx [])) (fun v H2 => v = .non ∧ Q (.ref x) H2) E
end
end Vx
set_option Elab.async false
set_option linter.all false
set_option maxRecDepth 100000
set_option maxHeartbeats 2000000
/-! own errors: a base's __init__ said by the base's name; isinstance of what was caught; makings that may raise, within a try -/
namespace Vx
open PySem PySem.Spec PyProof.Rows L2
/-- the class at D, above an own error, whose __init__ is ValueError's -/
structure UpC (K : PySem.W.Frag) (D : Addr) (mc : Value) : Prop where
  rd : ClX.CRead K D mc
  ini : PySem.W.findCls K (.ref D) mc "__init__" = some (.val (.builtin "ValueError.__init__"))
def tUp (K : PySem.W.Frag) (D : Addr) (ta : TE) (t : TA) : TE := fun σ H Q => ta σ H fun x H1 => x = .ref D ∧ tVeI K t σ H1 Q
section
variable {X : Cx} {D : Addr} {mc : Value} {o e : Expr} {es : List Expr} {pos apos : Pos} {ta : TE} {t : TA} {pl : Sem Bool}
theorem pe_up (hO : PE X o ta) (U : UpC X.K D mc) (hA : PA X (e :: es) t) (h1 : starEach (e :: es) X.env = (false, eval e X.env) :: starEach es X.env := by rfl) (h2 : (backTo pos (starEach es X.env)).any (·.1) = false := by rfl)
    (hW : eval (.Call (.Attribute o "__init__" apos) (e :: es) [] pos) X.env = (do
      let ov ← eval o X.env
      standAt apos.atName
      let (f, first) ← holding [ov] (getMethod ov "__init__" pl)
      callWith pos f first (backTo pos (starEach (e :: es) X.env)) (backToKw pos (keywordEach [] X.env))) := by rfl) : PE X (.Call (.Attribute o "__init__" apos) (e :: es) [] pos) (tUp X.K D ta t) := by
  refine ⟨fun pn s σ H Q I h => PySem.W.methodCall_KW (pl := pl) (thn (hO.run pn s σ H _ I h) fun u s1 hh => ?_) hW⟩
  obtain ⟨x, H1, I1, rx, ex, q⟩ := hh
  subst ex
  obtain rfl : u = Value.ref D := rx
  refine PySem.W.method_cls I1.kIn U.rd.ga (PySem.W.cls_value I1.kIn U.rd.rd U.ini rfl ?_)
  refine PyProof.Rows.callWith_method1 (thn (hA.run pos pn _ σ H1 _ (I1.tok _) q) fun us s2 hh => ?_) h1 h2
  obtain ⟨vs, H2, I2, r2, a, C, ws, ev, hl, T, ea, q2⟩ := hh
  subst ev
  cases r2 with
  | @cons _ u0 _ ur ra rb =>
    obtain rfl : u0 = Value.ref a := ra
    exact oinit_ok T I2 ea (by rw [← Paired.length rb, sizeLine_eq]; omega) fun s3 J => ⟨.non, H2, J, rfl, q2⟩
end
/-! isinstance(e, c), e a caught error with its dict -/
structure ExcX (K : PySem.W.Frag) (C : Addr) : Prop where
  cl : (PySem.W.clsIn K C).isSome = true
  ga : PySem.W.findIn K (.ref C) "__getattribute__" = some (some (.builtin "BaseException.__getattribute__"))
  gt : PySem.W.findIn K (.ref C) "__getattr__" = some none
  sb : PySem.W.subIn K (.ref C) (.type "BaseException") = some true
  ac : PySem.W.findIn K (.ref C) "__class__" = some (some (.builtin "object.__class__"))
  gn : PySem.W.specialIn K (.builtin "object.__class__") "__get__" = some (some (.builtin "getset_descriptor.__get__"))
  tk : PySem.W.takesIn K (.builtin "object.__class__") = some true
  mo : PySem.W.mroIn K C (.type "object") = some true
def rIsX (K : PySem.W.Frag) (C a : Addr) (cls : Value) (d : Option Addr) : List V → Hp → VK → Prop := fun xs H Q => cls = .ref C ∧ ∃ (dd : Addr) (fs : List (Str × V)) (c : V) (cv : Value) (b : Bool), d = some dd ∧ H dd = some (.xd fs) ∧ xs = [.ref a, c] ∧ (∀ u, RelV c u → u = cv) ∧ PySem.W.kitOne K (.ref C) cv = some b ∧ Q (.bl b) H
theorem call_isX {X : Cx} {a C : Addr} {oe : Obj} {cls : Value} {d : Option Addr} {pn : List (Addr × Obj)} (T : ExcX X.K C) (hz : Zc cls d oe) (hf : ∃ vs, oe.data = .fields vs) : CallR (X.suite a ((a, oe) :: pn)) (.builtin "isinstance") (rIsX X.K C a cls d) := by
  intro pins s σ H xs us Q I r h
  obtain ⟨ec, dd, fs, c, cv, b, ed, hd, ex, hcv, e, q⟩ := h
  subst ec ed ex
  cases r with
  | cons rx rr =>
    cases rr with
    | cons rt rn =>
      cases rn
      cases rx
      obtain rfl := hcv _ rt
      obtain ⟨hget, _⟩ := I.pin (a, oe) (List.mem_append.mpr (.inl List.mem_cons_self))
      obtain ⟨vs, hv⟩ := hf
      have hx : ObjOk X.prog X.w H s.heap dd (.xd fs) := I.hok dd _ hd
      obtain ⟨mA, hns, _⟩ := hx
      obtain ⟨od, ho, _⟩ := lookIn_ns hns
      have J : PySem.W.InstAt s.heap a oe C (some od) := ⟨hget, hz.1, by unfold PySem.W.notCls; rw [hv] <;> rfl, by rw [hz.2]; exact ho⟩
      exact PySem.W.kia_one (PySem.W.kitx_exc T.cl T.ga T.gt T.sb T.ac T.gn T.tk T.mo) I.kIn J e (fun z => nomatch z) fun tk => ⟨.bl b, H, I.kept (t' := tk) fun _ _ z => z, rfl, q⟩
/-! makings and static calls that may raise, the wish at the caller's slots -/
section
variable {X : Cx} {CX : CXT} {k n : Nat} {f C : Addr} {fd : FuncData} {ps ks : List Str} {sp : Sp} {E : L2.St → XK} {x : Str} {p pos : Pos} {e : Expr} {es : List Expr} {kws : List Keyword} {t tk : TA} {g : List Value → List Value → List Value} {gV : List V → List V → List V}
def tMakeNS (C : Addr) (n m : Nat) (sp : Sp) (gV : List V → List V → List V) (E : L2.St → XK) (t tk : TA) : TE := fun σ H Q => t σ H fun vs H1 => tk σ H1 fun zs H2 => vs.length = n ∧ zs.length = m ∧
  ∀ y dy, H2 y = none → H2 dy = none → dy ≠ y → sp (gV (.ref y :: vs) zs) (upd (upd H2 dy (.own y)) y (.ins C dy [])) (fun v H3 => v = .non ∧ Q (.ref y) H3) (E σ)
theorem run_makeNS {pn : List (Addr × Obj)} {σ : L2.St} {H : Hp} {s : Shared} {Q : VK} {us ws : List Value} {vs zs : List V} (M : Mk X.K C f) (F : FnOk X.prog X.w X.K X.mg X.base CX k f fd ps sp) (hr : Room (k + 1) X.A) (hb : KBn X.K fd ps (n + 1) ks g gV)
    (hx : PassesAt CX X σ (E σ)) (I : L2.Inv X pn σ H s) (ru : Vals vs us) (rw_ : Vals zs ws) (e1 : vs.length = n) (e2 : zs.length = ks.length)
    (h : ∀ y dy, H y = none → H dy = none → dy ≠ y → sp (gV (.ref y :: vs) zs) (upd (upd H dy (.own y)) y (.ins C dy [])) (fun v H3 => v = .non ∧ Q (.ref y) H3) (E σ)) : wpAny (model X.prog X.w) X.A (call (.ref C) us (ks.zip ws)) (EP X pn σ Q) X.xe s := by
  have J : L2.Inv X pn σ _ _ := L2.Inv.made (C := C) I
  have r1 : Vals (V.ref (s.heap.objs.size + 1) :: vs) (Value.ref (s.heap.objs.size + 1) :: us) := Paired.cons rfl ru
  have z1 : (Value.ref (s.heap.objs.size + 1) :: us).length = n + 1 := r1.length.symm.trans (congrArg (· + 1) e1)
  have z2 : ws.length = ks.length := rw_.length.symm.trans e2
  have hq := h (s.heap.objs.size + 1) s.heap.objs.size (I.hok.fresh (Nat.le_succ _)) (I.hok.fresh Nat.le.refl) (Nat.ne_of_lt (Nat.lt_succ_self _))
  have run := F.run _ X.stack _ _ ⟨Value.ref (s.heap.objs.size + 1) :: us, ks.zip ws⟩ (g (Value.ref (s.heap.objs.size + 1) :: us) ws) _ _ (E σ) (hr.make C us (ks.zip ws)) (J.env0.make C us (ks.zip ws)) (hb.to _ _ ws J.kIn z1 z2) (hb.rel r1 rw_) hq
  refine wpAny_call (make_map (f := f) I.kIn M.makes M.init (beq_iff_eq.mp M.fn) (codeAny_mono run fun r s2 z => ?_))
  match r, z with
  | .error er, z => exact hx pn _ _ er s2 J z
  | .ok (.ret u), z =>
    obtain ⟨v, H3, J3, rv, ev, q⟩ := J.after z
    subst ev
    exact ⟨rv, .ref (s.heap.objs.size + 1), H3, J3, rfl, q⟩
theorem pe_makeNS (M : Mk X.K C f) (F : FnOk X.prog X.w X.K X.mg X.base CX k f fd ps sp) (hr : Room (k + 1) X.A) (hg : Gl X x) (hm : X.mg x = some (.ref C)) (hb : KBn X.K fd ps (n + 1) ks g gV) (hx : ∀ σ, PassesAt CX X σ (E σ)) (hA : PA X (e :: es) t) (hK : PK X kws tk)
    (h1 : (backToKw pos (keywordEach kws X.env)).all (·.1.isSome) = true := by rfl) (h2 : (backToKw pos (keywordEach kws X.env)).filterMap (·.1) = ks := by rfl) (h3 : (x == ("__debug__" : Str)) = false := by decide)
    (h4 : starEach (e :: es) X.env = (false, eval e X.env) :: starEach es X.env := by rfl) (h5 : ((backTo pos (starEach (e :: es) X.env)).any (·.1) || (backToKw pos (keywordEach kws X.env)).any (·.1.isNone)) = false := by rfl) :
    PE X (.Call (.Name x p) (e :: es) kws pos) (tMakeNS C n ks.length sp gV E t tk) := by
  refine ⟨fun pn s σ H Q I h => wpAny_Call_Name_kw (ld_glob I hg hm ?_ h3)⟩
  refine PySem.W.callWith_KW (h₀ := X.base) I.ok.mod.kin M.kp h1 (thn (hA.run pos pn s σ H _ I h) fun us s1 hh => ?_) h5 h4
  obtain ⟨vs, H1, I1, r1, q⟩ := hh
  refine thn (hK.run pos pn s1 σ H1 _ I1 q) fun ws s2 hh => ?_
  obtain ⟨zs, H2, I2, r2, l1, l2, q2⟩ := hh
  refine ⟨I2.kIn, ?_⟩
  rw [h2]
  exact run_makeNS M F hr hb (hx σ) I2 r1 r2 l1 l2 q2
end
section
variable {X : Cx} {CX : CXT} {k : Nat} {f C : Addr} {sp : Sp} {E : L2.St → XK}
theorem run_fnRS {pn : List (Addr × Obj)} {σ : L2.St} {H : Hp} {s : Shared} {Q : VK} {us : List Value} {vs : List V} (F : FnR X.prog X.w X.K X.mg X.base CX k f sp) (hr : Room k X.A) (hx : PassesAt CX X σ (E σ)) (I : L2.Inv X pn σ H s) (r : Vals vs us) (h : sp vs H Q (E σ)) :
    wpAny (model X.prog X.w) X.A (call (.ref f) us) (EP X pn σ Q) X.xe s := by
  refine wpAny_call (codeAny_mono (F X.A X.stack s H us vs Q (E σ) hr I.env0 r h) fun z s2 y => ?_)
  match z, y with
  | .error er, y => exact hx pn H s er s2 I y
  | .ok (.ret u), y => exact I.after y
theorem run_makeRS {pn : List (Addr × Obj)} {σ : L2.St} {H : Hp} {s : Shared} {Q : VK} {us : List Value} {vs : List V} (M : Mk X.K C f) (F : FnR X.prog X.w X.K X.mg X.base CX k f sp) (hr : Room (k + 1) X.A) (hx : PassesAt CX X σ (E σ)) (I : L2.Inv X pn σ H s) (r : Vals vs us)
    (h : ∀ y dy, H y = Option.none → H dy = Option.none → dy ≠ y → sp (V.ref y :: vs) (upd (upd H dy (.own y)) y (.ins C dy [])) (fun v H2 => v = .non ∧ Q (.ref y) H2) (E σ)) : wpAny (model X.prog X.w) X.A (call (.ref C) us) (EP X pn σ Q) X.xe s := by
  have J : L2.Inv X pn σ _ _ := L2.Inv.made (C := C) I
  have r1 : Vals (V.ref (s.heap.objs.size + 1) :: vs) (Value.ref (s.heap.objs.size + 1) :: us) := Paired.cons rfl r
  have hq := h (s.heap.objs.size + 1) s.heap.objs.size (I.hok.fresh (Nat.le_succ _)) (I.hok.fresh Nat.le.refl) (Nat.ne_of_lt (Nat.lt_succ_self _))
  refine wpAny_call (make_map (f := f) I.kIn M.makes M.init (beq_iff_eq.mp M.fn) (codeAny_mono (F _ X.stack _ _ (Value.ref (s.heap.objs.size + 1) :: us) _ _ (E σ) (hr.make C us []) (J.env0.make C us []) r1 hq) fun z s2 y => ?_))
  match z, y with
  | .error er, y => exact hx pn _ _ er s2 J y
  | .ok (.ret u), y =>
    obtain ⟨v, H3, J3, rv, ev, q⟩ := J.after y
    subst ev
    exact ⟨rv, .ref (s.heap.objs.size + 1), H3, J3, rfl, q⟩
def tMethE (C : Addr) (m : Str) (sp : Sp) (E : L2.St → XK) (ta : TE) (t : TA) : TE := fun σ H Q => ta σ H fun x H1 => ∃ a dx fs, x = .ref a ∧ H1 a = some (.ins C dx fs) ∧ fs.lookup m = Option.none ∧ t σ H1 fun vs H2 => sp (.ref a :: vs) H2 Q (E σ)
theorem pe_methE {o e : Expr} {es : List Expr} {m : Str} {pos apos : Pos} {ta : TE} {t : TA} {pl : Sem Bool} (hO : PE X o ta) (c : Cls X.K C) (hm : Meth X.K C m f) (F : FnR X.prog X.w X.K X.mg X.base CX k f sp) (hr : Room k X.A) (hx : ∀ σ, PassesAt CX X σ (E σ)) (hA : PA X (e :: es) t)
    (h1 : starEach (e :: es) X.env = (false, eval e X.env) :: starEach es X.env := by rfl) (h2 : (backTo pos (starEach es X.env)).any (·.1) = false := by rfl)
    (hW : eval (.Call (.Attribute o m apos) (e :: es) [] pos) X.env = (do
      let ov ← eval o X.env
      standAt apos.atName
      let (f, first) ← holding [ov] (getMethod ov m pl)
      callWith pos f first (backTo pos (starEach (e :: es) X.env)) (backToKw pos (keywordEach [] X.env))) := by rfl) : PE X (.Call (.Attribute o m apos) (e :: es) [] pos) (tMethE C m sp E ta t) := by
  refine ⟨fun pn s σ H Q I h => PySem.W.methodCall_KW (pl := pl) (thn (hO.run pn s σ H _ I h) fun u s1 hh => ?_) hW⟩
  obtain ⟨x, H1, I1, rx, a, dx, fs, ex, ea, l, q⟩ := hh
  subst ex
  obtain rfl : u = Value.ref a := rx
  refine getmeth_ok I1 ea c hm l (PySem.W.callWith_K (first := [.ref a]) (h₀ := X.base) I.ok.mod.kin hm.kp (thn (hA.run pos pn s1 σ H1 _ I1 q) fun us s2 hh => ?_) h1 h2)
  obtain ⟨vs, H2, I2, r, q2⟩ := hh
  exact ⟨I2.kIn, run_fnRS (us := .ref a :: us) (vs := .ref a :: vs) F hr (hx σ) I2 (.cons rfl r) q2⟩
def tSMethE (C : Addr) (sp : Sp) (E : L2.St → XK) (ta : TE) (t : TA) : TE := fun σ H Q => ta σ H fun x H1 => x = .ref C ∧ t σ H1 fun vs H2 => sp vs H2 Q (E σ)
theorem pe_smethE {o e : Expr} {es : List Expr} {m : Str} {g q : Addr} {mc : Value} {pos apos : Pos} {ta : TE} {t : TA} {pl : Sem Bool} (hO : PE X o ta) (cr : ClX.CRead X.K C mc) (c : SMet X.K C mc m q g) (F : FnR X.prog X.w X.K X.mg X.base CX k g sp) (hr : Room k X.A) (hx : ∀ σ, PassesAt CX X σ (E σ)) (hA : PA X (e :: es) t)
    (h1 : starEach (e :: es) X.env = (false, eval e X.env) :: starEach es X.env := by rfl) (h2 : (backTo pos (starEach es X.env)).any (·.1) = false := by rfl)
    (hW : eval (.Call (.Attribute o m apos) (e :: es) [] pos) X.env = (do
      let ov ← eval o X.env
      standAt apos.atName
      let (f, first) ← holding [ov] (getMethod ov m pl)
      callWith pos f first (backTo pos (starEach (e :: es) X.env)) (backToKw pos (keywordEach [] X.env))) := by rfl) : PE X (.Call (.Attribute o m apos) (e :: es) [] pos) (tSMethE C sp E ta t) := by
  refine ⟨fun pn s σ H Q I h => PySem.W.methodCall_KW (pl := pl) (thn (hO.run pn s σ H _ I h) fun u s1 hh => ?_) hW⟩
  obtain ⟨x, H1, I1, rx, ex, y⟩ := hh
  subst ex
  obtain rfl : u = Value.ref C := rx
  obtain ⟨rest, hp⟩ := c.rc
  refine PySem.W.method_cls I1.kIn cr.ga (PySem.W.cls_bind I1.kIn cr.rd c.at_ (wpAny_call (PySem.W.sm_get (s := { s1 with toks := s1.toks + 1 }) I1.kIn hp (PySem.W.handed_on rfl ?_))))
  have I2 : L2.Inv X pn σ H1 { s1 with toks := s1.toks + 1 } := I1.tok _
  refine PySem.W.callWith_K (h₀ := X.base) I2.ok.mod.kin c.kp (thn (hA.run pos pn _ σ H1 _ I2 y) fun us s3 hh => ?_) h1 h2
  obtain ⟨vs, H2, I3, rv, q2⟩ := hh
  exact ⟨I3.kIn, run_fnRS F hr (hx σ) I3 rv q2⟩
end
end Vx
set_option Elab.async false
set_option linter.all false
set_option maxRecDepth 100000
set_option maxHeartbeats 4000000
namespace DX
open PySem PySem.Spec PyProof.Rows L2
/-! ### defs of one's own, by data -/
abbrev DSp := List D → Mem → (D → Mem → Prop) → (Addr → List (Str × D) → Mem → Prop) → Prop
def toSp (K : PySem.W.Frag) (S : DSp) : Sp := fun vs H Q' E' => ∃ Z as F ds μ Q E, RepL K as F vs ds ∧ Mm K Z as F H μ ∧ S ds μ Q E ∧
  (∀ v d μ' as' F' H', Gr as F as' F' → Mm K Z as' F' H' μ' → Rep K as' F' v d → Q d μ' → Q' v H') ∧
  (∀ C gs dx μ' as' F' H', Gr as F as' F' → Mm K Z as' F' H' μ' → ExcR K as' F' dx gs → E C gs μ' → E' (.ref C) dx H')
/-- the def at f keeps S (where no repr is under way) -/
abbrev FnD (P : Program) (w : World) (K : PySem.W.Frag) (mg : Str → Option Value) (base : Heap) (k : Nat) (f : Addr) (S : DSp) : Prop := Gd.FnG P w K mg base (L2.CX P w) k f (toSp K S)
/-- what the context takes of exceptions -/
abbrev Tk (X : Cx) (Ex : L2.St → XK) : Prop := Takes X (fun cls d σ H => Ex σ cls d H)
theorem tk_pass {X : Cx} {Ex : L2.St → XK} (tk : Tk X Ex) (σ : L2.St) : PassesAt (L2.CX X.prog X.w) X σ (Ex σ) := passAt tk σ
section
variable {X : Cx} {CX : CXT} {k : Nat} {f C : Addr} {sp : Sp} {E : L2.St → XK}
theorem run_g {A : Around} {pn : List (Addr × Obj)} {σ : L2.St} {H : Hp} {s : Shared} {Q : VK} {us : List Value} {vs : List V} (F : Gd.FnG X.prog X.w X.K X.mg X.base CX k f sp) (g : Gd.Calm0 A) (hr : Room k A) (e0 : Env0 X.prog X.w X.K X.mg X.base A X.stack s H) (hx : PassesAt CX X σ (E σ)) (I : L2.Inv X pn σ H s) (r : Vals vs us) (h : sp vs H Q (E σ)) :
    codeAny (model X.prog X.w) A (.call (.ref f) ⟨us, []⟩) (fun r s' => match r with | .ok (.ret v) => EP X pn σ Q v s' | .ok _ => False | .error e => X.xe e s') s := by
  refine codeAny_mono (F A X.stack s H us vs Q (E σ) g hr e0 r h) fun z s2 y => ?_
  match z, y with
  | .error er, y => exact hx pn H s er s2 I y
  | .ok (.ret u), y => exact I.after y
theorem run_gW {pn : List (Addr × Obj)} {σ : L2.St} {H : Hp} {s : Shared} {Q : VK} {us : List Value} {vs : List V} (F : Gd.FnG X.prog X.w X.K X.mg X.base CX k f sp) (g : Gd.Calm0 X.A) (hr : Room k X.A) (hx : PassesAt CX X σ (E σ)) (I : L2.Inv X pn σ H s) (r : Vals vs us) (h : sp vs H Q (E σ)) :
    wpAny (model X.prog X.w) X.A (call (.ref f) us) (EP X pn σ Q) X.xe s := wpAny_call (run_g F g hr I.env0 hx I r h)
theorem make_calm {A : Around} {C : Addr} {us : List Value} {kw : List (Str × Value)} (g : Gd.Calm0 A) : Gd.Calm0 (A.under (.builtin "type.__call__" ⟨.ref C :: us, kw⟩)) := by
  first | exact g | simpa [Gd.Calm0, Around.under, Code.isGuard, guardIds] using g
theorem run_makeG {pn : List (Addr × Obj)} {σ : L2.St} {H : Hp} {s : Shared} {Q : VK} {us : List Value} {vs : List V} (M : Mk X.K C f) (F : Gd.FnG X.prog X.w X.K X.mg X.base CX k f sp) (g : Gd.Calm0 X.A) (hr : Room (k + 1) X.A) (hx : PassesAt CX X σ (E σ)) (I : L2.Inv X pn σ H s) (r : Vals vs us)
    (h : ∀ y dy, H y = Option.none → H dy = Option.none → dy ≠ y → sp (V.ref y :: vs) (upd (upd H dy (.own y)) y (.ins C dy [])) (fun v H2 => v = .non ∧ Q (.ref y) H2) (E σ)) : wpAny (model X.prog X.w) X.A (call (.ref C) us) (EP X pn σ Q) X.xe s := by
  have J : L2.Inv X pn σ _ _ := L2.Inv.made (C := C) I
  have r1 : Vals (V.ref (s.heap.objs.size + 1) :: vs) (Value.ref (s.heap.objs.size + 1) :: us) := Paired.cons rfl r
  have hq := h (s.heap.objs.size + 1) s.heap.objs.size (I.hok.fresh (Nat.le_succ _)) (I.hok.fresh Nat.le.refl) (Nat.ne_of_lt (Nat.lt_succ_self _))
  refine wpAny_call (make_map (f := f) I.kIn M.makes M.init (beq_iff_eq.mp M.fn) (codeAny_mono (F _ X.stack _ _ (Value.ref (s.heap.objs.size + 1) :: us) _ _ (E σ) (make_calm g) (hr.make C us []) (J.env0.make C us []) r1 hq) fun z s2 y => ?_))
  match z, y with
  | .error er, y => exact hx pn _ _ er s2 J y
  | .ok (.ret u), y =>
    obtain ⟨v, H3, J3, rv, ev, q⟩ := J.after y
    subst ev
    exact ⟨rv, .ref (s.heap.objs.size + 1), H3, J3, rfl, q⟩
end
/-! calls by the name -/
def tCallQ (sp : Sp) (E : L2.St → XK) (t : TA) : TE := fun σ H Q => t σ H fun vs H1 => sp vs H1 Q (E σ)
def uCall (S : DSp) (u : DTA) : DTE := fun ρ μ Q E => u ρ μ (fun ds μ1 => S ds μ1 Q (E ρ)) E
section
variable {X : Cx} {k : Nat} {f : Addr} {sp : Sp} {Ex : L2.St → XK} {x : Str} {p pos : Pos} {e : Expr} {es : List Expr} {t : TA}
theorem pe_callQ (F : Gd.FnG X.prog X.w X.K X.mg X.base (L2.CX X.prog X.w) k f sp) (g : Gd.Calm0 X.A) (hr : Room k X.A) (hg : Gl X x) (hm : X.mg x = some (.ref f)) (hk : PySem.W.keepIn X.K (.ref f) = true) (tk : Tk X Ex)
    (ha : PA X (e :: es) t) (hdb : (x == ("__debug__" : Str)) = false := by decide) (he : starEach (e :: es) X.env = (false, eval e X.env) :: starEach es X.env := by rfl) (hpl : (backTo pos (starEach es X.env)).any (·.1) = false := by rfl) :
    PE X (.Call (.Name x p) (e :: es) [] pos) (tCallQ sp Ex t) := by
  refine ⟨fun pins s σ H Q I h => ?_⟩
  refine wpAny_Call_Name_kw (ld_glob I hg hm ?_ hdb)
  exact PySem.W.callWith_K (h₀ := X.base) I.ok.mod.kin hk (thn (ha.run pos pins s σ H _ I h) fun us s1 ⟨vs, H1, I1, r, q⟩ => ⟨I1.kIn, run_gW F g hr (tk_pass tk σ) I1 r q⟩) he hpl
theorem pe_callQ0 (F : Gd.FnG X.prog X.w X.K X.mg X.base (L2.CX X.prog X.w) k f sp) (g : Gd.Calm0 X.A) (hr : Room k X.A) (hg : Gl X x) (hm : X.mg x = some (.ref f)) (hk : PySem.W.keepIn X.K (.ref f) = true) (tk : Tk X Ex)
    (hdb : (x == ("__debug__" : Str)) = false := by decide) : PE X (.Call (.Name x p) [] [] pos) (tCallQ sp Ex tNil) := by
  refine ⟨fun pins s σ H Q I h => ?_⟩
  refine wpAny_Call_Name_kw (ld_glob I hg hm ?_ hdb)
  exact PySem.W.callWith_K0 I.kIn hk (run_gW (us := []) F g hr (tk_pass tk σ) I .nil h)
end
section
variable {K : PySem.W.Frag} {Z : Hp} {as as' as1 : List Addr} {F F' F1 H H' H1 : Hp} {Ex : L2.St → XK}
/-- a promise at work -/
theorem sp_use {S : DSp} {σ : L2.St} {ρ : Rho} {μ : Mem} {vs : List V} {ds : List D} {Q : D → Mem → Prop} {E : XD} {Q' : VK} (R : Rp K Z as F H σ ρ μ) (X : XL K Ex Z as F E) (r : RepL K as F vs ds) (h : S ds μ Q (E ρ))
    (k : ∀ v d μ' as' F' H', Gr as F as' F' → Mm K Z as' F' H' μ' → Rep K as' F' v d → Q d μ' → Q' v H') : toSp K S vs H Q' (Ex σ) :=
  ⟨Z, as, F, ds, μ, Q, E ρ, r, R.mm, h, k, fun C gs dx μ' as' F' H' g M er q => X σ ρ μ' as' F' H' C gs dx g (R.up g M) er q⟩
theorem sim_call {S : DSp} {t : TA} {u : DTA} (a : SimA K Ex t u) : Sim K Ex (tCallQ (toSp K S) Ex t) (uCall S u) := fun Z as F H σ ρ μ Q E Q' R X h k =>
  a Z as F H σ ρ μ _ E _ R X h fun vs ds μ1 as1 F1 H1 g1 R1 r1 h1 => sp_use R1 (X.up g1) r1 h1 fun v d μ' as' F' H' g M r q => k v d μ' as' F' H' (g1.trans g) (R1.up g M) r q
/-! methods -/
def tMethQ (C : Addr) (m : Str) (sp : Sp) (E : L2.St → XK) (ta : TE) (t : TA) : TE := fun σ H Q => ta σ H fun x H1 => ∃ a dx fs, x = .ref a ∧ H1 a = some (.ins C dx fs) ∧ fs.lookup m = Option.none ∧ t σ H1 fun vs H2 => sp (.ref a :: vs) H2 Q (E σ)
def insAt (C : Addr) (m : Str) (μ : Mem) (x : D) : Prop := match view μ x with
  | .ins C' gs => C' = C ∧ gs.lookup m = none
  | _ => False
def uMeth (C : Addr) (m : Str) (S : DSp) (uo : DTE) (u : DTA) : DTE := fun ρ μ Q E => uo ρ μ (fun x μ1 => insAt C m μ1 x ∧ u ρ μ1 (fun ds μ2 => S (x :: ds) μ2 Q (E ρ)) E) E
theorem ins_at {C : Addr} {m : Str} {μ : Mem} (M : Mm K Z as F H μ) {v : V} {d : D} (r : Rep K as F v d) (h : insAt C m μ d) : ∃ a dx fs, v = .ref a ∧ H a = some (.ins C dx fs) ∧ fs.lookup m = Option.none := by
  unfold insAt at h
  cases e : view μ d with
  | ins C' gs =>
    rw [e] at h
    obtain ⟨hc, l⟩ := h
    subst hc
    obtain ⟨a, dx, fs, rfl, q, x⟩ := view_ins M r e
    exact ⟨a, dx, fs, rfl, q, x.lookN l⟩
  | _ => rw [e] at h; exact h.elim
theorem sim_meth {C : Addr} {m : Str} {S : DSp} {to : TE} {uo : DTE} {t : TA} {u : DTA} (o : Sim K Ex to uo) (a : SimA K Ex t u) : Sim K Ex (tMethQ C m (toSp K S) Ex to t) (uMeth C m S uo u) := fun Z as F H σ ρ μ Q E Q' R X h k =>
  o Z as F H σ ρ μ _ E _ R X h fun v d μ1 as1 F1 H1 g1 R1 r1 h1 => by
    obtain ⟨p, dx, fs, rfl, q, l⟩ := ins_at R1.mm r1 h1.1
    exact ⟨p, dx, fs, rfl, q, l, a Z as1 F1 H1 σ ρ μ1 _ E _ R1 (X.up g1) h1.2 fun vs ds μ2 as2 F2 H2 g2 R2 r2 h2 =>
      sp_use R2 (X.up (g1.trans g2)) (.cons (r1.up g2) r2) h2 fun v d μ' as' F' H' g M r q => k v d μ' as' F' H' ((g1.trans g2).trans g) (R2.up g M) r q⟩
end
section
variable {X : Cx} {k : Nat} {f C : Addr} {sp : Sp} {Ex : L2.St → XK} {m : Str} {pos apos : Pos} {o e : Expr} {es : List Expr} {ta : TE} {t : TA} {pl : Sem Bool}
theorem pe_methQ (hO : PE X o ta) (c : Cls X.K C) (hm : Meth X.K C m f) (F : Gd.FnG X.prog X.w X.K X.mg X.base (L2.CX X.prog X.w) k f sp) (g : Gd.Calm0 X.A) (hr : Room k X.A) (tk : Tk X Ex) (hA : PA X (e :: es) t)
    (h1 : starEach (e :: es) X.env = (false, eval e X.env) :: starEach es X.env := by rfl) (h2 : (backTo pos (starEach es X.env)).any (·.1) = false := by rfl)
    (hW : eval (.Call (.Attribute o m apos) (e :: es) [] pos) X.env = (do
      let ov ← eval o X.env
      standAt apos.atName
      let (f, first) ← holding [ov] (getMethod ov m pl)
      callWith pos f first (backTo pos (starEach (e :: es) X.env)) (backToKw pos (keywordEach [] X.env))) := by rfl) : PE X (.Call (.Attribute o m apos) (e :: es) [] pos) (tMethQ C m sp Ex ta t) := by
  refine ⟨fun pn s σ H Q I h => PySem.W.methodCall_KW (pl := pl) (thn (hO.run pn s σ H _ I h) fun u s1 hh => ?_) hW⟩
  obtain ⟨x, H1, I1, rx, a, dx, fs, ex, ea, l, q⟩ := hh
  subst ex
  obtain rfl : u = Value.ref a := rx
  refine getmeth_ok I1 ea c hm l (PySem.W.callWith_K (first := [.ref a]) (h₀ := X.base) I.ok.mod.kin hm.kp (thn (hA.run pos pn s1 σ H1 _ I1 q) fun us s2 hh => ?_) h1 h2)
  obtain ⟨vs, H2, I2, r, q2⟩ := hh
  exact ⟨I2.kIn, run_gW (us := .ref a :: us) (vs := .ref a :: vs) F g hr (tk_pass tk σ) I2 (.cons rfl r) q2⟩
theorem pe_methQ0 (hO : PE X o ta) (c : Cls X.K C) (hm : Meth X.K C m f) (F : Gd.FnG X.prog X.w X.K X.mg X.base (L2.CX X.prog X.w) k f sp) (g : Gd.Calm0 X.A) (hr : Room k X.A) (tk : Tk X Ex)
    (hW : eval (.Call (.Attribute o m apos) [] [] pos) X.env = (do
      let ov ← eval o X.env
      standAt apos.atName
      let (f, first) ← holding [ov] (getMethod ov m pl)
      callWith pos f first (backTo pos (starEach [] X.env)) (backToKw pos (keywordEach [] X.env))) := by rfl) : PE X (.Call (.Attribute o m apos) [] [] pos) (tMethQ C m sp Ex ta tNil) := by
  refine ⟨fun pn s σ H Q I h => PySem.W.methodCall_KW (pl := pl) (thn (hO.run pn s σ H _ I h) fun u s1 hh => ?_) hW⟩
  obtain ⟨x, H1, I1, rx, a, dx, fs, ex, ea, l, q⟩ := hh
  subst ex
  obtain rfl : u = Value.ref a := rx
  refine getmeth_ok I1 ea c hm l ?_
  exact PySem.W.callWith_K0 (first := [.ref a]) I1.kIn hm.kp (run_gW (us := [.ref a]) (vs := [.ref a]) F g hr (tk_pass tk σ) I1 (.cons rfl .nil) q)
end
end DX
set_option Elab.async false
set_option linter.all false
set_option maxRecDepth 100000
set_option maxHeartbeats 4000000
namespace DX
open PySem PySem.Spec PyProof.Rows L2
/-! ### C(..) -/
def tMakeQ (C : Addr) (sp : Sp) (E : L2.St → XK) (t : TA) : TE := fun σ H Q => t σ H fun vs H1 => ∀ y dy, H1 y = none → H1 dy = none → dy ≠ y → sp (.ref y :: vs) (upd (upd H1 dy (.own y)) y (.ins C dy [])) (fun v H2 => v = .non ∧ Q (.ref y) H2) (E σ)
section
variable {X : Cx} {k : Nat} {f C : Addr} {sp : Sp} {Ex : L2.St → XK} {x : Str} {p pos sp_ : Pos} {e : Expr} {es : List Expr} {t : TA} {te : TE}
theorem pe_makeQ (M : Mk X.K C f) (F : Gd.FnG X.prog X.w X.K X.mg X.base (L2.CX X.prog X.w) k f sp) (g : Gd.Calm0 X.A) (hr : Room (k + 1) X.A) (hg : Gl X x) (hm : X.mg x = some (.ref C)) (tk : Tk X Ex)
    (ha : PA X (e :: es) t) (hdb : (x == ("__debug__" : Str)) = false := by decide) (he : starEach (e :: es) X.env = (false, eval e X.env) :: starEach es X.env := by rfl) (hpl : (backTo pos (starEach es X.env)).any (·.1) = false := by rfl) :
    PE X (.Call (.Name x p) (e :: es) [] pos) (tMakeQ C sp Ex t) := by
  refine ⟨fun pins s σ H Q I h => ?_⟩
  refine wpAny_Call_Name_kw (ld_glob I hg hm ?_ hdb)
  refine PySem.W.callWith_K (h₀ := X.base) I.ok.mod.kin M.kp (thn (ha.run pos pins s σ H _ I h) fun us s1 ⟨vs, H1, I1, r, q⟩ => ⟨I1.kIn, ?_⟩) he hpl
  exact run_makeG M F g hr (tk_pass tk σ) I1 r q
theorem pe_makeQ0 (M : Mk X.K C f) (F : Gd.FnG X.prog X.w X.K X.mg X.base (L2.CX X.prog X.w) k f sp) (g : Gd.Calm0 X.A) (hr : Room (k + 1) X.A) (hg : Gl X x) (hm : X.mg x = some (.ref C)) (tk : Tk X Ex) (hdb : (x == ("__debug__" : Str)) = false := by decide) :
    PE X (.Call (.Name x p) [] [] pos) (tMakeQ C sp Ex tNil) := by
  refine ⟨fun pins s σ H Q I h => ?_⟩
  refine wpAny_Call_Name_kw (ld_glob I hg hm ?_ hdb)
  exact PySem.W.callWith_K0 I.kIn M.kp (run_makeG (us := []) M F g hr (tk_pass tk σ) I .nil h)
/-- C(*xs) -/
def tMakeSQ (K : PySem.W.Frag) (C : Addr) (sp : Sp) (E : L2.St → XK) (te : TE) : TE := fun σ H Q => te σ H fun y H1 => ∃ a xs, y = V.ref a ∧ (SqT K H1 a xs ∨ SqL K H1 a xs) ∧ ∀ x dx, H1 x = Option.none → H1 dx = Option.none → dx ≠ x →
  sp (V.ref x :: xs) (upd (upd H1 dx (.own x)) x (.ins C dx [])) (fun v H2 => v = .non ∧ Q (.ref x) H2) (E σ)
theorem pe_makeSQ (M : Mk X.K C f) (F : Gd.FnG X.prog X.w X.K X.mg X.base (L2.CX X.prog X.w) k f sp) (g : Gd.Calm0 X.A) (hr : Room (k + 1) X.A) (hg : Gl X x) (hm : X.mg x = some (.ref C)) (tk : Tk X Ex) (he : PE X e te) (hd : (x == ("__debug__" : Str)) = false := by decide)
    (hst : starEach [.Starred e sp_] X.env = [(true, eval e X.env)] := by rfl) :
    PE X (.Call (.Name x p) [.Starred e sp_] [] pos) (tMakeSQ X.K C sp Ex te) := by
  refine ⟨fun pins s σ H Q I h => ?_⟩
  refine wpAny_Call_Name_kw (ld_glob I hg hm ?_ hd)
  refine PySem.W.callWith_S (h₀ := X.base) I.ok.mod.kin M.kp (thn (he.run pins s σ H _ I h) fun v s1 ⟨y, H1, I1, ry, a, xs, ey, hxs, q⟩ => ?_) hst
  subst ey
  obtain rfl : v = Value.ref a := ry
  exact StX.star_any I1 hxs fun us s2 I2 rv => ⟨I2.kIn, run_makeG M F g hr (tk_pass tk σ) I2 rv q⟩
end
section
variable {K : PySem.W.Frag} {Z : Hp} {as as' as1 : List Addr} {F F' F1 H H' H1 : Hp} {Ex : L2.St → XK}
/-- an error leaves a making: the new object is forgotten -/
def xMake (n : Nat) (μ1 : Mem) (E : Addr → List (Str × D) → Mem → Prop) : Addr → List (Str × D) → Mem → Prop := fun C gs μ2 => cldF n gs = true ∧ stays n μ1 μ2 ∧ E C gs (μ2.take n)
def dMakeM (C : Addr) (S : DSp) : List D → Mem → (D → Mem → Prop) → (Addr → List (Str × D) → Mem → Prop) → Prop := fun ds μ1 Q E =>
  S (.ob μ1.length :: ds) (μ1 ++ [.ins C []]) (fun r μ2 => r = .non ∧ Q (.ob μ1.length) μ2) (xMake μ1.length μ1 E)
def dMakeF (C : Addr) (S : DSp) : List D → Mem → (D → Mem → Prop) → (Addr → List (Str × D) → Mem → Prop) → Prop := fun ds μ1 Q E =>
  S (.ob μ1.length :: ds) (μ1 ++ [.ins C []]) (fun r μ2 => r = .non ∧ ∃ fs, μ2 = μ1 ++ [.ins C fs] ∧ cldF μ1.length fs = true ∧ Q (.ins C fs) μ1) (xMake μ1.length μ1 E)
theorem Mm.closed {μ : Mem} (M : Mm K Z as F H μ) {k : Nat} {m : DX.M} (e : μ[k]? = some m) : cldM μ.length m = true := by
  obtain ⟨a, ha, x⟩ := M.at_ k m e
  rw [← M.len]
  exact x.cld
theorem Gr.take {n : Nat} (g : Gr as F as' F') (hn : as.length ≤ n) {F2 : Hp} (s : Same F' F2) : Gr as F (as'.take n) F2 := ⟨g.f.trans s, fun k a e => by
  have hk := (List.getElem?_eq_some_iff.mp e).1
  rw [List.getElem?_take_of_lt (by omega)]
  exact g.p k a e⟩
theorem excR_cut {bs : List Addr} {n : Nat} (hb : ∀ (k : Nat) (a : Addr), k < n → as[k]? = some a → bs[k]? = some a) {dx : Option Addr} {gs : List (Str × D)} (h : ExcR K as F dx gs) (c : cldF n gs = true) (s : Same F F') : ExcR K bs F' dx gs := by
  rcases h with h | ⟨dd, fs, e1, e2, r⟩
  · exact .inl h
  · exact .inr ⟨dd, fs, e1, s _ _ e2, (r.cut hb c).up ⟨s, fun _ _ e => e⟩⟩
theorem take_get {n : Nat} : ∀ (k : Nat) (a : Addr), k < n → as[k]? = some a → (as.take n)[k]? = some a := fun k a hk h => by rw [List.getElem?_take_of_lt hk]; exact h
theorem stays_closed {n : Nat} {μ1 μ2 : Mem} (M1 : Mm K Z as F H μ1) (hn : n = μ1.length) (h : stays n μ1 μ2) : ∀ (k : Nat) (m : DX.M), k < n → μ2[k]? = some m → cldM n m = true := fun k m hk e => by
  rcases h.2 k m hk e with z | z
  · rw [hn]; exact M1.closed z
  · exact z
theorem mm_made {μ1 : Mem} (M1 : Mm K Z as1 F1 H1 μ1) {C y dy : Addr} (ny : H1 y = none) (nd : H1 dy = none) (ne : dy ≠ y) : Mm K Z (as1 ++ [y]) F1 (upd (upd H1 dy (.own y)) y (.ins C dy [])) (μ1 ++ [.ins C []]) :=
  (M1.ext (same_upd nd)).addM (m := .ins C []) (by rw [upd_ne ne.symm]; exact ny) ⟨dy, [], upd_same, .nil⟩
theorem made_xl {E : XD} {σ : L2.St} {ρ : Rho} {μ1 : Mem} {y : Addr} (R1 : Rp K Z as1 F1 H1 σ ρ μ1) (X : XL K Ex Z as1 F1 E) : ∀ C gs dx μ' as' F' H', Gr (as1 ++ [y]) F1 as' F' → Mm K Z as' F' H' μ' → ExcR K as' F' dx gs → xMake μ1.length μ1 (E ρ) C gs μ' → Ex σ (.ref C) dx H' := fun C gs dx μ' as' F' H' g M er q => by
  obtain ⟨c, st, q⟩ := q
  obtain ⟨M2, sf⟩ := M.freeze st.1 (stays_closed R1.mm rfl st)
  have g1 : Gr as1 F1 as' F' := Gr.add.trans g
  have g2 := g1.take (n := μ1.length) (Nat.le_of_eq R1.mm.len) sf
  exact X σ ρ _ _ _ H' C gs dx g2 (R1.up g2 M2) (excR_cut take_get er c sf) q
theorem sim_makeV {C : Addr} {S : DSp} {σ : L2.St} {ρ : Rho} {μ1 : Mem} {vs : List V} {ds : List D} {Q : D → Mem → Prop} {E : XD} {Q' : VK} (R1 : Rp K Z as1 F1 H1 σ ρ μ1) (X : XL K Ex Z as1 F1 E) (r1 : RepL K as1 F1 vs ds) (m : Bool) (h : if m = true then dMakeM C S ds μ1 Q (E ρ) else dMakeF C S ds μ1 Q (E ρ))
    (k : ∀ v d μ' as' F' H', Gr as1 F1 as' F' → Rp K Z as' F' H' σ ρ μ' → Rep K as' F' v d → Q d μ' → Q' v H') {y dy : Addr} (ny : H1 y = none) (nd : H1 dy = none) (ne : dy ≠ y) :
    toSp K S (.ref y :: vs) (upd (upd H1 dy (.own y)) y (.ins C dy [])) (fun v H2 => v = .non ∧ Q' (.ref y) H2) (Ex σ) := by
  have M2 := mm_made (C := C) R1.mm ny nd ne
  have ro : Rep K (as1 ++ [y]) F1 (.ref y) (.ob μ1.length) := rep_ob R1.mm.len
  cases m with
  | true =>
    rw [if_pos rfl] at h
    refine ⟨_, _, _, _, _, _, _, .cons ro (r1.up Gr.add), M2, h, fun v d μ' as' F' H' g M r q => ?_, made_xl R1 X⟩
    obtain ⟨rfl, q⟩ := q
    cases r
    exact ⟨rfl, k _ _ μ' as' F' H' (Gr.add.trans g) (R1.up (Gr.add.trans g) M) (ro.up g) q⟩
  | false =>
    rw [if_neg Bool.false_ne_true] at h
    refine ⟨_, _, _, _, _, _, _, .cons ro (r1.up Gr.add), M2, h, fun v d μ' as' F' H' g M r q => ?_, made_xl R1 X⟩
    obtain ⟨rfl, fs, rfl, c, q⟩ := q
    cases r
    refine ⟨rfl, ?_⟩
    have hn : μ1.length ≤ (μ1 ++ [DX.M.ins C fs]).length := by rw [List.length_append]; exact Nat.le_add_right _ _
    have cl : ∀ (k : Nat) (m : DX.M), k < μ1.length → (μ1 ++ [DX.M.ins C fs])[k]? = some m → cldM μ1.length m = true := fun k m hk e => by
      rw [List.getElem?_append_left hk] at e
      exact R1.mm.closed e
    obtain ⟨M3, sf⟩ := M.freeze hn cl
    have g1 : Gr as1 F1 as' F' := Gr.add.trans g
    have g2 := g1.take (n := μ1.length) (Nat.le_of_eq R1.mm.len) sf
    have z := fz_rep M sf 1 (ro.up g)
    have e : fz (μ1 ++ [DX.M.ins C fs]) μ1.length 1 (.ob μ1.length) = .ins C fs := by
      show (if μ1.length < μ1.length then D.ob μ1.length else match (μ1 ++ [DX.M.ins C fs])[μ1.length]? with
        | some (.lst ds) => .lst (ds.map (fz _ _ 0))
        | some (.ins C fs) => .ins C (fs.map fun p => (p.1, fz _ _ 0 p.2))
        | _ => .ob μ1.length) = _
      rw [if_neg (Nat.lt_irrefl _), List.getElem?_append_right (Nat.le_refl _), Nat.sub_self]
      show D.ins C (fs.map fun p => (p.1, p.2)) = _
      simp
    rw [e] at z
    rw [List.take_left' rfl] at M3
    exact k _ _ μ1 _ _ H' g2 (R1.up g2 M3) (z.cut take_get c) q
def uMakeM (C : Addr) (S : DSp) (u : DTA) : DTE := fun ρ μ Q E => u ρ μ (fun ds μ1 => dMakeM C S ds μ1 Q (E ρ)) E
def uMakeF (C : Addr) (S : DSp) (u : DTA) : DTE := fun ρ μ Q E => u ρ μ (fun ds μ1 => dMakeF C S ds μ1 Q (E ρ)) E
theorem sim_makeM {C : Addr} {S : DSp} {t : TA} {u : DTA} (a : SimA K Ex t u) : Sim K Ex (tMakeQ C (toSp K S) Ex t) (uMakeM C S u) := fun Z as F H σ ρ μ Q E Q' R X h k =>
  a Z as F H σ ρ μ _ E _ R X h fun vs ds μ1 as1 F1 H1 g1 R1 r1 h1 y dy ny nd ne => sim_makeV R1 (X.up g1) r1 true (by rw [if_pos rfl]; exact h1) (fun v d μ' as' F' H' g M r q => k v d μ' as' F' H' (g1.trans g) M r q) ny nd ne
theorem sim_makeF {C : Addr} {S : DSp} {t : TA} {u : DTA} (a : SimA K Ex t u) : Sim K Ex (tMakeQ C (toSp K S) Ex t) (uMakeF C S u) := fun Z as F H σ ρ μ Q E Q' R X h k =>
  a Z as F H σ ρ μ _ E _ R X h fun vs ds μ1 as1 F1 H1 g1 R1 r1 h1 y dy ny nd ne => sim_makeV R1 (X.up g1) r1 false (by rw [if_neg Bool.false_ne_true]; exact h1) (fun v d μ' as' F' H' g M r q => k v d μ' as' F' H' (g1.trans g) M r q) ny nd ne
/-- C(*xs), frozen -/
def uMakeSF (C : Addr) (S : DSp) (u : DTE) : DTE := fun ρ μ Q E => u ρ μ (fun x μ1 => match view μ1 x with
  | .lst ds => dMakeF C S ds μ1 Q (E ρ)
  | .tup ds => dMakeF C S ds μ1 Q (E ρ)
  | _ => False) E
theorem sim_makeSF {C : Addr} {S : DSp} {t : TE} {u : DTE} (a : Sim K Ex t u) : Sim K Ex (tMakeSQ K C (toSp K S) Ex t) (uMakeSF C S u) := fun Z as F H σ ρ μ Q E Q' R X h k =>
  a Z as F H σ ρ μ _ E _ R X h fun v d μ1 as1 F1 H1 g1 R1 r1 h1 => by
    have h1 : (match view μ1 d with | .lst ds => dMakeF C S ds μ1 Q (E ρ) | .tup ds => dMakeF C S ds μ1 Q (E ρ) | _ => False) := h1
    cases e : view μ1 d with
    | lst ds =>
      rw [e] at h1
      obtain ⟨p, vs, rfl, q, x⟩ := view_lst R1.mm r1 e
      exact ⟨p, vs, rfl, .inr q, fun y dy ny nd ne => sim_makeV R1 (X.up g1) x false (by rw [if_neg Bool.false_ne_true]; exact h1) (fun v d μ' as' F' H' g M r q => k v d μ' as' F' H' (g1.trans g) M r q) ny nd ne⟩
    | tup ds =>
      rw [e] at h1
      obtain ⟨p, vs, rfl, q, x⟩ := view_tup R1.mm r1 e
      exact ⟨p, vs, rfl, .inl q, fun y dy ny nd ne => sim_makeV R1 (X.up g1) x false (by rw [if_neg Bool.false_ne_true]; exact h1) (fun v d μ' as' F' H' g M r q => k v d μ' as' F' H' (g1.trans g) M r q) ny nd ne⟩
    | _ => rw [e] at h1; exact h1.elim
/-! ### properties -/
def tPropQ (C : Addr) (sp : Sp) (ta : TE) : TE := fun σ H Q => ta σ H fun x H1 => ∃ a dx fs, x = .ref a ∧ H1 a = some (.ins C dx fs) ∧ sp [.ref a] H1 Q E0
def isIns (C : Addr) (μ : Mem) (x : D) : Prop := match view μ x with
  | .ins C' _ => C' = C
  | _ => False
theorem isIns_at {C : Addr} {μ : Mem} (M : Mm K Z as F H μ) {v : V} {d : D} (r : Rep K as F v d) (h : isIns C μ d) : ∃ a dx fs, v = .ref a ∧ H a = some (.ins C dx fs) := by
  unfold isIns at h
  cases e : view μ d with
  | ins C' gs =>
    rw [e] at h
    have h : C' = C := h
    subst h
    obtain ⟨a, dx, fs, rfl, q, x⟩ := view_ins M r e
    exact ⟨a, dx, fs, rfl, q⟩
  | _ => rw [e] at h; exact h.elim
def uProp (C : Addr) (S : DSp) (uo : DTE) : DTE := fun ρ μ Q E => uo ρ μ (fun x μ1 => isIns C μ1 x ∧ S [x] μ1 Q (XN ρ)) E
theorem sim_prop {C : Addr} {S : DSp} {to : TE} {uo : DTE} (o : Sim K Ex to uo) : Sim K Ex (tPropQ C (toSp K S) to) (uProp C S uo) := fun Z as F H σ ρ μ Q E Q' R X h k =>
  o Z as F H σ ρ μ _ E _ R X h fun v d μ1 as1 F1 H1 g1 R1 r1 h1 => by
    obtain ⟨p, dx, fs, rfl, q⟩ := isIns_at R1.mm r1 h1.1
    exact ⟨p, dx, fs, rfl, q, sp_use (Ex := X0) (E := XN) R1 XL.no (.cons r1 .nil) h1.2 fun v d μ' as' F' H' g M r q => k v d μ' as' F' H' (g1.trans g) (R1.up g M) r q⟩
end
section
variable {X : Cx} {k : Nat} {f C p g : Addr} {sp : Sp} {Ex : L2.St → XK} {x n : Str} {pos : Pos} {e : Expr} {ta : TE}
theorem pe_propQ (he : PE X e ta) (c : Cls X.K C) (hp : PropOf X.K C n p g) (F : Gd.FnG X.prog X.w X.K X.mg X.base (L2.CX X.prog X.w) k g sp) (gd : Gd.Calm0 X.A) (hr : Room (k + 1) X.A)
    (hab : attributeBase e n X.env (eval e X.env) = eval e X.env) : PE X (.Attribute e n pos) (tPropQ C sp ta) := by
  refine ⟨fun pins s σ H Q I h => ?_⟩
  refine attr_of hab (thn (he.run pins s σ H _ I h) fun u s1 ⟨x, H1, I1, rx, a, dx, fs, ex, ea, q⟩ => ?_)
  subst ex
  obtain rfl : u = Value.ref a := rx
  obtain ⟨mA, O, _, _, _, _⟩ := ins_get I1.hok ea
  obtain ⟨od, J, _⟩ := O.look
  obtain ⟨rest, hrec⟩ := hp.rec_
  have I2 := I1.tok (s1.toks + 1)
  have hc : (PySem.W.clsIn X.K C).isSome = true := by
    obtain ⟨cd, hc, _⟩ := PySem.W.any_some c.hd
    rw [hc]
    rfl
  refine PySem.W.get_bind I1.kIn J (PySem.W.plainGet_of (c.get n)).1 (PySem.W.findObj_data hc hp.at_ hp.get hp.tak) (PySem.W.plainGet_of (c.get n)).2 (wpAny_call (PySem.W.prop_get (s := { s1 with toks := s1.toks + 1 }) I1.kIn hrec ?_))
  refine codeAny_mono (F X.A.in1 X.stack _ H1 [.ref a] [.ref a] Q E0 gd hr.in1 I2.env0.in1 (.cons rfl .nil) q) fun r s' hq => ?_
  match r, hq with
  | .error er, hq =>
    obtain ⟨_, _, _, _, _, _, _, _, _, _, _, _, z⟩ := hq
    exact z.elim
  | .ok (.ret u), hq =>
    obtain ⟨v, H', I3, rv, q3⟩ := I2.after hq
    show wpAny _ _ (handedOut u) _ _ _
    rw [PySem.W.handedOut_of (handed_of rv)]
    exact wpAny_pure ⟨v, H', I3, rv, q3⟩
end
end DX
set_option Elab.async false
set_option linter.all false
set_option maxRecDepth 100000
set_option maxHeartbeats 4000000
namespace DX
open PySem PySem.Spec PyProof.Rows L2
/-! ### statements -/
abbrev DTG := D → Rho → Mem → (Rho → Mem → Prop) → XD → Prop
abbrev DTGs := List D → Rho → Mem → (Rho → Mem → Prop) → XD → Prop
section
variable {K : PySem.W.Frag} {Z : Hp} {as as' as1 : List Addr} {F F' F1 H H' H1 : Hp} {Ex : L2.St → XK}
def SimG (K : PySem.W.Frag) (Ex : L2.St → XK) (t : TG) (u : DTG) : Prop :=
  ∀ (Z : Hp) (as : List Addr) (F H : Hp) (σ : L2.St) (ρ : Rho) (μ : Mem) (v : V) (d : D) (Q : Rho → Mem → Prop) (E : XD) (Q' : L2.St → Hp → Prop), Rp K Z as F H σ ρ μ → XL K Ex Z as F E → Rep K as F v d → u d ρ μ Q E →
    (∀ σ' ρ' μ' as' F' H', Gr as F as' F' → Rp K Z as' F' H' σ' ρ' μ' → Q ρ' μ' → Q' σ' H') → t v σ H Q'
def SimGs (K : PySem.W.Frag) (Ex : L2.St → XK) (t : TGs) (u : DTGs) : Prop :=
  ∀ (Z : Hp) (as : List Addr) (F H : Hp) (σ : L2.St) (ρ : Rho) (μ : Mem) (v : List V) (d : List D) (Q : Rho → Mem → Prop) (E : XD) (Q' : L2.St → Hp → Prop), Rp K Z as F H σ ρ μ → XL K Ex Z as F E → RepL K as F v d → u d ρ μ Q E →
    (∀ σ' ρ' μ' as' F' H', Gr as F as' F' → Rp K Z as' F' H' σ' ρ' μ' → Q ρ' μ' → Q' σ' H') → t v σ H Q'
def uGName (i : Nat) : DTG := fun d ρ μ Q _ => Q (ρ.set i (some d)) μ
theorem sim_gName (i : Nat) : SimG K Ex (gName i) (uGName i) := fun Z as F H σ ρ μ v d Q E Q' R X r h k => k _ _ μ as F H Gr.refl ⟨R.mm, R.env.set r i⟩ h
def uGNil : DTGs := fun ds ρ μ Q _ => match ds with
  | [] => Q ρ μ
  | _ => False
def uGCons (u : DTG) (w : DTGs) : DTGs := fun ds ρ μ Q E => match ds with
  | d :: r => u d ρ μ (fun ρ1 μ1 => w r ρ1 μ1 Q E) E
  | [] => False
theorem sim_gNil : SimGs K Ex gNil uGNil := fun Z as F H σ ρ μ v d Q E Q' R X r h k => by
  cases r with
  | nil => exact ⟨rfl, k σ ρ μ as F H Gr.refl R h⟩
  | cons _ _ => exact h.elim
theorem sim_gCons {t : TG} {u : DTG} {s : TGs} {w : DTGs} (a : SimG K Ex t u) (b : SimGs K Ex s w) : SimGs K Ex (gCons t s) (uGCons u w) := fun Z as F H σ ρ μ v d Q E Q' R X r h k => by
  cases r with
  | nil => exact h.elim
  | cons r1 r2 => exact ⟨_, _, rfl, a Z as F H σ ρ μ _ _ _ E _ R X r1 h fun σ1 ρ1 μ1 as1 F1 H1 g1 R1 h1 => b Z as1 F1 H1 σ1 ρ1 μ1 _ _ _ E _ R1 (X.up g1) (r2.up g1) h1 fun σ2 ρ2 μ2 as2 F2 H2 g2 => k σ2 ρ2 μ2 as2 F2 H2 (g1.trans g2)⟩
def uGTup (n : Nat) (w : DTGs) : DTG := fun d ρ μ Q E => match view μ d with
  | .tup ds => ds.length = n ∧ w ds ρ μ Q E
  | _ => False
theorem sim_gTup {n : Nat} {s : TGs} {w : DTGs} (b : SimGs K Ex s w) : SimG K Ex (gTup K n s) (uGTup n w) := fun Z as F H σ ρ μ v d Q E Q' R X r h k => by
  have h : (match view μ d with | .tup ds => ds.length = n ∧ w ds ρ μ Q E | _ => False) := h
  cases e : view μ d with
  | tup ds =>
    rw [e] at h
    obtain ⟨p, vs, rfl, q, x⟩ := view_tup R.mm r e
    exact ⟨p, vs, rfl, q, by rw [x.len]; exact h.1, b Z as F H σ ρ μ vs ds Q E Q' R X x h.2 k⟩
  | _ => rw [e] at h; exact h.elim
/-- xs[i] = .. -/
def uGSet (uo ui : DTE) : DTG := fun d ρ μ Q E => uo ρ μ (fun o μ1 => ui ρ μ1 (fun i μ2 => match o, i with
  | .ob k, .int j => match μ2[k]? with
    | some (.lst xs) => match ixN xs.length j with
      | some m => Q ρ (μ2.set k (.lst (xs.set m d)))
      | none => False
    | _ => False
  | _, _ => False) E) E
theorem sim_gSet {to ti : TE} {uo ui : DTE} (a : Sim K Ex to uo) (b : Sim K Ex ti ui) : SimG K Ex (gSub to ti rSetL) (uGSet uo ui) := fun Z as F H σ ρ μ v d Q E Q' R X r h k =>
  a Z as F H σ ρ μ _ E _ R X h fun v1 d1 μ1 as1 F1 H1 g1 R1 r1 h1 => b Z as1 F1 H1 σ ρ μ1 _ E _ R1 (X.up g1) h1 fun v2 d2 μ2 as2 F2 H2 g2 R2 r2 h2 => by
    have ro := r1.up g2
    cases ro <;> try exact h2.elim
    rename_i n a q
    cases r2 <;> try exact h2.elim
    rename_i j
    have h2 : (match μ2[n]? with | some (.lst xs) => (match ixN xs.length j with | some m => Q ρ (μ2.set n (.lst (xs.set m d))) | none => False) | _ => False) := h2
    cases z : μ2[n]? with
    | none => rw [z] at h2; exact h2.elim
    | some m =>
      rw [z] at h2
      obtain ⟨b, hb, y⟩ := R2.mm.at_ n m z
      obtain rfl := Option.some.inj (q.symm.trans hb)
      cases m with
      | lst xs =>
        obtain ⟨vs, e1, e2⟩ := y
        have h2 : (match ixN xs.length j with | some m => Q ρ (μ2.set n (.lst (xs.set m d))) | none => False) := h2
        cases w : ixN xs.length j with
        | none => rw [w] at h2; exact h2.elim
        | some m =>
          rw [w] at h2
          have rd := (r.up g1).up g2
          refine ⟨_, vs, _, m, rfl, rfl, e1, by rw [e2.len]; exact w, ?_⟩
          exact k σ ρ _ as2 F2 _ (g1.trans g2) ⟨R2.mm.put (m := .lst (xs.set m d)) q ⟨_, upd_same, e2.set rd m⟩, R2.env⟩ h2
      | ins C fs => exact h2.elim
      | dic kv => exact h2.elim
/-! small statements -/
def uAsg (u : DTE) (g : DTG) : DTS := fun De E ρ μ => u ρ μ (fun d μ1 => g d ρ μ1 De.nx E) E
theorem sim_asg {t : TE} {u : DTE} {g : TG} {w : DTG} (a : Sim K Ex t u) (b : SimG K Ex g w) : SimS K Ex (tAsg t g) (uAsg u w) := fun Z as F H σ ρ μ De E D' R X h kn kr kb kc =>
  a Z as F H σ ρ μ _ E _ R X h fun v d μ1 as1 F1 H1 g1 R1 r1 h1 => b Z as1 F1 H1 σ ρ μ1 v d _ E _ R1 (X.up g1) r1 h1 fun σ2 ρ2 μ2 as2 F2 H2 g2 => kn σ2 ρ2 μ2 as2 F2 H2 (g1.trans g2)
def uDrop (u : DTE) : DTS := fun De E ρ μ => u ρ μ (fun _ μ1 => De.nx ρ μ1) E
theorem sim_drop {t : TE} {u : DTE} (a : Sim K Ex t u) : SimS K Ex (tDrop t) (uDrop u) := fun Z as F H σ ρ μ De E D' R X h kn kr kb kc =>
  a Z as F H σ ρ μ _ E _ R X h fun v d μ1 as1 F1 H1 g1 R1 r1 h1 => kn σ ρ μ1 as1 F1 H1 g1 R1 h1
def uRet (u : DTE) : DTS := fun De E ρ μ => u ρ μ De.rt E
theorem sim_ret {t : TE} {u : DTE} (a : Sim K Ex t u) : SimS K Ex (tRet t) (uRet u) := fun Z as F H σ ρ μ De E D' R X h kn kr kb kc =>
  a Z as F H σ ρ μ _ E _ R X h fun v d μ1 as1 F1 H1 g1 R1 r1 h1 => kr v d μ1 as1 F1 H1 g1 R1.mm r1 h1
def uRetN : DTS := fun De _ _ μ => De.rt .non μ
theorem sim_retN : SimS K Ex tRetN uRetN := fun Z as F H σ ρ μ De E D' R X h kn kr kb kc => kr _ _ μ as F H Gr.refl R.mm .non h
def uNext : DTS := fun De _ ρ μ => De.nx ρ μ
def uBreak : DTS := fun De _ ρ μ => De.bk ρ μ
def uCont : DTS := fun De _ ρ μ => De.ct ρ μ
def uNever : DTS := fun _ _ _ _ => False
theorem sim_next : SimS K Ex tNext uNext := fun Z as F H σ ρ μ De E D' R X h kn kr kb kc => kn σ ρ μ as F H Gr.refl R h
theorem sim_break : SimS K Ex tBreak uBreak := fun Z as F H σ ρ μ De E D' R X h kn kr kb kc => kb σ ρ μ as F H Gr.refl R h
theorem sim_cont : SimS K Ex tCont uCont := fun Z as F H σ ρ μ De E D' R X h kn kr kb kc => kc σ ρ μ as F H Gr.refl R h
theorem sim_never : SimS K Ex tNever uNever := fun Z as F H σ ρ μ De E D' R X h kn kr kb kc => h.elim
def uSeq (t u : DTS) : DTS := fun De E ρ μ => t { De with nx := u De E } E ρ μ
theorem sim_seq {t s : TS} {u w : DTS} (a : SimS K Ex t u) (b : SimS K Ex s w) : SimS K Ex (tSeq t s) (uSeq u w) := fun Z as F H σ ρ μ De E D' R X h kn kr kb kc =>
  a Z as F H σ ρ μ { De with nx := w De E } E _ R X h (fun σ1 ρ1 μ1 as1 F1 H1 g1 R1 h1 => b Z as1 F1 H1 σ1 ρ1 μ1 De E D' R1 (X.up g1) h1 (fun σ2 ρ2 μ2 as2 F2 H2 g2 => kn σ2 ρ2 μ2 as2 F2 H2 (g1.trans g2))
    (fun v d μ2 as2 F2 H2 g2 => kr v d μ2 as2 F2 H2 (g1.trans g2)) (fun σ2 ρ2 μ2 as2 F2 H2 g2 => kb σ2 ρ2 μ2 as2 F2 H2 (g1.trans g2)) (fun σ2 ρ2 μ2 as2 F2 H2 g2 => kc σ2 ρ2 μ2 as2 F2 H2 (g1.trans g2))) kr kb kc
def uIfS (c : DTT) (t u : DTS) : DTS := fun De E ρ μ => c ρ μ (fun b μ1 => if b = true then t De E ρ μ1 else u De E ρ μ1) E
theorem sim_ifS {tc : TT} {uc : DTT} {t s : TS} {u w : DTS} (c : SimT K Ex tc uc) (a : SimS K Ex t u) (b : SimS K Ex s w) : SimS K Ex (tIfS tc t s) (uIfS uc u w) := fun Z as F H σ ρ μ De E D' R X h kn kr kb kc =>
  c Z as F H σ ρ μ _ E _ R X h fun d μ1 as1 F1 H1 g1 R1 h1 => by
    have go : ∀ {t : TS} {u : DTS}, SimS K Ex t u → u De E ρ μ1 → t D' σ H1 := fun a h => a Z as1 F1 H1 σ ρ μ1 De E D' R1 (X.up g1) h (fun σ2 ρ2 μ2 as2 F2 H2 g2 => kn σ2 ρ2 μ2 as2 F2 H2 (g1.trans g2))
      (fun v d μ2 as2 F2 H2 g2 => kr v d μ2 as2 F2 H2 (g1.trans g2)) (fun σ2 ρ2 μ2 as2 F2 H2 g2 => kb σ2 ρ2 μ2 as2 F2 H2 (g1.trans g2)) (fun σ2 ρ2 μ2 as2 F2 H2 g2 => kc σ2 ρ2 μ2 as2 F2 H2 (g1.trans g2))
    cases d with
    | true => rw [if_pos rfl] at h1 ⊢; exact go a h1
    | false => rw [if_neg Bool.false_ne_true] at h1 ⊢; exact go b h1
/-- the middle told -/
def uCut (t : DTS) : DTS := fun De E ρ μ => ∃ J : Rho → Mem → Prop, t { De with nx := J } E ρ μ ∧ ∀ ρ' μ', J ρ' μ' → De.nx ρ' μ'
theorem sim_cut {t : TS} {u : DTS} (a : SimS K Ex t u) : SimS K Ex t (uCut u) := fun Z as F H σ ρ μ De E D' R X h kn kr kb kc => by
  obtain ⟨J, h1, h2⟩ := h
  exact a Z as F H σ ρ μ { De with nx := J } E D' R X h1 (fun σ2 ρ2 μ2 as2 F2 H2 g2 R2 z => kn σ2 ρ2 μ2 as2 F2 H2 g2 R2 (h2 _ _ z)) kr kb kc
/-- x op= e -/
def uAug (i : Nat) (u : DTE) (dr : DR2) : DTS := fun De E ρ μ => match ρ[i]? with
  | some (some x) => u ρ μ (fun y μ1 => dr x y μ1 fun z μ2 => De.nx (ρ.set i (some z)) μ2) E
  | _ => False
theorem sim_aug {i : Nat} {t : TE} {u : DTE} {r : TIp} {dr : DR2} (a : Sim K Ex t u) (s : SimR K r dr) : SimS K Ex (tAug i t r) (uAug i u dr) := fun Z as F H σ ρ μ De E D' R X h kn kr kb kc => by
  have h : (match ρ[i]? with | some (some x) => u ρ μ (fun y μ1 => dr x y μ1 fun z μ2 => De.nx (ρ.set i (some z)) μ2) E | _ => False) := h
  cases e : ρ[i]? with
  | none => rw [e] at h; exact h.elim
  | some o =>
    rw [e] at h
    cases o with
    | none => exact h.elim
    | some d =>
      obtain ⟨v, h1, h2⟩ := R.env.get i d e
      refine ⟨v, h1, a Z as F H σ ρ μ _ E _ R X h fun v1 d1 μ1 as1 F1 H1 g1 R1 r1 q1 => ?_⟩
      exact s Z as1 F1 H1 μ1 v v1 d d1 _ _ R1.mm (h2.up g1) r1 q1 fun v2 d2 μ2 as2 F2 H2 g2 M2 r2 q2 => kn _ _ μ2 as2 F2 H2 (g1.trans g2) ⟨M2, ((R1.env.up g2).set r2 i)⟩ q2
/-- o.f = e -/
def uSetF (C : Addr) (f : Str) (uo ue : DTE) : DTS := fun De E ρ μ => ue ρ μ (fun d μ1 => uo ρ μ1 (fun x μ2 => match x with
  | .ob k => match μ2[k]? with
    | some (.ins C' gs) => C' = C ∧ gs.length < 1000 ∧ De.nx ρ (μ2.set k (.ins C (putD f d gs)))
    | _ => False
  | _ => False) E) E
theorem sim_setF {C : Addr} {f : Str} {to te : TE} {uo ue : DTE} (c : Cls K C) (n : NoAttr K C f) (o : Sim K Ex to uo) (e : Sim K Ex te ue) : SimS K Ex (sFld K to te f) (uSetF C f uo ue) := fun Z as F H σ ρ μ De E D' R X h kn kr kb kc =>
  e Z as F H σ ρ μ _ E _ R X h fun v d μ1 as1 F1 H1 g1 R1 r1 h1 => o Z as1 F1 H1 σ ρ μ1 _ E _ R1 (X.up g1) h1 fun v2 d2 μ2 as2 F2 H2 g2 R2 r2 h2 => by
    cases r2 <;> try exact h2.elim
    rename_i m a q
    have h2 : (match μ2[m]? with | some (.ins C' gs) => C' = C ∧ gs.length < 1000 ∧ De.nx ρ (μ2.set m (.ins C (putD f d gs))) | _ => False) := h2
    cases z : μ2[m]? with
    | none => rw [z] at h2; exact h2.elim
    | some w =>
      rw [z] at h2
      obtain ⟨b, hb, y⟩ := R2.mm.at_ m w z
      obtain rfl := Option.some.inj (q.symm.trans hb)
      cases w with
      | ins C' gs =>
        obtain ⟨hc, hl, h3⟩ := h2
        subst hc
        obtain ⟨dx, fs, e1, e2⟩ := y
        refine ⟨_, _, dx, fs, rfl, e1, c, n, by rw [e2.len]; exact hl, ?_⟩
        exact kn σ ρ _ as2 F2 _ (g1.trans g2) ⟨R2.mm.put (m := .ins C' (putD f d gs)) q ⟨dx, _, upd_same, e2.put (r1.up g2)⟩, R2.env⟩ h3
      | _ => exact h2.elim
/-! ### what a loop walks -/
end
section
variable {K : PySem.W.Frag} {as as' as1 : List Addr} {F F' F1 H H' H1 : Hp} {Ex : L2.St → XK}
structure ItD (K : PySem.W.Frag) (as : List Addr) (F : Hp) (J : It) (ds : List D) (chk : Mem → Prop) : Prop where
  go : ∀ Z i as' F' H' μ, Gr as F as' F' → Mm K Z as' F' H' μ → chk μ → i < ds.length → J.go i H'
  yld : ∀ Z i as' F' H' μ v H2 d, Gr as F as' F' → Mm K Z as' F' H' μ → chk μ → ds[i]? = some d → J.yld i H' v H2 → ∃ F2, Gr as' F' as' F2 ∧ Mm K Z as' F2 H2 μ ∧ Rep K as' F2 v d
  stop : ∀ Z i as' F' H' μ, Gr as F as' F' → Mm K Z as' F' H' μ → chk μ → ds.length ≤ i → J.stop i H'
abbrev DTI := Rho → Mem → (List D → (Mem → Prop) → Mem → Prop) → XD → Prop
def SimI (K : PySem.W.Frag) (Ex : L2.St → XK) (t : TI) (u : DTI) : Prop :=
  ∀ (Z : Hp) (as : List Addr) (F H : Hp) (σ : L2.St) (ρ : Rho) (μ : Mem) (R : List D → (Mem → Prop) → Mem → Prop) (E : XD) (R' : It → Hp → Prop), Rp K Z as F H σ ρ μ → XL K Ex Z as F E → u ρ μ R E →
    (∀ J ds chk μ' as' F' H', Gr as F as' F' → Rp K Z as' F' H' σ ρ μ' → ItD K as' F' J ds chk → R ds chk μ' → R' J H') → t σ H R'
/-- a list or a tuple, left as it is -/
def iSeq (K : PySem.W.Frag) (tl : TE) : TI := fun σ H R => tl σ H fun x H1 => ∃ a, x = .ref a ∧ (((∃ xs, SqL K H1 a xs) ∧ R (Itl K a) H1) ∨ ((∃ xs, SqT K H1 a xs) ∧ R (Itt K a) H1))
end
section
variable {X : Cx} {tg : Expr}
theorem pi_seq {l : Expr} {tl : TE} (hl : PE X l tl) : PI X tg l (iSeq X.K tl) := by
  refine ⟨fun pins s σ H R I h => ?_⟩
  refine thn (hl.run pins s σ H _ I h) fun v s1 ⟨x, H1, I1, r1, q1⟩ => ?_
  obtain ⟨a, e, ⟨⟨xs, hq⟩, q⟩ | ⟨⟨xs, hq⟩, q⟩⟩ := q1
  · subst e
    cases r1
    obtain ⟨its, rv, p, hz⟩ := I1.list hq
    refine wpAny_pyIter_list p.isList ?_
    refine ⟨s1.heap.objs.size, [s1.heap.objs.size], _, _, H1, rfl, I1.kept (t' := s1.toks) fun b o e => Heap.get?_push_of_some _ e, turn_list a _, ⟨_, Heap.get?_push_size _ rfl, rfl, rfl⟩, fun b hb => ?_, q⟩
    have e : b = s1.heap.objs.size := by simpa using hb
    subst e
    exact I1.fpOk (Nat.le_refl _) (I1.hok.fresh (Nat.le_refl _))
  · subst e
    cases r1
    obtain ⟨its, rv, p, hz⟩ := I1.tuple hq
    refine wpAny_pyIter_tuple (show s1.heap.IsTuple a its.toArray from p) ?_
    refine ⟨s1.heap.objs.size, [s1.heap.objs.size], _, _, H1, rfl, I1.kept (t' := s1.toks) fun b o e => Heap.get?_push_of_some _ e, turn_tuple a _, ⟨_, Heap.get?_push_size _ rfl, rfl, rfl⟩, fun b hb => ?_, q⟩
    have e : b = s1.heap.objs.size := by simpa using hb
    subst e
    exact I1.fpOk (Nat.le_refl _) (I1.hok.fresh (Nat.le_refl _))
end
section
variable {K : PySem.W.Frag} {Z : Hp} {as as' as1 : List Addr} {F F' F1 H H' H1 : Hp} {Ex : L2.St → XK}
def uISeq (u : DTE) : DTI := fun ρ μ R E => u ρ μ (fun x μ1 => match view μ1 x with
  | .lst ds => R ds (fun μ => view μ x = .lst ds) μ1
  | .tup ds => R ds (fun _ => True) μ1
  | _ => False) E
theorem view_tup_any {μ μ' : Mem} {d : D} {ds : List D} (h : view μ d = .tup ds) : view μ' d = .tup ds := by
  cases d with
  | ob k =>
    exfalso
    have h : (match μ[k]? with | some (M.lst ds) => D.lst ds | some (.ins C fs) => .ins C fs | _ => .ob k) = .tup ds := h
    split at h <;> cases h
  | _ => first | exact h | cases h
theorem itD_list {v : V} {d : D} {a : Addr} (ev : v = .ref a) (r : Rep K as F v d) {ds : List D} : ItD K as F (Itl K a) ds (fun μ => view μ d = .lst ds) := by
  subst ev
  have at_ : ∀ Z as' F' H' μ, Gr as F as' F' → Mm K Z as' F' H' μ → view μ d = .lst ds → ∃ vs, SqL K H' a vs ∧ RepL K as' F' vs ds := fun Z as' F' H' μ g M c => by
    obtain ⟨b, vs, e, q, x⟩ := view_lst M (r.up g) c
    cases e
    exact ⟨vs, q, x⟩
  refine ⟨fun Z i as' F' H' μ g M c hi => ?_, fun Z i as' F' H' μ v H2 d' g M c hd y => ?_, fun Z i as' F' H' μ g M c hi => ?_⟩
  · obtain ⟨vs, q, x⟩ := at_ Z as' F' H' μ g M c
    obtain ⟨w, w1, _⟩ := x.get (List.getElem?_eq_getElem hi)
    exact ⟨vs, w, q, w1⟩
  · obtain ⟨vs, q, x⟩ := at_ Z as' F' H' μ g M c
    obtain ⟨w, w1, w2⟩ := x.get hd
    obtain ⟨rfl, y⟩ := y
    obtain rfl := Option.some.inj (w1.symm.trans (y vs q))
    exact ⟨F', Gr.refl, M, w2⟩
  · obtain ⟨vs, q, x⟩ := at_ Z as' F' H' μ g M c
    exact ⟨vs, q, by rw [x.len]; exact hi⟩
theorem itD_tup {v : V} {d : D} {a : Addr} (ev : v = .ref a) (r : Rep K as F v d) {ds : List D} {μ0 : Mem} (e0 : view μ0 d = .tup ds) : ItD K as F (Itt K a) ds (fun _ => True) := by
  subst ev
  have at_ : ∀ Z as' F' H' μ, Gr as F as' F' → Mm K Z as' F' H' μ → ∃ vs, SqT K H' a vs ∧ RepL K as' F' vs ds := fun Z as' F' H' μ g M => by
    obtain ⟨b, vs, e, q, x⟩ := view_tup M (r.up g) (view_tup_any e0)
    cases e
    exact ⟨vs, q, x⟩
  refine ⟨fun Z i as' F' H' μ g M c hi => ?_, fun Z i as' F' H' μ v H2 d' g M c hd y => ?_, fun Z i as' F' H' μ g M c hi => ?_⟩
  · obtain ⟨vs, q, x⟩ := at_ Z as' F' H' μ g M
    obtain ⟨w, w1, _⟩ := x.get (List.getElem?_eq_getElem hi)
    exact ⟨vs, w, q, w1⟩
  · obtain ⟨vs, q, x⟩ := at_ Z as' F' H' μ g M
    obtain ⟨w, w1, w2⟩ := x.get hd
    obtain ⟨rfl, y⟩ := y
    obtain rfl := Option.some.inj (w1.symm.trans (y vs q))
    exact ⟨F', Gr.refl, M, w2⟩
  · obtain ⟨vs, q, x⟩ := at_ Z as' F' H' μ g M
    exact ⟨vs, q, by rw [x.len]; exact hi⟩
theorem sim_iSeq {t : TE} {u : DTE} (a : Sim K Ex t u) : SimI K Ex (iSeq K t) (uISeq u) := fun Z as F H σ ρ μ R E R' r X h k =>
  a Z as F H σ ρ μ _ E _ r X h fun v d μ1 as1 F1 H1 g1 R1 r1 h1 => by
    have h1 : (match view μ1 d with | .lst ds => R ds (fun μ => view μ d = .lst ds) μ1 | .tup ds => R ds (fun _ => True) μ1 | _ => False) := h1
    cases e : view μ1 d with
    | lst ds =>
      rw [e] at h1
      obtain ⟨p, vs, ev, q, x⟩ := view_lst R1.mm r1 e
      exact ⟨p, ev, .inl ⟨⟨vs, q⟩, k _ ds _ μ1 as1 F1 H1 g1 R1 (itD_list ev r1) h1⟩⟩
    | tup ds =>
      rw [e] at h1
      obtain ⟨p, vs, ev, q, x⟩ := view_tup R1.mm r1 e
      exact ⟨p, ev, .inr ⟨⟨vs, q⟩, k _ ds _ μ1 as1 F1 H1 g1 R1 (itD_tup ev r1 e) h1⟩⟩
    | _ => rw [e] at h1; exact h1.elim
/-! range -/
def dints (lo : Int) : Nat → List D
  | 0 => []
  | n + 1 => .int lo :: dints (lo + 1) n
theorem dints_len : ∀ (lo : Int) (n : Nat), (dints lo n).length = n
  | _, 0 => rfl
  | lo, n + 1 => congrArg Nat.succ (dints_len (lo + 1) n)
theorem dints_get : ∀ (lo : Int) (n i : Nat), i < n → (dints lo n)[i]? = some (.int (lo + i))
  | _, 0, _, h => absurd h (Nat.not_lt_zero _)
  | lo, n + 1, 0, _ => by show some (D.int lo) = _; simp
  | lo, n + 1, i + 1, h => by
    show (dints (lo + 1) n)[i]? = _
    rw [dints_get (lo + 1) n i (Nat.lt_of_succ_lt_succ h)]
    congr 2
    omega
theorem itD_rng {lo : Int} {n : Nat} : ItD K as F (Itr lo n) (dints lo n) (fun _ => True) := by
  refine ⟨fun Z i as' F' H' μ g M c hi => by rw [dints_len] at hi; exact hi, fun Z i as' F' H' μ v H2 d g M c hd y => ?_, fun Z i as' F' H' μ g M c hi => by rw [dints_len] at hi; exact hi⟩
  obtain ⟨rfl, rfl⟩ := y
  have hi : i < n := by
    have := (List.getElem?_eq_some_iff.mp hd).1
    rwa [dints_len] at this
  rw [dints_get lo n i hi] at hd
  cases hd
  exact ⟨F', Gr.refl, M, .int _⟩
def uIRng1 (u : DTA) : DTI := fun ρ μ R E => u ρ μ (fun ds μ1 => match ds with
  | [.int j] => (-(2 ^ 62) ≤ j ∧ j < 2 ^ 62) ∧ R (dints 0 j.toNat) (fun _ => True) μ1
  | _ => False) E
def uIRng2 (u : DTA) : DTI := fun ρ μ R E => u ρ μ (fun ds μ1 => match ds with
  | [.int i, .int j] => (-(2 ^ 62) ≤ i ∧ i < 2 ^ 62 ∧ -(2 ^ 62) ≤ j ∧ j < 2 ^ 62) ∧ R (dints i (j - i).toNat) (fun _ => True) μ1
  | _ => False) E
theorem sim_iRng1 {t : TA} {u : DTA} (a : SimA K Ex t u) : SimI K Ex (iRng1 t) (uIRng1 u) := fun Z as F H σ ρ μ R E R' r X h k =>
  a Z as F H σ ρ μ _ E _ r X h fun vs ds μ1 as1 F1 H1 g1 R1 r1 h1 => by
    have h1 : (match (generalizing := false) ds with | [.int j] => (-(2 ^ 62) ≤ j ∧ j < 2 ^ 62) ∧ R (dints 0 j.toNat) (fun _ => True) μ1 | _ => False) := h1
    split at h1
    · cases r1 with
      | cons ra rb =>
        cases ra
        cases rb
        exact ⟨_, rfl, h1.1.1, h1.1.2, k _ _ _ μ1 as1 F1 H1 g1 R1 itD_rng h1.2⟩
    · exact h1.elim
theorem sim_iRng2 {t : TA} {u : DTA} (a : SimA K Ex t u) : SimI K Ex (iRng2 t) (uIRng2 u) := fun Z as F H σ ρ μ R E R' r X h k =>
  a Z as F H σ ρ μ _ E _ r X h fun vs ds μ1 as1 F1 H1 g1 R1 r1 h1 => by
    have h1 : (match (generalizing := false) ds with | [.int i, .int j] => (-(2 ^ 62) ≤ i ∧ i < 2 ^ 62 ∧ -(2 ^ 62) ≤ j ∧ j < 2 ^ 62) ∧ R (dints i (j - i).toNat) (fun _ => True) μ1 | _ => False) := h1
    split at h1
    · cases r1 with
      | cons ra rb =>
        cases ra
        cases rb with
        | cons ra rb =>
          cases ra
          cases rb
          exact ⟨_, _, rfl, h1.1, k _ _ _ μ1 as1 F1 H1 g1 R1 itD_rng h1.2⟩
    · exact h1.elim
/-! ### for -/
def uForGo (ug : DTG) (ub : DTS) (chk : Mem → Prop) (De : DEnds) (E : XD) : List D → Rho → Mem → Prop
  | [], ρ, μ => chk μ ∧ De.nx ρ μ
  | d :: ds, ρ, μ => chk μ ∧ ug d ρ μ (fun ρ1 μ1 => ub { De with nx := uForGo ug ub chk De E ds, ct := uForGo ug ub chk De E ds, bk := De.nx } E ρ1 μ1) E
def uFor (ui : DTI) (ug : DTG) (ub : DTS) : DTS := fun De E ρ μ => ui ρ μ (fun ds chk μ1 => uForGo ug ub chk De E ds ρ μ1) E
theorem sim_for {wi : TI} {ui : DTI} {g : TG} {ug : DTG} {tb : TS} {ub : DTS} (i : SimI K Ex wi ui) (gs : SimG K Ex g ug) (b : SimS K Ex tb ub) : SimS K Ex (tFor wi g tb) (uFor ui ug ub) := fun Z as F H σ ρ μ De E D' R X h kn kr kb kc =>
  i Z as F H σ ρ μ _ E _ R X h fun J ds chk μ1 as1 F1 H1 g1 R1 it h1 => by
    refine ⟨fun i m σ' H' => m = ds.length - i ∧ i ≤ ds.length ∧ ∃ as' F' ρ' μ', Gr as1 F1 as' F' ∧ Rp K Z as' F' H' σ' ρ' μ' ∧ uForGo ug ub chk De E (ds.drop i) ρ' μ', ⟨ds.length, by simp, Nat.zero_le _, as1, F1, ρ, μ1, Gr.refl, R1, by rw [List.drop_zero]; exact h1⟩, ?_⟩
    rintro i m σ' H' ⟨rfl, hi, as', F', ρ', μ', g2, R2, q⟩
    by_cases hlt : i < ds.length
    · rw [List.drop_eq_getElem_cons hlt] at q
      obtain ⟨c, q⟩ := q
      refine .inr ⟨it.go Z i as' F' H' μ' g2 R2.mm c hlt, fun σ2 H2 => ∃ as3 F3 ρ3 μ3, Gr as1 F1 as3 F3 ∧ Rp K Z as3 F3 H2 σ2 ρ3 μ3 ∧ uForGo ug ub chk De E (ds.drop (i + 1)) ρ3 μ3, fun σ2 H2 n => ⟨ds.length - (i + 1), by omega, rfl, hlt, n⟩, fun x H2 y => ?_⟩
      obtain ⟨F2, g3, M3, r3⟩ := it.yld Z i as' F' H' μ' x H2 _ g2 R2.mm c (List.getElem?_eq_getElem hlt) y
      have R3 := R2.up g3 M3
      have g13 := g1.trans (g2.trans g3)
      refine gs Z as' F2 H2 σ' ρ' μ' x _ _ E _ R3 (X.up g13) r3 q fun σ4 ρ4 μ4 as4 F4 H4 g4 R4 q4 => ?_
      refine b Z as4 F4 H4 σ4 ρ4 μ4 _ E _ R4 (X.up (g13.trans g4)) q4 (fun σ5 ρ5 μ5 as5 F5 H5 g5 R5 q5 => ⟨as5, F5, ρ5, μ5, ((g2.trans g3).trans g4).trans g5, R5, q5⟩) (fun v d μ5 as5 F5 H5 g5 => kr v d μ5 as5 F5 H5 ((g13.trans g4).trans g5))
        (fun σ5 ρ5 μ5 as5 F5 H5 g5 R5 q5 => kn σ5 ρ5 μ5 as5 F5 H5 ((g13.trans g4).trans g5) R5 q5) (fun σ5 ρ5 μ5 as5 F5 H5 g5 R5 q5 => ⟨as5, F5, ρ5, μ5, ((g2.trans g3).trans g4).trans g5, R5, q5⟩)
    · have e : ds.drop i = [] := List.drop_eq_nil_of_le (by omega)
      rw [e] at q
      exact .inl ⟨it.stop Z i as' F' H' μ' g2 R2.mm q.1 (by omega), kn σ' ρ' μ' as' F' H' (g1.trans g2) R2 q.2⟩
/-! ### while -/
def uWhN (c : DTT) (b : DTS) (De : DEnds) (E : XD) : Nat → Rho → Mem → Prop
  | 0, _, _ => False
  | n + 1, ρ, μ => c ρ μ (fun t μ1 => if t = true then b { De with nx := uWhN c b De E n, ct := uWhN c b De E n, bk := De.nx } E ρ μ1 else De.nx ρ μ1) E
def uWhile (c : DTT) (b : DTS) : DTS := fun De E ρ μ => ∃ n, uWhN c b De E n ρ μ
theorem sim_while {tc : TT} {uc : DTT} {tb : TS} {ub : DTS} (c : SimT K Ex tc uc) (b : SimS K Ex tb ub) : SimS K Ex (tWhile tc tb) (uWhile uc ub) := fun Z as F H σ ρ μ De E D' R X h kn kr kb kc => by
  obtain ⟨n, h⟩ := h
  refine ⟨fun m σ' H' => ∃ as' F' ρ' μ', Gr as F as' F' ∧ Rp K Z as' F' H' σ' ρ' μ' ∧ uWhN uc ub De E m ρ' μ', ⟨n, as, F, ρ, μ, Gr.refl, R, h⟩, ?_⟩
  rintro m σ' H' ⟨as', F', ρ', μ', g, R2, q⟩
  cases m with
  | zero => exact q.elim
  | succ m =>
    refine c Z as' F' H' σ' ρ' μ' _ E _ R2 (X.up g) q fun t μ3 as3 F3 H3 g3 R3 q3 => ?_
    have gg := g.trans g3
    cases t with
    | true =>
      rw [if_pos rfl] at q3 ⊢
      refine ⟨fun σ4 H4 => ∃ as4 F4 ρ4 μ4, Gr as F as4 F4 ∧ Rp K Z as4 F4 H4 σ4 ρ4 μ4 ∧ uWhN uc ub De E m ρ4 μ4, fun σ4 H4 n4 => ⟨m, Nat.lt_succ_self _, n4⟩, ?_⟩
      exact b Z as3 F3 H3 σ' ρ' μ3 _ E _ R3 (X.up gg) q3 (fun σ5 ρ5 μ5 as5 F5 H5 g5 R5 q5 => ⟨as5, F5, ρ5, μ5, gg.trans g5, R5, q5⟩) (fun v d μ5 as5 F5 H5 g5 => kr v d μ5 as5 F5 H5 (gg.trans g5))
        (fun σ5 ρ5 μ5 as5 F5 H5 g5 R5 q5 => kn σ5 ρ5 μ5 as5 F5 H5 (gg.trans g5) R5 q5) (fun σ5 ρ5 μ5 as5 F5 H5 g5 R5 q5 => ⟨as5, F5, ρ5, μ5, gg.trans g5, R5, q5⟩)
    | false =>
      rw [if_neg Bool.false_ne_true] at q3 ⊢
      exact kn σ' ρ' μ3 as3 F3 H3 gg R3 q3
/-! ### comprehensions -/
theorem Mm.hide {μ : Mem} (M : Mm K Z as F H μ) {p : Addr} {o : HO} (n : H p = none) : Mm K (upd Z p o) as F (upd H p o) μ := by
  refine ⟨M.same.trans (same_upd n), M.len, M.nd, M.fr, fun k m e => ?_, fun a o' e => ?_⟩
  · obtain ⟨a, ha, x⟩ := M.at_ k m e
    exact ⟨a, ha, x.up Gr.refl (upd_ne (fun z : a = p => M.new n (by rw [← z]; exact List.mem_of_getElem? ha)))⟩
  · by_cases z : a = p
    · subst z
      rw [upd_same] at e ⊢
      exact ⟨e, M.newF n, M.new n⟩
    · rw [upd_ne z] at e ⊢
      exact M.hid a o' e
theorem Mm.rehide {μ : Mem} {p : Addr} {o o' : HO} (M : Mm K (upd Z p o) as F H μ) : Mm K (upd Z p o') as F (upd H p o') μ := by
  obtain ⟨e1, e2, e3⟩ := M.hid p o upd_same
  refine ⟨fun b u e => ?_, M.len, M.nd, M.fr, fun k m e => ?_, fun a u e => ?_⟩
  · rw [upd_ne (ne_of_none e e2)]; exact M.same _ _ e
  · obtain ⟨a, ha, x⟩ := M.at_ k m e
    exact ⟨a, ha, x.up Gr.refl (upd_ne (fun z : a = p => e3 (by rw [← z]; exact List.mem_of_getElem? ha)))⟩
  · by_cases z : a = p
    · subst z
      rw [upd_same] at e ⊢
      exact ⟨e, e2, e3⟩
    · rw [upd_ne z] at e ⊢
      exact M.hid a u (by rw [upd_ne z]; exact e)
theorem Mm.showF {μ : Mem} {p : Addr} {o : HO} (M : Mm K (upd Z p o) as F H μ) (nz : Z p = none) : Mm K Z as (upd F p o) H μ ∧ Gr as F as (upd F p o) := by
  obtain ⟨e1, e2, e3⟩ := M.hid p o upd_same
  refine ⟨⟨fun b u e => ?_, M.len, M.nd, fun a ha => ?_, fun k m e => ?_, fun a u e => ?_⟩, Gr.upd e2⟩
  · by_cases z : b = p
    · subst z; rw [upd_same] at e; rw [← e]; exact e1
    · rw [upd_ne z] at e; exact M.same _ _ e
  · rw [upd_ne (fun z : a = p => e3 (by rw [← z]; exact ha))]; exact M.fr a ha
  · obtain ⟨a, ha, x⟩ := M.at_ k m e
    exact ⟨a, ha, x.up (Gr.upd e2) rfl⟩
  · have ne : a ≠ p := ne_of_none e nz
    obtain ⟨h1, h2, h3⟩ := M.hid a u (by rw [upd_ne ne]; exact e)
    exact ⟨h1, by rw [upd_ne ne]; exact h2, h3⟩
theorem Mm.showM {μ : Mem} {p : Addr} {o : HO} {m : DX.M} (M : Mm K (upd Z p o) as F H μ) (nz : Z p = none) (x : MAt K (as ++ [p]) F H p m) : Mm K Z (as ++ [p]) F H (μ ++ [m]) := by
  obtain ⟨e1, e2, e3⟩ := M.hid p o upd_same
  refine ⟨M.same, by rw [List.length_append, List.length_append, M.len]; rfl, List.nodup_append.mpr ⟨M.nd, List.nodup_cons.mpr ⟨List.not_mem_nil, List.nodup_nil⟩, fun a ha b hb => ?_⟩, fun a ha => ?_, fun k m' e => ?_, fun a u e => ?_⟩
  · rw [List.mem_singleton.mp hb]
    exact fun z => e3 (by rw [← z]; exact ha)
  · rcases List.mem_append.mp ha with z | z
    · exact M.fr a z
    · rw [List.mem_singleton.mp z]; exact e2
  · by_cases hk : k < μ.length
    · rw [List.getElem?_append_left hk] at e
      obtain ⟨a, ha, y⟩ := M.at_ k m' e
      exact ⟨a, (Gr.add (F := F)).p k a ha, y.up Gr.add rfl⟩
    · rw [List.getElem?_append_right (by omega)] at e
      have hz : k - μ.length = 0 := by
        have := (List.getElem?_eq_some_iff.mp e).1
        simp at this
        omega
      rw [hz] at e
      cases e
      refine ⟨p, ?_, x⟩
      rw [List.getElem?_append_right (by have := M.len; omega), M.len, hz]
      rfl
  · have ne : a ≠ p := ne_of_none e nz
    obtain ⟨h1, h2, h3⟩ := M.hid a u (by rw [upd_ne ne]; exact e)
    exact ⟨h1, h2, fun z => (List.mem_append.mp z).elim h3 fun z => ne (List.mem_singleton.mp z)⟩
def wipeD (ρ : Rho) : List Nat → Rho
  | [] => ρ
  | v :: vs => (wipeD ρ vs).set v none
theorem EnvR.wipe {σ : L2.St} {ρ : Rho} (h : EnvR K as F σ ρ) : ∀ vs : List Nat, EnvR K as F (L2.wipe σ vs) (wipeD ρ vs)
  | [] => h
  | v :: vs => (EnvR.wipe h vs).unset v
/-- a target that stores within vs alone -/
def Wip (g : TG) (vs : List Nat) : Prop := ∀ v σ H Q, g v σ H Q → g v σ H (fun σ2 H2 => L2.wipe σ2 vs = L2.wipe σ vs ∧ Q σ2 H2)
def Wips (g : TGs) (vs : List Nat) : Prop := ∀ v σ H Q, g v σ H Q → g v σ H (fun σ2 H2 => L2.wipe σ2 vs = L2.wipe σ vs ∧ Q σ2 H2)
theorem wipe_in : ∀ {vs : List Nat} {σ : L2.St} {i : Nat}, i ∈ vs → i < σ.length → (L2.wipe σ vs)[i]? = some none
  | [], _, _, h, _ => absurd h List.not_mem_nil
  | v :: vs, σ, i, h, hl => by
    unfold L2.wipe
    by_cases e : v = i
    · subst e
      rw [List.getElem?_set_self (by rw [wipe_length]; exact hl)]
    · rw [List.getElem?_set_ne e]
      exact wipe_in ((List.mem_cons.mp h).resolve_left fun z => e z.symm) hl
theorem wipe_set {vs : List Nat} {i : Nat} {x : Option V} (hi : i ∈ vs) (σ : L2.St) : L2.wipe (σ.set i x) vs = L2.wipe σ vs := by
  refine List.ext_getElem? fun j => ?_
  by_cases hj : j ∈ vs
  · by_cases hl : j < σ.length
    · rw [wipe_in hj hl, wipe_in hj (by rw [List.length_set]; exact hl)]
    · rw [List.getElem?_eq_none (by rw [wipe_length, List.length_set]; omega), List.getElem?_eq_none (by rw [wipe_length]; omega)]
  · rw [wipe_out hj, wipe_out hj, List.getElem?_set_ne (fun z : i = j => hj (by rw [← z]; exact hi))]
theorem wip_name {i : Nat} {vs : List Nat} (h : i ∈ vs) : Wip (gName i) vs := fun v σ H Q q => ⟨wipe_set h σ, q⟩
theorem wip_nil {vs : List Nat} : Wips gNil vs := fun v σ H Q q => ⟨q.1, rfl, q.2⟩
theorem wip_cons {g : TG} {gs : TGs} {vs : List Nat} (mono : ∀ v σ H Q Q', (∀ σ H, Q σ H → Q' σ H) → g v σ H Q → g v σ H Q') (mono2 : ∀ v σ H Q Q', (∀ σ H, Q σ H → Q' σ H) → gs v σ H Q → gs v σ H Q') (a : Wip g vs) (b : Wips gs vs) : Wips (gCons g gs) vs := fun v σ H Q q => by
  obtain ⟨x, r, rfl, q⟩ := q
  refine ⟨x, r, rfl, mono _ _ _ _ _ (fun σ1 H1 ⟨e, z⟩ => ?_) (a _ _ _ _ q)⟩
  exact mono2 _ _ _ _ _ (fun σ2 H2 ⟨e2, z2⟩ => ⟨e2.trans e, z2⟩) (b _ _ _ _ z)
theorem wip_tup {gs : TGs} {vs : List Nat} {n : Nat} (b : Wips gs vs) : Wip (gTup K n gs) vs := fun v σ H Q q => by
  obtain ⟨a, xs, e, hq, hl, q⟩ := q
  exact ⟨a, xs, e, hq, hl, b _ _ _ _ q⟩
theorem mono_name {i : Nat} : ∀ v σ H Q Q', (∀ σ H, Q σ H → Q' σ H) → gName i v σ H Q → gName i v σ H Q' := fun v σ H Q Q' h q => h _ _ q
theorem mono_nil : ∀ v σ H Q Q', (∀ σ H, Q σ H → Q' σ H) → gNil v σ H Q → gNil v σ H Q' := fun v σ H Q Q' h q => ⟨q.1, h _ _ q.2⟩
theorem mono_cons {g : TG} {gs : TGs} (mono : ∀ v σ H Q Q', (∀ σ H, Q σ H → Q' σ H) → g v σ H Q → g v σ H Q') (mono2 : ∀ v σ H Q Q', (∀ σ H, Q σ H → Q' σ H) → gs v σ H Q → gs v σ H Q') : ∀ v σ H Q Q', (∀ σ H, Q σ H → Q' σ H) → gCons g gs v σ H Q → gCons g gs v σ H Q' := fun v σ H Q Q' h q => by
  obtain ⟨x, r, rfl, q⟩ := q
  exact ⟨x, r, rfl, mono _ _ _ _ _ (fun σ1 H1 z => mono2 _ _ _ _ _ h z) q⟩
theorem mono_tup {gs : TGs} {n : Nat} (mono2 : ∀ v σ H Q Q', (∀ σ H, Q σ H → Q' σ H) → gs v σ H Q → gs v σ H Q') : ∀ v σ H Q Q', (∀ σ H, Q σ H → Q' σ H) → gTup K n gs v σ H Q → gTup K n gs v σ H Q' := fun v σ H Q Q' h q => by
  obtain ⟨a, xs, e, hq, hl, q⟩ := q
  exact ⟨a, xs, e, hq, hl, mono2 _ _ _ _ _ h q⟩
def uLcGo (ug : DTG) (ut : DTT) (ue : DTE) (ρw : Rho) (chk : Mem → Prop) (fin : List D → Mem → Prop) : List D → List D → Mem → Prop
  | [], acc, μ => chk μ ∧ fin acc μ
  | d :: ds, acc, μ => chk μ ∧ ug d ρw μ (fun ρ1 μ1 => ut ρ1 μ1 (fun b μ2 => if b = true then ue ρ1 μ2 (fun y μ3 => acc.length < 1000000 ∧ uLcGo ug ut ue ρw chk fin ds (acc ++ [y]) μ3) XN else uLcGo ug ut ue ρw chk fin ds acc μ2) XN) XN
def uLc (m : Bool) (ui : DTI) (ug : DTG) (ut : DTT) (ue : DTE) (vs : List Nat) : DTE := fun ρ μ Q E => ui ρ μ (fun ds chk μ1 =>
  uLcGo ug ut ue (wipeD ρ vs) chk (fun acc μ2 => if m = true then Q (.ob μ2.length) (μ2 ++ [.lst acc]) else Q (.lst acc) μ2) ds [] μ1) E
def uYes : DTT := fun _ μ Q _ => Q true μ
theorem sim_yes : SimT K Ex tYes uYes := fun Z as F H σ ρ μ Q E Q' R X h k => k true μ as F H Gr.refl R h
theorem wipe_wipe (σ : L2.St) (vs : List Nat) : L2.wipe (L2.wipe σ vs) vs = L2.wipe σ vs := by
  refine List.ext_getElem? fun j => ?_
  by_cases hj : j ∈ vs
  · by_cases hl : j < σ.length
    · rw [wipe_in hj hl, wipe_in hj (by rw [wipe_length]; exact hl)]
    · rw [List.getElem?_eq_none (by rw [wipe_length, wipe_length]; omega), List.getElem?_eq_none (by rw [wipe_length]; omega)]
  · rw [wipe_out hj]
theorem sim_lc (m : Bool) {wi : TI} {ui : DTI} {g : TG} {ug : DTG} {tt : TT} {ut : DTT} {te : TE} {ue : DTE} {vs : List Nat} (i : SimI K Ex wi ui) (gs : SimG K X0 g ug) (ts : SimT K X0 tt ut) (es : Sim K X0 te ue) (wp : Wip g vs) (mono : ∀ v σ H Q Q', (∀ σ H, Q σ H → Q' σ H) → g v σ H Q → g v σ H Q') :
    Sim K Ex (tLc wi g tt te vs) (uLc m ui ug ut ue vs) := fun Z as F H σ ρ μ Q E Q' R X h k =>
  i Z as F H σ ρ μ _ E _ R X h fun J ds chk μ1 as1 F1 H1 g1 R1 it h1 => fun D nD => by
    have nZ : Z D = none := by
      cases e : Z D with
      | none => rfl
      | some o => have := (R1.mm.hid D o e).1; rw [nD] at this; cases this
    refine ⟨fun i n H' => n = ds.length - i ∧ i ≤ ds.length ∧ ∃ as' F' μ' av acc, Gr as1 F1 as' F' ∧ RepL K as' F' av acc ∧ Mm K (upd Z D (.lst av)) as' F' H' μ' ∧ uLcGo ug ut ue (wipeD ρ vs) chk (fun acc μ2 => if m = true then Q (.ob μ2.length) (μ2 ++ [.lst acc]) else Q (.lst acc) μ2) (ds.drop i) acc μ',
      ⟨ds.length, by simp, Nat.zero_le _, as1, F1, μ1, [], [], Gr.refl, .nil, R1.mm.hide nD, by rw [List.drop_zero]; exact h1⟩, ?_⟩
    rintro i n H' ⟨rfl, hi, as', F', μ', av, acc, g2, ra, M2, q⟩
    have ha := (M2.hid D _ upd_same).1
    by_cases hlt : i < ds.length
    · rw [List.drop_eq_getElem_cons hlt] at q
      obtain ⟨c, q⟩ := q
      refine .inr ⟨it.go _ i as' F' H' μ' g2 M2 c hlt, fun H3 => ∃ as3 F3 μ3 av acc, Gr as1 F1 as3 F3 ∧ RepL K as3 F3 av acc ∧ Mm K (upd Z D (.lst av)) as3 F3 H3 μ3 ∧ uLcGo ug ut ue (wipeD ρ vs) chk (fun acc μ2 => if m = true then Q (.ob μ2.length) (μ2 ++ [.lst acc]) else Q (.lst acc) μ2) (ds.drop (i + 1)) acc μ3,
        fun H3 z => ⟨ds.length - (i + 1), by omega, rfl, hlt, z⟩, fun x H2 y => ?_⟩
      obtain ⟨F2, g3, M3, r3⟩ := it.yld _ i as' F' H' μ' x H2 _ g2 M2 c (List.getElem?_eq_getElem hlt) y
      have gA := g2.trans g3
      have R3 : Rp K (upd Z D (.lst av)) as' F2 H2 (L2.wipe σ vs) (wipeD ρ vs) μ' := ⟨M3, (R1.env.up gA).wipe vs⟩
      refine mono _ _ _ _ _ (fun σ2 H2 z => ?_) (wp _ _ _ _ (gs _ as' F2 H2 (L2.wipe σ vs) (wipeD ρ vs) μ' x _ _ XN (fun σ4 H4 => tt σ4 H4 fun b H5 => if b = true then te σ4 H5 fun y H6 => ∃ a2, H6 D = some (.lst a2) ∧ a2.length < sizeLine ∧ (∃ as3 F3 μ3 av acc, Gr as1 F1 as3 F3 ∧ RepL K as3 F3 av acc ∧ Mm K (upd Z D (.lst av)) as3 F3 (upd H6 D (.lst (a2 ++ [y]))) μ3 ∧ uLcGo ug ut ue (wipeD ρ vs) chk (fun acc μ2 => if m = true then Q (.ob μ2.length) (μ2 ++ [.lst acc]) else Q (.lst acc) μ2) (ds.drop (i + 1)) acc μ3)
          else ∃ as3 F3 μ3 av acc, Gr as1 F1 as3 F3 ∧ RepL K as3 F3 av acc ∧ Mm K (upd Z D (.lst av)) as3 F3 H5 μ3 ∧ uLcGo ug ut ue (wipeD ρ vs) chk (fun acc μ2 => if m = true then Q (.ob μ2.length) (μ2 ++ [.lst acc]) else Q (.lst acc) μ2) (ds.drop (i + 1)) acc μ3) R3 XL.no r3 q fun σ4 ρ4 μ4 as4 F4 H4 g4 R4 q4 => ?_))
      · exact ⟨z.1.trans (wipe_wipe σ vs), z.2⟩
      · refine ts _ as4 F4 H4 σ4 ρ4 μ4 _ XN _ R4 XL.no q4 fun b μ5 as5 F5 H5 g5 R5 q5 => ?_
        have gB := (gA.trans g4).trans g5
        have rB := ((ra.up g3).up g4).up g5
        cases b with
        | false =>
          rw [if_neg Bool.false_ne_true] at q5 ⊢
          exact ⟨as5, F5, μ5, av, acc, gB, rB, R5.mm, q5⟩
        | true =>
          rw [if_pos rfl] at q5 ⊢
          refine es _ as5 F5 H5 σ4 ρ4 μ5 _ XN _ R5 XL.no q5 fun w d6 μ6 as6 F6 H6 g6 R6 r6 q6 => ?_
          have rC := rB.up g6
          refine ⟨av, (R6.mm.hid D _ upd_same).1, ?_, as6, F6, μ6, av ++ [w], acc ++ [d6], gB.trans g6, rC.append (.cons r6 .nil), R6.mm.rehide, q6.2⟩
          rw [rC.len]
          exact Nat.lt_of_lt_of_le q6.1 (by decide)
    · have e : ds.drop i = [] := List.drop_eq_nil_of_le (by omega)
      rw [e] at q
      obtain ⟨c, q⟩ := q
      refine .inl ⟨it.stop _ i as' F' H' μ' g2 M2 c (by omega), ?_⟩
      have gA := g1.trans g2
      cases m with
      | true =>
        have q : (if true = true then Q (.ob μ'.length) (μ' ++ [.lst acc]) else Q (.lst acc) μ') := q
        rw [if_pos rfl] at q
        have M4 := M2.showM (m := .lst acc) nZ ⟨av, ha, ra.up Gr.add⟩
        exact k _ _ _ _ F' H' (gA.trans Gr.add) ⟨M4, R1.env.up (g2.trans Gr.add)⟩ (rep_ob M2.len) q
      | false =>
        have q : (if false = true then Q (.ob μ'.length) (μ' ++ [.lst acc]) else Q (.lst acc) μ') := q
        rw [if_neg Bool.false_ne_true] at q
        obtain ⟨M4, g4⟩ := M2.showF nZ
        exact k _ _ μ' as' _ H' (gA.trans g4) ⟨M4, R1.env.up (g2.trans g4)⟩ (.lst upd_same (ra.up g4)) q
end
end DX
set_option Elab.async false
set_option linter.all false
set_option maxRecDepth 100000
set_option maxHeartbeats 4000000
namespace DX
open PySem PySem.Spec PyProof.Rows L2
/-! ### rules and readings in one -/
section
variable {X : Cx} {K : PySem.W.Frag} {Ex : L2.St → XK} {pos : Pos} {a b c e : Expr} {es : List Expr} {ta tb tc te : TE} {ua ub uc ue : DTE} {t : TA} {u : DTA} {r r' : R2} {dr dr' : DR2} {x : Str}
theorem d_var (i : Nat) {x : Str} {pos : Pos} (hN : X.N[i]? = some x := by rfl) (hv : Vis X.env.scope x := by first | exact Or.inl rfl | exact Or.inr (Or.inl rfl) | exact Or.inr (Or.inr rfl)) (hd : (x == ("__debug__" : Str)) = false := by decide)
    (hcd : (x == ("__classdict__" : Str)) = false := by decide) : PD X K Ex (.Name x pos) (tVar i) (uVar i) := ⟨pv i hN hv hd hcd, sim_var i⟩
theorem d_int {i j pos} : PD X K Ex (.Constant (.int i) j pos) (tC (.int i)) (uC (.int i)) := ⟨pe_int, sim_c fun _ _ => .int _⟩
theorem d_bl {b j pos} : PD X K Ex (.Constant (.bool b) j pos) (tC (.bl b)) (uC (.bl b)) := ⟨pe_bl, sim_c fun _ _ => .bl _⟩
theorem d_non {j pos} : PD X K Ex (.Constant .none j pos) (tC .non) (uC .non) := ⟨pe_non, sim_c fun _ _ => .non⟩
theorem d_str {x j pos} : PD X K Ex (.Constant (.str x) j pos) (tC (.str x)) (uC (.str x)) := ⟨pe_str, sim_c fun _ _ => .str _⟩
theorem d_glob {x : Str} {v : V} {d : D} {u : Value} {pos : Pos} (hm : X.mg x = some u) (r : RelV v u) (rep : ∀ as F, Rep K as F v d) (hg : Gl X x := by rfl) (hd : (x == ("__debug__" : Str)) = false := by decide) : PD X K Ex (.Name x pos) (tC v) (uC d) := ⟨pe_glob hg hm r hd, sim_c rep⟩
theorem a_nil : AD X K Ex [] tNil uNil := ⟨pa_nil, sim_nil⟩
theorem a_cons (h : PD X K Ex e te ue) (r : AD X K Ex es t u) (hs : starEach (e :: es) X.env = (false, eval e X.env) :: starEach es X.env := by rfl) : AD X K Ex (e :: es) (tCons te t) (uCons ue u) := ⟨pa_cons h.pe r.pe hs, sim_cons h.sim r.sim⟩
theorem d_tup {x1} (h : AD X K Ex es t u) : PD X K Ex (.Tuple es x1 pos) (tTup t) (uTup u) := ⟨pe_tup h.pe, sim_tup h.sim⟩
theorem d_lst (h : AD X K Ex es t u) : PD X K Ex (.List es pos) (tLst t) (uLst u) := ⟨pe_lst h.pe, sim_lst h.sim⟩
theorem d_lstM (h : AD X K Ex es t u) : PD X K Ex (.List es pos) (tLst t) (uLstM u) := ⟨pe_lst h.pe, sim_lstM h.sim⟩
theorem d_op {op : Operator} (ho : OpR X (binaryOp op) r) (s : SimR K r dr) (ha : PD X K Ex a ta ua) (hb : PD X K Ex b tb ub) : PD X K Ex (.BinOp a op b pos) (tOp r ta tb) (uOp dr ua ub) := ⟨pe_op ho ha.pe hb.pe, sim_op s ha.sim hb.sim⟩
theorem d_un {f : Int → Int} {op : UnaryOp} (ho : UnR X (unaryOp op) (rU fun i => .int (f i))) (ha : PD X K Ex a ta ua) : PD X K Ex (.UnaryOp op a pos) (tUn (rU fun i => .int (f i)) ta) (uUn (fun i => .int (f i)) ua) := ⟨pe_un ho ha.pe, sim_un ha.sim⟩
theorem d_cmp {op : CmpOp} (ho : OpR X (compareOp op) r) (s : SimR K r dr) (ha : PD X K Ex a ta ua) (hb : PD X K Ex b tb ub) (hm : behindInMarks op b = false) : PD X K Ex (.Compare a [op] [b] pos) (tOp r ta tb) (uOp dr ua ub) := ⟨pe_cmpR ho ha.pe hb.pe hm, sim_op s ha.sim hb.sim⟩
theorem t_cmp {op : CmpOp} (ho : OpR X (compareOp op) r) (s : SimR K r dr) (ha : PD X K Ex a ta ua) (hb : PD X K Ex b tb ub) (hm : behindInMarks op b = false) : TD X K Ex (.Compare a [op] [b] pos) (tTest (tOp r ta tb)) (uTest (uOp dr ua ub)) := ⟨pt_cmpR ho ha.pe hb.pe hm, sim_test (sim_op s ha.sim hb.sim)⟩
theorem d_isN {j pos2} (ha : PD X K Ex a ta ua) : PD X K Ex (.Compare a [.Is] [.Constant .none j pos2] pos) (tOp (fun x y H Q => y = .non ∧ Q (.bl (decide (x = .non))) H) ta (tC .non)) (uIsN false ua) := ⟨pe_cmpR op_isN ha.pe pe_non (nomark _), sim_isN ha.sim⟩
theorem d_notN {j pos2} (ha : PD X K Ex a ta ua) : PD X K Ex (.Compare a [.IsNot] [.Constant .none j pos2] pos) (tOp (fun x y H Q => y = .non ∧ Q (.bl (!decide (x = .non))) H) ta (tC .non)) (uIsN true ua) := ⟨pe_cmpR op_notN ha.pe pe_non (nomark _), sim_notN ha.sim⟩
theorem t_isN {j pos2} (ha : PD X K Ex a ta ua) : TD X K Ex (.Compare a [.Is] [.Constant .none j pos2] pos) (tTest (tOp (fun x y H Q => y = .non ∧ Q (.bl (decide (x = .non))) H) ta (tC .non))) (uTest (uIsN false ua)) := ⟨pt_cmpR op_isN ha.pe pe_non (nomark _), sim_test (sim_isN ha.sim)⟩
theorem t_notN {j pos2} (ha : PD X K Ex a ta ua) : TD X K Ex (.Compare a [.IsNot] [.Constant .none j pos2] pos) (tTest (tOp (fun x y H Q => y = .non ∧ Q (.bl (!decide (x = .non))) H) ta (tC .non))) (uTest (uIsN true ua)) := ⟨pt_cmpR op_notN ha.pe pe_non (nomark _), sim_test (sim_notN ha.sim)⟩
theorem d_chain {op op' : CmpOp} (ho : OpR X (compareOp op) r) (s : SimR K r dr) (ho' : OpR X (compareOp op') r') (s' : SimR K r' dr') (ha : PD X K Ex a ta ua) (hb : PD X K Ex b tb ub) (hc : PD X K Ex c tc uc) (hm : lastMarks [op, op'] [b, c] = false := by with_unfolding_all rfl) :
    PD X K Ex (.Compare a [op, op'] [b, c] pos) (tChain r r' ta tb tc) (uChain dr dr' ua ub uc) := ⟨pe_chain ho ho' ha.pe hb.pe hc.pe hm, sim_chain s s' ha.sim hb.sim hc.sim⟩
theorem t_chain {op op' : CmpOp} (ho : OpR X (compareOp op) r) (s : SimR K r dr) (ho' : OpR X (compareOp op') r') (s' : SimR K r' dr') (ha : PD X K Ex a ta ua) (hb : PD X K Ex b tb ub) (hc : PD X K Ex c tc uc) (hm : lastMarks [op, op'] [b, c] = false := by with_unfolding_all rfl) :
    TD X K Ex (.Compare a [op, op'] [b, c] pos) (tTest (tChain r r' ta tb tc)) (uTest (uChain dr dr' ua ub uc)) := ⟨pt_chain ho ho' ha.pe hb.pe hc.pe hm, sim_test (sim_chain s s' ha.sim hb.sim hc.sim)⟩
theorem t_val (h : PD X K Ex e te ue) (he : ∀ whole, isTrue e X.env whole = (do let v ← whole; standAt e.pos; holding [v] (truthy v)) := by intro _; rfl) : TD X K Ex e (tB te) (uTest ue) := ⟨pt_val h.pe he, sim_test h.sim⟩
theorem t_tru (h : PD X K Ex e te ue) (hK : X.K = K := by rfl) (he : ∀ whole, isTrue e X.env whole = (do let v ← whole; standAt e.pos; holding [v] (truthy v)) := by intro _; rfl) : TD X K Ex e (fun σ H Q => te σ H fun x H' => ∃ k, TruV K x H' k ∧ Q k H') (uTru ue) := by
  subst hK
  exact ⟨pt_truth h.pe he, sim_tru h.sim⟩
variable {tA tB' : TT} {uA uB : DTT} {rest : List Expr}
theorem w_and1 (h : TD X K Ex a tA uA) : WD X K Ex (.BoolOp .And [a] pos) tA uA := ⟨pw_and1 h.pe, h.sim⟩
theorem w_or1 (h : TD X K Ex a tA uA) : WD X K Ex (.BoolOp .Or [a] pos) tA uA := ⟨pw_or1 h.pe, h.sim⟩
theorem w_and (h : TD X K Ex a tA uA) (g : WD X K Ex (.BoolOp .And (b :: rest) pos) tB' uB) : WD X K Ex (.BoolOp .And (a :: b :: rest) pos) (tAnd tA tB') (uAndB uA uB) := ⟨pw_and h.pe g.pe, sim_andB h.sim g.sim⟩
theorem w_or (h : TD X K Ex a tA uA) (g : WD X K Ex (.BoolOp .Or (b :: rest) pos) tB' uB) : WD X K Ex (.BoolOp .Or (a :: b :: rest) pos) (tOr tA tB') (uOrB uA uB) := ⟨pw_or h.pe g.pe, sim_orB h.sim g.sim⟩
theorem WD.td (h : WD X K Ex e tA uA) : TD X K Ex e tA uA := ⟨PW.pt h.pe, h.sim⟩
theorem t_not (h : TD X K Ex a tA uA) : TD X K Ex (.UnaryOp .Not a pos) (tNot tA) (uNotB uA) := ⟨pt_not h.pe, sim_notB h.sim⟩
theorem d_one {op} (h : PD X K Ex a ta ua) : PD X K Ex (.BoolOp op [a] pos) ta ua := ⟨pe_one h.pe, h.sim⟩
theorem d_and (h : PD X K Ex a ta ua) (g : PD X K Ex (.BoolOp .And (b :: rest) pos) tb ub) (hK : X.K = K := by rfl) : PD X K Ex (.BoolOp .And (a :: b :: rest) pos) (tAndT K ta tb) (uAnd ua ub) := by
  subst hK
  exact ⟨pe_andT h.pe g.pe, sim_and h.sim g.sim⟩
theorem d_or (h : PD X K Ex a ta ua) (g : PD X K Ex (.BoolOp .Or (b :: rest) pos) tb ub) (hK : X.K = K := by rfl) : PD X K Ex (.BoolOp .Or (a :: b :: rest) pos) (tOrT K ta tb) (uOr ua ub) := by
  subst hK
  exact ⟨pe_orT h.pe g.pe, sim_or h.sim g.sim⟩
theorem d_not (h : PD X K Ex a ta ua) (hK : X.K = K := by rfl) : PD X K Ex (.UnaryOp .Not a pos) (tNotT K ta) (uNot ua) := by
  subst hK
  exact ⟨pe_notT h.pe, sim_not h.sim⟩
theorem d_ifExp (h : TD X K Ex c tA uA) (ha : PD X K Ex a ta ua) (hb : PD X K Ex b tb ub) : PD X K Ex (.IfExp c a b pos) (tIf tA ta tb) (uIf uA ua ub) := ⟨pe_ifExp h.pe ha.pe hb.pe, sim_if h.sim ha.sim hb.sim⟩
/-! subscripts, slices, fields -/
theorem d_ix (ha : PD X K Ex a ta ua) (hb : PD X K Ex b tb ub) (hK : X.K = K := by rfl) (hs : PlainIx b := by exact fun _ _ => rfl) : PD X K Ex (.Subscript a b pos) (tOp (rIx K) ta tb) (uOp dIx ua ub) := ⟨pe_ix (ix_A hK) ha.pe hb.pe hs, sim_op sim_ix ha.sim hb.sim⟩
structure OD (X : Cx) (K : PySem.W.Frag) (Ex : L2.St → XK) (e : Option Expr) (t : TO) (u : DTO) : Prop where
  pe : PO X e t
  sim : SimO K Ex t u
theorem o_none : OD X K Ex none tNoPart uNoPart := ⟨po_none, sim_noPart⟩
theorem o_some (h : PD X K Ex e te ue) : OD X K Ex (some e) (tPart te) (uPart ue) := ⟨po_some h.pe, sim_part h.sim⟩
theorem d_sl (m : Bool) {lo hi : Option Expr} {tl th : TO} {ul uh : DTO} {p2 : Pos} (ha : PD X K Ex a ta ua) (hl : OD X K Ex lo tl ul) (hh : OD X K Ex hi th uh) (hK : X.K = K := by rfl) : PD X K Ex (.Subscript a (.Slice lo hi none p2) pos) (tSl (rSlAll K) ta tl th) (uSl m ua ul uh) := ⟨pe_slice (sl_A hK) ha.pe hl.pe hh.pe, sim_sl m ha.sim hl.sim hh.sim⟩
theorem d_fld {C : Addr} {f : Str} (cl : Cls K C) (n : NoAttr K C f) (h : PD X K Ex e te ue) (hK : X.K = K := by rfl) (hb : attributeBase e f X.env (eval e X.env) = eval e X.env := by rfl) : PD X K Ex (.Attribute e f pos) (tFld K te f) (uFld C f ue) := by
  subst hK
  exact ⟨pe_fld h.pe hb, sim_fld cl n h.sim⟩
/-! built-in calls -/
variable {rc : List V → Hp → VK → Prop} {dc : DC} {id T : String} {p : Pos}
theorem d_callB (hc : CallR X (.builtin id) rc) (s : SimC K rc dc) (hm : X.mg x = none) (ha : AD X K Ex (e :: es) t u) (hg : Gl X x := by rfl) (hv : bootBuiltins x = some (.builtin id) := by decide +kernel) (hn : x ≠ "__name__" := by decide) (hdb : (x == ("__debug__" : Str)) = false := by decide)
    (he : starEach (e :: es) X.env = (false, eval e X.env) :: starEach es X.env := by rfl) (hpl : (backTo pos (starEach es X.env)).any (·.1) = false := by rfl) : PD X K Ex (.Call (.Name x p) (e :: es) [] pos) (tCB rc t) (uCB dc u) := ⟨pe_callB hc hg hm hv ha.pe hn hdb he hpl, sim_cb s ha.sim⟩
theorem d_callTy (hc : CallR X (.type T) rc) (s : SimC K rc dc) (hm : X.mg x = none) (ha : AD X K Ex (e :: es) t u) (hg : Gl X x := by rfl) (hv : bootBuiltins x = some (.type T) := by decide +kernel) (hn : x ≠ "__name__" := by decide) (hdb : (x == ("__debug__" : Str)) = false := by decide)
    (he : starEach (e :: es) X.env = (false, eval e X.env) :: starEach es X.env := by rfl) (hpl : (backTo pos (starEach es X.env)).any (·.1) = false := by rfl) : PD X K Ex (.Call (.Name x p) (e :: es) [] pos) (tCB rc t) (uCB dc u) := ⟨pe_callTy hc hg hm hv ha.pe hn hdb he hpl, sim_cb s ha.sim⟩
theorem d_isB {n : Str} {Tn : String} {p1 p2 : Pos} (Tt : Ty) (hT : ∀ C, Tt ≠ .own C) (eT : tyVal Tt = .type Tn) (hm : X.mg "isinstance" = none) (hm2 : X.mg n = none) (ha : PD X K Ex e te ue) (hv : bootBuiltins n = some (.type Tn) := by decide +kernel) (hg : Gl X "isinstance" := by rfl) (hg2 : Gl X n := by rfl) (hK : X.K = K := by rfl)
    (hn : n ≠ "__name__" := by decide) (hd : (n == ("__debug__" : Str)) = false := by decide) (he : starEach [e, .Name n p1] X.env = (false, eval e X.env) :: starEach [.Name n p1] X.env := by rfl) (he2 : starEach [.Name n p1] X.env = (false, eval (.Name n p1) X.env) :: starEach [] X.env := by rfl) (hpl : (backTo pos (starEach [.Name n p1] X.env)).any (·.1) = false := by rfl) :
    PD X K Ex (.Call (.Name "isinstance" p2) [e, .Name n p1] [] pos) (tCB (rIsi K) (tCons te (tCons (tC (.ty Tn)) tNil))) (uIs (dIsB K Tt) ue) :=
  ⟨pe_callB (call_isiA hK) hg hm (by decide +kernel) (pa_cons ha.pe (pa_cons (pe_bltn (v := .ty Tn) hg2 hm2 hv rfl hn hd) pa_nil he2) he) (by decide) (by decide) he hpl, sim_isB hT eT ha.sim⟩
theorem d_isO {n : Str} {C : Addr} {p1 p2 : Pos} (kt : KitO K C) (hm : X.mg "isinstance" = none) (hm2 : X.mg n = some (.ref C)) (ha : PD X K Ex e te ue) (hg : Gl X "isinstance" := by rfl) (hg2 : Gl X n := by rfl) (hK : X.K = K := by rfl)
    (hd : (n == ("__debug__" : Str)) = false := by decide) (he : starEach [e, .Name n p1] X.env = (false, eval e X.env) :: starEach [.Name n p1] X.env := by rfl) (he2 : starEach [.Name n p1] X.env = (false, eval (.Name n p1) X.env) :: starEach [] X.env := by rfl) (hpl : (backTo pos (starEach [.Name n p1] X.env)).any (·.1) = false := by rfl) :
    PD X K Ex (.Call (.Name "isinstance" p2) [e, .Name n p1] [] pos) (tCB (rIsi K) (tCons te (tCons (tC (.ref C)) tNil))) (uIs (dIsO K C) ue) :=
  ⟨pe_callB (call_isiA hK) hg hm (by decide +kernel) (pa_cons ha.pe (pa_cons (pe_glob (v := .ref C) hg2 hm2 rfl hd) pa_nil he2) he) (by decide) (by decide) he hpl, sim_isO kt ha.sim⟩
/-! methods of lists and texts -/
variable {rm : V → List V → Hp → VK → Prop} {dm : DM} {o : Expr} {to : TE} {uo : DTE} {name : Str} {apos : Pos}
theorem d_bm (slot : Slot "list" name id) (hty : typeOf (.builtin id) = pure (.type "method_descriptor")) (hm : MtR X id rm) (s : SimM K rm dm) (ho : PD X K Ex o to uo) (ha : AD X K Ex (e :: es) t u) (hK : X.K = K := by rfl)
    (hbase : attributeBase o name X.env (eval o X.env) = eval o X.env := by rfl)
    (hfew : ((backTo pos (starEach (e :: es) X.env)).all (fun x => !x.1) && (backToKw pos (keywordEach [] X.env)).all (fun x => x.1.isSome)
      && decide ((e :: es).length + ([] : List Keyword).length + (if ([] : List Keyword).isEmpty then 0 else 1) < 30)) = true := by rfl) (hline : (apos.endLine == pos.line) = true := by rfl)
    (hs : starEach (e :: es) X.env = (false, eval e X.env) :: starEach es X.env := by rfl) (hplain : (backTo pos (starEach es X.env)).any (·.1) = false := by rfl) :
    PD X K Ex (.Call (.Attribute o name apos) (e :: es) [] pos) (tBM K "list" rm to t) (uBM dm uo u) := by
  subst hK
  exact ⟨pe_bm PySem.F.plainAttrs_list slot hty hm ho.pe ha.pe hbase hfew hline hs hplain, sim_bm s ho.sim ha.sim⟩
theorem d_bm0 (slot : Slot "list" name id) (hty : typeOf (.builtin id) = pure (.type "method_descriptor")) (hm : MtR X id rm) (s : SimM K rm dm) (ho : PD X K Ex o to uo) (hK : X.K = K := by rfl)
    (hbase : attributeBase o name X.env (eval o X.env) = eval o X.env := by rfl) (hline : (apos.endLine == pos.line) = true := by rfl) :
    PD X K Ex (.Call (.Attribute o name apos) [] [] pos) (tBM0 K "list" rm to) (uBM dm uo uNil) := by
  subst hK
  exact ⟨pe_bm0 PySem.F.plainAttrs_list slot hty hm ho.pe hbase hline, sim_bm0 s ho.sim⟩
theorem d_m1 (slot : Slot "str" name id) (ty : typeOf (.builtin id) = pure (.type "method_descriptor")) (hm : MtR X id rm) (s : SimM K rm dm) (ho : PD X K Ex o to uo) (he : PD X K Ex e te ue)
    (hs : starEach [e] X.env = [(false, eval e X.env)] := by rfl) (hbase : attributeBase o name X.env (eval o X.env) = eval o X.env := by rfl) (hline : (apos.endLine == pos.line) = true := by rfl) :
    PD X K Ex (.Call (.Attribute o name apos) [e] [] pos) (tM1 rm to te) (uM1 dm uo ue) := ⟨pe_m1 slot ty hm ho.pe he.pe hs hbase hline, sim_m1 s ho.sim he.sim⟩
end
/-! own calls -/
section
variable {X : Cx} {K : PySem.W.Frag} {Ex : L2.St → XK} {pos : Pos} {e o : Expr} {es : List Expr} {te to : TE} {ue uo : DTE} {t : TA} {u : DTA} {x m : Str} {k : Nat} {f C p g : Addr} {S : DSp} {apos ps sp_ : Pos} {pl : Sem Bool}
theorem d_call (F : FnD X.prog X.w K X.mg X.base k f S) (hm : X.mg x = some (.ref f)) (hk : PySem.W.keepIn K (.ref f) = true) (gd : Gd.Calm0 X.A) (hr : Room k X.A) (tk : Tk X Ex) (ha : AD X K Ex (e :: es) t u) (hK : X.K = K := by rfl) (hg : Gl X x := by rfl)
    (hdb : (x == ("__debug__" : Str)) = false := by decide) (he : starEach (e :: es) X.env = (false, eval e X.env) :: starEach es X.env := by rfl) (hpl : (backTo pos (starEach es X.env)).any (·.1) = false := by rfl) :
    PD X K Ex (.Call (.Name x ps) (e :: es) [] pos) (tCallQ (toSp K S) Ex t) (uCall S u) := by
  subst hK
  exact ⟨pe_callQ F gd hr hg hm hk tk ha.pe hdb he hpl, sim_call ha.sim⟩
theorem d_call0 (F : FnD X.prog X.w K X.mg X.base k f S) (hm : X.mg x = some (.ref f)) (hk : PySem.W.keepIn K (.ref f) = true) (gd : Gd.Calm0 X.A) (hr : Room k X.A) (tk : Tk X Ex) (hK : X.K = K := by rfl) (hg : Gl X x := by rfl)
    (hdb : (x == ("__debug__" : Str)) = false := by decide) : PD X K Ex (.Call (.Name x ps) [] [] pos) (tCallQ (toSp K S) Ex tNil) (uCall S uNil) := by
  subst hK
  exact ⟨pe_callQ0 F gd hr hg hm hk tk hdb, sim_call sim_nil⟩
theorem d_meth (c : Cls K C) (hm : Meth K C m f) (F : FnD X.prog X.w K X.mg X.base k f S) (gd : Gd.Calm0 X.A) (hr : Room k X.A) (tk : Tk X Ex) (ho : PD X K Ex o to uo) (ha : AD X K Ex (e :: es) t u) (hK : X.K = K := by rfl)
    (h1 : starEach (e :: es) X.env = (false, eval e X.env) :: starEach es X.env := by rfl) (h2 : (backTo pos (starEach es X.env)).any (·.1) = false := by rfl)
    (hW : eval (.Call (.Attribute o m apos) (e :: es) [] pos) X.env = (do
      let ov ← eval o X.env
      standAt apos.atName
      let (f, first) ← holding [ov] (getMethod ov m pl)
      callWith pos f first (backTo pos (starEach (e :: es) X.env)) (backToKw pos (keywordEach [] X.env))) := by rfl) : PD X K Ex (.Call (.Attribute o m apos) (e :: es) [] pos) (tMethQ C m (toSp K S) Ex to t) (uMeth C m S uo u) := by
  subst hK
  exact ⟨pe_methQ ho.pe c hm F gd hr tk ha.pe h1 h2 hW, sim_meth ho.sim ha.sim⟩
theorem d_meth0 (c : Cls K C) (hm : Meth K C m f) (F : FnD X.prog X.w K X.mg X.base k f S) (gd : Gd.Calm0 X.A) (hr : Room k X.A) (tk : Tk X Ex) (ho : PD X K Ex o to uo) (hK : X.K = K := by rfl)
    (hW : eval (.Call (.Attribute o m apos) [] [] pos) X.env = (do
      let ov ← eval o X.env
      standAt apos.atName
      let (f, first) ← holding [ov] (getMethod ov m pl)
      callWith pos f first (backTo pos (starEach [] X.env)) (backToKw pos (keywordEach [] X.env))) := by rfl) : PD X K Ex (.Call (.Attribute o m apos) [] [] pos) (tMethQ C m (toSp K S) Ex to tNil) (uMeth C m S uo uNil) := by
  subst hK
  exact ⟨pe_methQ0 ho.pe c hm F gd hr tk hW, sim_meth ho.sim sim_nil⟩
theorem d_makeM (M : Mk K C f) (F : FnD X.prog X.w K X.mg X.base k f S) (hm : X.mg x = some (.ref C)) (gd : Gd.Calm0 X.A) (hr : Room (k + 1) X.A) (tk : Tk X Ex) (ha : AD X K Ex (e :: es) t u) (hK : X.K = K := by rfl) (hg : Gl X x := by rfl)
    (hdb : (x == ("__debug__" : Str)) = false := by decide) (he : starEach (e :: es) X.env = (false, eval e X.env) :: starEach es X.env := by rfl) (hpl : (backTo pos (starEach es X.env)).any (·.1) = false := by rfl) :
    PD X K Ex (.Call (.Name x ps) (e :: es) [] pos) (tMakeQ C (toSp K S) Ex t) (uMakeM C S u) := by
  subst hK
  exact ⟨pe_makeQ M F gd hr hg hm tk ha.pe hdb he hpl, sim_makeM ha.sim⟩
theorem d_makeF (M : Mk K C f) (F : FnD X.prog X.w K X.mg X.base k f S) (hm : X.mg x = some (.ref C)) (gd : Gd.Calm0 X.A) (hr : Room (k + 1) X.A) (tk : Tk X Ex) (ha : AD X K Ex (e :: es) t u) (hK : X.K = K := by rfl) (hg : Gl X x := by rfl)
    (hdb : (x == ("__debug__" : Str)) = false := by decide) (he : starEach (e :: es) X.env = (false, eval e X.env) :: starEach es X.env := by rfl) (hpl : (backTo pos (starEach es X.env)).any (·.1) = false := by rfl) :
    PD X K Ex (.Call (.Name x ps) (e :: es) [] pos) (tMakeQ C (toSp K S) Ex t) (uMakeF C S u) := by
  subst hK
  exact ⟨pe_makeQ M F gd hr hg hm tk ha.pe hdb he hpl, sim_makeF ha.sim⟩
theorem d_makeSF (M : Mk K C f) (F : FnD X.prog X.w K X.mg X.base k f S) (hm : X.mg x = some (.ref C)) (gd : Gd.Calm0 X.A) (hr : Room (k + 1) X.A) (tk : Tk X Ex) (ha : PD X K Ex e te ue) (hK : X.K = K := by rfl) (hg : Gl X x := by rfl)
    (hdb : (x == ("__debug__" : Str)) = false := by decide) (hst : starEach [.Starred e sp_] X.env = [(true, eval e X.env)] := by rfl) :
    PD X K Ex (.Call (.Name x ps) [.Starred e sp_] [] pos) (tMakeSQ K C (toSp K S) Ex te) (uMakeSF C S ue) := by
  subst hK
  exact ⟨pe_makeSQ M F gd hr hg hm tk ha.pe hdb hst, sim_makeSF ha.sim⟩
theorem d_prop {n : Str} (c : Cls K C) (hp : PropOf K C n p g) (F : FnD X.prog X.w K X.mg X.base k g S) (gd : Gd.Calm0 X.A) (hr : Room (k + 1) X.A) (he : PD X K Ex e te ue) (hK : X.K = K := by rfl)
    (hab : attributeBase e n X.env (eval e X.env) = eval e X.env := by rfl) : PD X K Ex (.Attribute e n pos) (tPropQ C (toSp K S) te) (uProp C S ue) := by
  subst hK
  exact ⟨pe_propQ he.pe c hp F gd hr hab, sim_prop he.sim⟩
end
/-! statements -/
structure GD (X : Cx) (K : PySem.W.Frag) (Ex : L2.St → XK) (e : Expr) (t : TG) (u : DTG) : Prop where
  pe : PG X e t
  sim : SimG K Ex t u
structure GsD (X : Cx) (K : PySem.W.Frag) (Ex : L2.St → XK) (e : List Expr) (t : TGs) (u : DTGs) : Prop where
  pe : PGs X e t
  sim : SimGs K Ex t u
structure ID (X : Cx) (K : PySem.W.Frag) (Ex : L2.St → XK) (tg e : Expr) (t : TI) (u : DTI) : Prop where
  pe : PI X tg e t
  sim : SimI K Ex t u
section
variable {X : Cx} {K : PySem.W.Frag} {Ex : L2.St → XK} {pos : Pos} {a b c e o : Expr} {es : List Expr} {te to ti : TE} {ue uo ui : DTE} {x : Str} {tg : Expr} {g : TG} {ug : DTG} {gs : TGs} {ugs : DTGs} {st : Stmt} {sts els : List Stmt} {t s : TS} {u w : DTS} {tc : TT} {uc : DTT}
theorem g_name (i : Nat) (hN : X.N.Nodup) (hx : Loc X.env.scope x := by first | exact Or.inl rfl | exact Or.inr rfl) (hi : X.N[i]? = some x := by rfl) (hf : X.fn x = true ∨ X.env.scope.names.lookup x = some .local := by first | exact .inl rfl | exact .inr rfl | assumption) : GD X K Ex (.Name x pos) (gName i) (uGName i) := ⟨pg_name hN hi hx hf, sim_gName i⟩
theorem gs_nil : GsD X K Ex [] gNil uGNil := ⟨pgs_nil, sim_gNil⟩
theorem gs_cons (h : GD X K Ex e g ug) (r : GsD X K Ex es gs ugs) (hs : (assignEach (e :: es) X.env).map (·.2) = assign e X.env :: (assignEach es X.env).map (·.2) := by rfl) : GsD X K Ex (e :: es) (gCons g gs) (uGCons ug ugs) := ⟨pgs_cons h.pe r.pe hs, sim_gCons h.sim r.sim⟩
theorem g_tup {k : Nat} (n : Nat) (h : GsD X K Ex es gs ugs) (hc : X.calm = true := by rfl) (hK : X.K = K := by rfl) (hn : (assignEach es X.env).length = n := by rfl) (hst : (assignEach es X.env).findIdx? (·.1) = none := by rfl) : GD X K Ex (.Tuple es k pos) (gTup K n gs) (uGTup n ugs) := by
  subst hK
  exact ⟨pg_tup hc h.pe hn hst, sim_gTup h.sim⟩
theorem g_set (ho : PD X K Ex o to uo) (hi : PD X K Ex a ti ui) (ha : ∀ v, assign (.Subscript o a pos) X.env v = (do
      let ov ← holding [v] (eval o X.env)
      let iv ← holding [v, ov] (eval a X.env)
      standAt pos
      holding [v, ov, iv] (setItem ov iv v)
      release [v, ov, iv] []) := by intro _; rfl) : GD X K Ex (.Subscript o a pos) (gSub to ti rSetL) (uGSet uo ui) := ⟨pg_sub ho.pe hi.pe set_list ha, sim_gSet ho.sim hi.sim⟩
theorem s_asg (h : PD X K Ex e te ue) (hg : GD X K Ex tg g ug) (hs : swapsWithSole [tg] e pos.line X.env = pure false := by rfl) (hw : swappedStores [tg] e X.env = pure none := by rfl) (h1 : (assignEach [tg] X.env).map (·.2) = [assign tg X.env] := by rfl) : SD X K Ex (.Assign [tg] e pos) (tAsg te g) (uAsg ue ug) := ⟨ps_asg h.pe hg.pe hs hw h1, sim_asg h.sim hg.sim⟩
theorem s_set (i : Nat) {pos' : Pos} (hN : X.N.Nodup) (h : PD X K Ex e te ue) (hx : Loc X.env.scope x := by first | exact Or.inl rfl | exact Or.inr rfl) (hi : X.N[i]? = some x := by rfl) (hs : swapsWith e (some (.Name x pos')) pos.line X.env = pure false := by rfl) (hf : X.fn x = true ∨ X.env.scope.names.lookup x = some .local := by first | exact .inl rfl | exact .inr rfl | assumption) :
    SD X K Ex (.Assign [.Name x pos'] e pos) (tAsg te (gName i)) (uAsg ue (uGName i)) := ⟨ps_set hN hi hx h.pe hs hf, sim_asg h.sim (sim_gName i)⟩
theorem s_expr (h : PD X K Ex e te ue) (hs : swapsWith e none pos.line X.env = pure false := by rfl) : SD X K Ex (.Expr e pos) (tDrop te) (uDrop ue) := ⟨ps_expr h.pe hs, sim_drop h.sim⟩
theorem s_doc {x j pos pos'} : SD X K Ex (.Expr (.Constant (.str x) j pos) pos') tNext uNext := ⟨ps_doc, sim_next⟩
theorem s_ret (h : PD X K Ex e te ue) : SD X K Ex (.Return (some e) pos) (tRet te) (uRet ue) := ⟨ps_ret h.pe, sim_ret h.sim⟩
theorem s_retN : SD X K Ex (.Return none pos) tRetN uRetN := ⟨ps_retN, sim_retN⟩
theorem s_pass : SD X K Ex (.Pass pos) tNext uNext := ⟨ps_pass, sim_next⟩
theorem s_break : SD X K Ex (.Break pos) tBreak uBreak := ⟨ps_break, sim_break⟩
theorem s_continue : SD X K Ex (.Continue pos) tCont uCont := ⟨ps_continue, sim_cont⟩
theorem s_never : SD X K Ex st tNever uNever := ⟨ps_never, sim_never⟩
theorem b_never : BD X K Ex sts tNever uNever := ⟨pss_never, sim_never⟩
theorem b_nil : BD X K Ex [] tNext uNext := ⟨pss_nil, sim_next⟩
theorem b_one (h : SD X K Ex st t u) : BD X K Ex [st] t u := ⟨pss_one h.pe, h.sim⟩
theorem b_cons (h : SD X K Ex st t u) (r : BD X K Ex sts s w) : BD X K Ex (st :: sts) (tSeq t s) (uSeq u w) := ⟨pss_cons h.pe r.pe, sim_seq h.sim r.sim⟩
theorem s_cut (h : SD X K Ex st t u) : SD X K Ex st t (uCut u) := ⟨h.pe, sim_cut h.sim⟩
theorem s_if (hc : TD X K Ex c tc uc) (ha : BD X K Ex sts t u) (hb : BD X K Ex els s w) : SD X K Ex (.If c sts els pos) (tIfS tc t s) (uIfS uc u w) := ⟨ps_if hc.pe ha.pe hb.pe, sim_ifS hc.sim ha.sim hb.sim⟩
theorem s_for {wi : TI} {uw : DTI} (hp : PassesOwn (model X.prog X.w) X.A X.env X.xe) (hi : ID X K Ex tg e wi uw) (hg : GD X K Ex tg g ug) (hb : BD X K Ex sts t u) (hc : X.calm = true := by rfl) (hs : ∀ x, foldedSetIterable e X.env x = pure x := by intro _; rfl) : SD X K Ex (.For tg e sts [] pos) (tFor wi g t) (uFor uw ug u) := ⟨ps_for hp hc hi.pe hg.pe hb.pe hs, sim_for hi.sim hg.sim hb.sim⟩
theorem s_while (hp : PassesOwn (model X.prog X.w) X.A X.env X.xe) (hc : TD X K Ex c tc uc) (hb : BD X K Ex sts t u) : SD X K Ex (.While c sts [] pos) (tWhile tc t) (uWhile uc u) := ⟨ps_while hp hc.pe hb.pe, sim_while hc.sim hb.sim⟩
theorem s_aug {i : Nat} {op : Operator} {r : TIp} {dr : DR2} {pos' : Pos} (hN : X.N.Nodup) (hi : X.N[i]? = some x) (h : PD X K Ex e te ue) (ho : PIp X op r) (sr : SimR K r dr) (hx : Loc X.env.scope x := by first | exact Or.inl rfl | exact Or.inr rfl) (hf : X.fn x = true ∨ X.env.scope.names.lookup x = some .local := by first | exact .inl rfl | exact .inr rfl | assumption) :
    SD X K Ex (.AugAssign (.Name x pos') op e pos) (tAug i te r) (uAug i ue dr) := ⟨ps_aug hN hi hx h.pe ho, sim_aug h.sim sr⟩
theorem s_fld {C : Addr} {f : Str} {pos' : Pos} (cl : Cls K C) (n : NoAttr K C f) (ho : PD X K Ex o to uo) (h : PD X K Ex e te ue) (hK : X.K = K := by rfl) (hs : swapsWith e (some (.Attribute o f pos')) pos.line X.env = pure false := by rfl) : SD X K Ex (.Assign [.Attribute o f pos'] e pos) (sFld K to te f) (uSetF C f uo ue) := by
  subst hK
  exact ⟨ps_fld ho.pe h.pe hs, sim_setF cl n ho.sim h.sim⟩
/-! what is walked -/
theorem i_seq (h : PD X K Ex e te ue) (hK : X.K = K := by rfl) : ID X K Ex tg e (iSeq K te) (uISeq ue) := by
  subst hK
  exact ⟨pi_seq h.pe, sim_iSeq h.sim⟩
theorem i_rng1 {ta : TA} {ua : DTA} {p : Pos} (hm : X.mg "range" = none) (h : AD X K Ex [a] ta ua) (hg : Gl X "range" := by rfl) (hs : starEach [a] X.env = [(false, eval a X.env)] := by rfl) : ID X K Ex tg (.Call (.Name "range" p) [a] [] pos) (iRng1 ta) (uIRng1 ua) := ⟨pi_range1 hg hm h.pe hs, sim_iRng1 h.sim⟩
theorem i_rng2 {ta : TA} {ua : DTA} {p : Pos} (hm : X.mg "range" = none) (h : AD X K Ex [a, b] ta ua) (hg : Gl X "range" := by rfl) (hs : starEach [a, b] X.env = [(false, eval a X.env), (false, eval b X.env)] := by rfl) (hs2 : starEach [b] X.env = [(false, eval b X.env)] := by rfl) : ID X K Ex tg (.Call (.Name "range" p) [a, b] [] pos) (iRng2 ta) (uIRng2 ua) := ⟨pi_range2 hg hm h.pe hs hs2, sim_iRng2 h.sim⟩
/-! comprehensions -/
structure TsD (X : Cx) (K : PySem.W.Frag) (Ex : L2.St → XK) (ifs : List Expr) (t : TT) (u : DTT) : Prop where
  pe : PTs X ifs t
  sim : SimT K Ex t u
theorem ts_nil : TsD X K Ex [] tYes uYes := ⟨pts_nil, sim_yes⟩
theorem ts_one (h : TD X K Ex c tc uc) : TsD X K Ex [c] tc uc := ⟨pts_one h.pe, h.sim⟩
abbrev Mono (g : TG) : Prop := ∀ v σ H Q Q', (∀ σ H, Q σ H → Q' σ H) → g v σ H Q → g v σ H Q'
theorem d_lc (m : Bool) {elt iter : Expr} {ifs : List Expr} {scope : Scope} (own : List (Str × Nat)) {wi : TI} {uw : DTI} {tt : TT} {ut : DTT} (hN : X.N.Nodup) (hi : ID X K Ex tg iter wi uw) (ok : BlkOk X.N X.env.scope scope own)
    (hg : ∀ (s : Shared) (H : Hp) (C : Addr) (cl : List (Str × Addr)) (fp : List Addr), GD (X.blk s H scope (compEnvC scope cl C X.env) fp) K X0 tg g ug) (ht : ∀ (s : Shared) (H : Hp) (C : Addr) (cl : List (Str × Addr)) (fp : List Addr), TsD (X.blk s H scope (compEnvC scope cl C X.env) fp) K X0 ifs tt ut)
    (he : ∀ (s : Shared) (H : Hp) (C : Addr) (cl : List (Str × Addr)) (fp : List Addr), PD (X.blk s H scope (compEnvC scope cl C X.env) fp) K X0 elt te ue) (wp : Wip g (own.map (·.2))) (mn : Mono g) (hc : X.calm = true := by rfl) (hs : ∀ x, foldedSetIterable iter X.env x = pure x := by intro _; rfl) :
    PD X K Ex (.ListComp elt [⟨tg, iter, ifs, 0⟩] scope pos) (tLc wi g tt te (own.map (·.2))) (uLc m uw ug ut ue (own.map (·.2))) :=
  ⟨pe_lc hc hN hi.pe ok (fun s H C cl fp => (hg s H C cl fp).pe) (fun s H C cl fp => (ht s H C cl fp).pe) (fun s H C cl fp => (he s H C cl fp).pe) hs, sim_lc m hi.sim (hg X.s_0 (fun _ => none) 0 [] []).sim (ht X.s_0 (fun _ => none) 0 [] []).sim (he X.s_0 (fun _ => none) 0 [] []).sim wp mn⟩
theorem s_setLc (m : Bool) (i : Nat) {y : Str} {py spos : Pos} {elt iter : Expr} {ifs : List Expr} {scope : Scope} (own : List (Str × Nat)) {wi : TI} {uw : DTI} {tt : TT} {ut : DTT} (hN : X.N.Nodup) (hi : ID X K Ex tg iter wi uw) (ok : BlkOk X.N X.env.scope scope own)
    (hg : ∀ (s : Shared) (H : Hp) (C : Addr) (cl : List (Str × Addr)) (fp : List Addr), GD (X.blk s H scope (compEnvC scope cl C X.env) fp) K X0 tg g ug) (ht : ∀ (s : Shared) (H : Hp) (C : Addr) (cl : List (Str × Addr)) (fp : List Addr), TsD (X.blk s H scope (compEnvC scope cl C X.env) fp) K X0 ifs tt ut)
    (he : ∀ (s : Shared) (H : Hp) (C : Addr) (cl : List (Str × Addr)) (fp : List Addr), PD (X.blk s H scope (compEnvC scope cl C X.env) fp) K X0 elt te ue) (wp : Wip g (own.map (·.2))) (mn : Mono g) (hsw : swapsWith (.ListComp elt [⟨tg, iter, ifs, 0⟩] scope pos) (some (.Name y py)) spos.line X.env = pure true)
    (hyl : X.env.scope.names.lookup y = some .local := by rfl) (hy : X.N[i]? = some y := by rfl) (hc : X.calm = true := by rfl) (hs : ∀ x, foldedSetIterable iter X.env x = pure x := by intro _; rfl) :
    SD X K Ex (.Assign [.Name y py] (.ListComp elt [⟨tg, iter, ifs, 0⟩] scope pos) spos) (tAsg (tLc wi g tt te (own.map (·.2))) (gName i)) (uAsg (uLc m uw ug ut ue (own.map (·.2))) (uGName i)) :=
  ⟨ps_setLc hc hN hy hyl hsw hi.pe ok (fun s H C cl fp => (hg s H C cl fp).pe) (fun s H C cl fp => (ht s H C cl fp).pe) (fun s H C cl fp => (he s H C cl fp).pe) hs, sim_asg (sim_lc m hi.sim (hg X.s_0 (fun _ => none) 0 [] []).sim (ht X.s_0 (fun _ => none) 0 [] []).sim (he X.s_0 (fun _ => none) 0 [] []).sim wp mn) (sim_gName i)⟩
end
end DX
set_option Elab.async false
set_option linter.all false
set_option maxRecDepth 100000
set_option maxHeartbeats 4000000
namespace DX
open PySem PySem.Spec PyProof.Rows L2
/-! ### a def by its body -/
section
variable {K : PySem.W.Frag} {Z : Hp} {as as' as1 : List Addr} {F F' F1 H H' H1 : Hp} {Ex : L2.St → XK}
def startD (N : List Str) (ds : List D) : Rho := ds.map some ++ List.replicate (N.length - ds.length) none
theorem env_start {N : List Str} {vs : List V} {ds : List D} (r : RepL K as F vs ds) : EnvR K as F (L2.start N vs) (startD N ds) := by
  refine ⟨by unfold L2.start startD; rw [List.length_append, List.length_append, List.length_map, List.length_map, List.length_replicate, List.length_replicate, r.len], fun i d e => ?_⟩
  unfold startD at e
  unfold L2.start
  by_cases hi : i < ds.length
  · rw [List.getElem?_append_left (by simpa using hi), List.getElem?_map] at e
    cases h : ds[i]? with
    | none => rw [h] at e; cases e
    | some d' =>
      rw [h] at e
      cases e
      obtain ⟨v, h1, h2⟩ := r.get h
      refine ⟨v, ?_, h2⟩
      rw [List.getElem?_append_left (by rw [List.length_map, r.len]; exact hi), List.getElem?_map, h1]
      rfl
  · rw [List.getElem?_append_right (by simpa using hi), List.getElem?_replicate] at e
    split at e <;> cases e
/-- the end of a def: what was made within may be frozen -/
def FZ (μ : Mem) (Q : D → Mem → Prop) (d : D) (μ' : Mem) : Prop := Q d μ' ∨ (stays μ.length μ μ' ∧ cld μ.length (fz μ' μ.length 6 d) = true ∧ Q (fz μ' μ.length 6 d) (μ'.take μ.length))
def FZE (μ : Mem) (E : Addr → List (Str × D) → Mem → Prop) : XD := fun _ C gs μ' => E C gs μ' ∨ (stays μ.length μ μ' ∧ cldF μ.length gs = true ∧ E C gs (μ'.take μ.length))
theorem fz_end {μ : Mem} (M : Mm K Z as F H μ) {Q : D → Mem → Prop} {Q' : VK} (kQ : ∀ v d μ' as' F' H', Gr as F as' F' → Mm K Z as' F' H' μ' → Rep K as' F' v d → Q d μ' → Q' v H')
    {v : V} {d : D} {μ' : Mem} (g : Gr as F as' F') (M' : Mm K Z as' F' H' μ') (r : Rep K as' F' v d) (q : FZ μ Q d μ') : Q' v H' := by
  rcases q with q | ⟨st, c, q⟩
  · exact kQ v d μ' as' F' H' g M' r q
  · obtain ⟨M2, sf⟩ := M'.freeze st.1 (stays_closed M rfl st)
    exact kQ v _ _ _ _ H' (g.take (Nat.le_of_eq M.len) sf) M2 ((fz_rep M' sf 6 r).cut take_get c) q
theorem fze_end {μ : Mem} (M : Mm K Z as F H μ) {E : Addr → List (Str × D) → Mem → Prop} {E' : XK} (kE : ∀ C gs dx μ' as' F' H', Gr as F as' F' → Mm K Z as' F' H' μ' → ExcR K as' F' dx gs → E C gs μ' → E' (.ref C) dx H') : XL K (fun _ => E') Z as F (FZE μ E) :=
  fun σ ρ μ' as' F' H' C gs dx g R er q => by
    rcases q with q | ⟨st, c, q⟩
    · exact kE C gs dx μ' as' F' H' g R.mm er q
    · obtain ⟨M2, sf⟩ := R.mm.freeze st.1 (stays_closed M rfl st)
      exact kE C gs dx _ _ _ H' (g.take (Nat.le_of_eq M.len) sf) M2 (excR_cut take_get er c sf) q
end
/-- the def at f, record fd, keeps S however its parameters are bound -/
structure FnB (P : Program) (w : World) (K : PySem.W.Frag) (mg : Str → Option Value) (base : Heap) (k : Nat) (f : Addr) (fd : FuncData) (ps : List Str) (S : DSp) : Prop where
  len : ∀ ds μ Q E, S ds μ Q E → ds.length = ps.length
  run : ∀ (A : Around) (outer : List Env) (s : Shared) (H : Hp) (args : Args) (us : List Value) (vs : List V) (Q : VK) (E : XK), Gd.Calm0 A → Room k A → Env0 P w K mg base A outer s H → BindsTo s fd args (ps.zip us) → Vals vs us → toSp K S vs H Q E →
    codeAny (model P w) A (.call (.ref f) args) (CR (L2.CX P w) outer P w H s Q E) s
section
variable {P : Program} {w : World} {K : PySem.W.Frag} {mg : Str → Option Value} {base : Heap} {k : Nat} {f : Addr} {fd : FuncData} {x qual : Str} {st : Stmt} {N ps : List Str} {S : DSp}
theorem sp_len {vs : List V} {H : Hp} {Q : VK} {E : XK} (len : ∀ ds μ Q E, S ds μ Q E → ds.length = ps.length) (h : toSp K S vs H Q E) : vs.length = ps.length := by
  obtain ⟨Z, as, F, ds, μ, Qd, Ed, r, M, hS, _⟩ := h
  rw [r.len]
  exact len _ _ _ _ hS
/-- a def's text, without defaults or with them -/
structure DefAt (K : PySem.W.Frag) (x qual : Str) (st : Stmt) (f : Addr) (fd : FuncData) : Prop where
  ex : ∃ (oc : Value) (od : Option Addr) (dV kV doc pm : Value) (an : Option Addr) (cdv ct : Value) (osl : Array (Option Value)),
    fd = PySem.W.fnOf x qual (defArgs st) (defBody st) (defScope st) dV kV doc pm an cdv ct ∧ K.lookup f = some ⟨oc, od, .func fd, osl⟩ ∧ PySem.W.codeIn K cdv qual = true
  kp : PySem.W.keepIn K (.ref f) = true
theorem okB (Fu : DefAt K x qual st f fd) (Sc : FnScope N ps (defScope st)) (len : ∀ ds μ Q E, S ds μ Q E → ds.length = ps.length) (u : DTS)
    (body : ∀ (cdv : Value) (A : Around) (outer : List Env) (s : Shared) (H : Hp) (E' : XK), Gd.Calm0 A → Room k (A.deeper (envOfC qual (defScope st) s.heap.objs.size f cdv)) →
      ∃ t, BD (cxOf (L2.CX P w) P w K mg base N qual (defScope st) f cdv A outer s H E') K (fun _ => E') (defBody st) t u)
    (read : ∀ ds μ Q E, S ds μ Q E → u { nx := fun _ μ' => FZ μ Q .non μ', rt := FZ μ Q } (FZE μ E) (startD N ds) μ) : FnB P w K mg base (k + 1) f fd ps S := by
  refine ⟨len, fun A outer s H args us vs Q E g hr e0 hb r hsp => ?_⟩
  obtain ⟨oc, od, dV, kV, doc, pm, an, cdv, ct, osl, rfl, lk, hcd⟩ := Fu.ex
  have hl := sp_len len hsp
  have KX : K.In s.heap := e0.mod.kin.keeps fun b o e => (e0.bs b o e).1
  have lim : s.heap.NoLimit := e0.mod.nolimit.keeps fun b o e => (e0.bs b o e).1
  have hkind : ∀ y ∈ ps.zip us, (defScope st).names.lookup y.1 = some .local ∨ ((defScope st).names.lookup y.1 = some .cell ∧ ((cellsFrom (s.heap.objs.size + 1) (defScope st).names []).lookup y.1).isSome = true) := fun ⟨n, v⟩ hy => by
    rcases Sc.par n (List.of_mem_zip hy).1 with q | q
    · exact .inl q
    · exact .inr ⟨q, PySem.W.cellsFrom_some _ _ _ (.inl q)⟩
  refine codeAny_call_function hr.depth (KX _ _ lk) rfl Sc.co Sc.gen rfl (PySem.W.codeRec_of KX hcd) (hb _ _ _ _ ?_)
  refine wpAny_newFunctionEnv_cells Sc.kind hkind fun env he s1 x => ?_
  subst he
  refine ⟨lim.keeps x.toInCall.keep, codeAny_func ?_⟩
  obtain ⟨t, ht⟩ := body cdv A outer s H E g (hr.deeper _)
  have I : L2.Inv (cxOf (L2.CX P w) P w K mg base N qual (defScope st) f cdv A outer s H E) [] (L2.start N vs) H s1 := inv_start Sc hr.hd e0 hl r x
  obtain ⟨Z, as, F, ds, μ, Qd, Ed, rr, M, hS, kQ, kE⟩ := hsp
  have hq : t { nx := fun _ H' => Q .non H', rt := Q } (L2.start N vs) H := ht.sim Z as F H (L2.start N vs) (startD N ds) μ _ _ _ ⟨M, env_start rr⟩ (fze_end M kE) (read ds μ Qd Ed hS)
    (fun σ' ρ' μ' as' F' H' g R q => fz_end M kQ g R.mm .non q) (fun v d μ' as' F' H' g M' r q => fz_end M kQ g M' r q) (fun _ _ _ _ _ _ _ _ z => z.elim) (fun _ _ _ _ _ _ _ _ z => z.elim)
  refine wpAny_mono (ht.pe.run [] s1 (L2.start N vs) H _ I hq) (fun fl s' hs => ?_) fun e s' hs => hs
  match fl, hs with
  | .ret u, ⟨v, σ', H', J, rv, q⟩ => exact ⟨v, H', J.os, J.bare, J.base, J.hok, rv, q⟩
  | .next, ⟨σ', H', J, q⟩ => exact ⟨V.non, H', J.os, J.bare, J.base, J.hok, rfl, q⟩
  | .brk, ⟨_, _, _, q⟩ => exact q.elim
  | .cont, ⟨_, _, _, q⟩ => exact q.elim
/-- called by position, the rest by defaults -/
theorem FnB.fn {S' : DSp} {dus : List Value} {dvs : List V} {dds : List D} (Fb : FnB P w K mg base k f fd ps S) (B : L2.Binds K fd ps dus) (hd : Vals dvs dus) (rd : ∀ as F, RepL K as F dvs dds) (hS : ∀ ds μ Q E, S' ds μ Q E → S (ds ++ dds) μ Q E) : FnD P w K mg base k f S' := by
  intro A outer s H us vs Q E g hr e0 r hsp
  obtain ⟨Z, as, F, ds, μ, Qd, Ed, rr, M, h, kQ, kE⟩ := hsp
  have r2 : Vals (vs ++ dvs) (us ++ dus) := r.append hd
  have sp2 : toSp K S (vs ++ dvs) H Q E := ⟨Z, as, F, ds ++ dds, μ, Qd, Ed, rr.append (rd as F), M, hS _ _ _ _ h, kQ, kE⟩
  have hl : (us ++ dus).length = ps.length := by rw [← r2.length]; exact sp_len Fb.len sp2
  exact Fb.run A outer s H ⟨us, []⟩ (us ++ dus) (vs ++ dvs) Q E g hr e0 (B s us (e0.mod.kin.keeps fun b o e => (e0.bs b o e).1) hl) r2 sp2
theorem FnB.fn0 (Fb : FnB P w K mg base k f fd ps S) (B : L2.Binds K fd ps []) : FnD P w K mg base k f S := Fb.fn B .nil (fun _ _ => .nil) fun ds μ Q E h => by rw [List.append_nil]; exact h
theorem FnD.mono {j : Nat} (h : FnD P w K mg base j f S) (hj : j ≤ k) : FnD P w K mg base k f S := fun A outer s H us vs Q E g hr => h A outer s H us vs Q E g (hr.mono hj)
theorem FnD.imp {S' : DSp} (h : FnD P w K mg base k f S) (hS : ∀ ds μ Q E, S' ds μ Q E → S ds μ Q E) : FnD P w K mg base k f S' := fun A outer s H us vs Q E g hr e0 r ⟨Z, as, F, ds, μ, Qd, Ed, rr, M, z, kQ, kE⟩ => h A outer s H us vs Q E g hr e0 r ⟨Z, as, F, ds, μ, Qd, Ed, rr, M, hS _ _ _ _ z, kQ, kE⟩
/-- the law itself -/
def SLaw : DSp := fun ds μ Q _ => ∃ ns : List Int, ds = [.kl (ns.map .int)] ∧ ns.length ≤ 63 ∧ ∀ μ', Q (.bl true) μ'
def spLaw (K : PySem.W.Frag) : Sp := fun vs H Q _ => ∃ (a : Addr) (ns : List Int), vs = [.ref a] ∧ SqL K H a (ns.map V.int) ∧ ns.length ≤ 63 ∧ ∀ H', Q (.bl true) H'
theorem rep_ints {as : List Addr} {F : Hp} : ∀ ns : List Int, RepL K as F (ns.map V.int) (ns.map D.int)
  | [] => .nil
  | _ :: r => .cons (.int _) (rep_ints r)
theorem lawG (h : FnD P w K mg base k f SLaw) : Gd.FnG P w K mg base CX0 k f (spLaw K) := by
  intro A outer s H us vs Q E g hr e0 r hsp
  obtain ⟨a, ns, rfl, hS, hl, q⟩ := hsp
  -- all that stands is left out but the script
  refine codeAny_mono (h A outer s H us _ Q E0 g hr e0 r ⟨fun _ => none, [], H, [.kl (ns.map .int)], [], (fun d _ => d = .bl true), fun _ _ _ => False, .cons (.kl hS (rep_ints ns)) .nil, ⟨Same.refl H, rfl, List.nodup_nil, fun _ z => (nomatch z), fun k m e => by simp at e, fun _ _ z => (nomatch z)⟩,
    ⟨ns, rfl, hl, fun μ' => rfl⟩, fun v d μ' as' F' H' g M r z => ?_, fun _ _ _ _ _ _ _ _ _ _ z => z.elim⟩) fun r s' hq => ?_
  · have z : d = .bl true := z
    subst z
    cases r
    exact q H'
  · match r, hq with
    | .error e, hq =>
      obtain ⟨_, _, _, _, _, _, _, _, _, _, _, _, z⟩ := hq
      exact z.elim
    | .ok (.ret u), hq => exact hq
end
end DX
set_option Elab.async false
set_option linter.all false
set_option maxRecDepth 100000
set_option maxHeartbeats 4000000
namespace DX
open PySem PySem.Spec PyProof.Rows L2
/-! ### own errors -/
def spErr (K : PySem.W.Frag) (f : Str) : Sp := fun vs H Q _ => ∃ (a C : Addr) (v : V), vs = [.ref a, v] ∧ OexC K C ∧ PySem.W.findIn K (.ref C) f = some none ∧ H a = some (exo a C none) ∧ ∀ d, H d = none → d ≠ a → Q .non (upd (upd H d (exd d [(f, v)])) a (exo a C (some d)))
theorem err_end {K : PySem.W.Frag} {f : Str} {C a : Addr} {v : V} {H : Hp} {E : XK} (T : OexC K C) (no : PySem.W.findIn K (.ref C) f = some none) (na : H a = none)
    (q : ∀ H' d, Same H H' → H d = none → H' d = some (.xd [(f, v)]) → E (.ref C) (some d) H') :
    spErr K f (.ref a :: ([v] ++ [])) (upd H a (exo a C none)) (fun u H2 => u = .non ∧ ∃ (d : Addr) (fs : List (Str × V)), H2 a = some (exo a C (some d)) ∧ H2 d = some (exd d fs) ∧ H d = none ∧ E (.ref C) (some d) (upd (del H2 a) d (.xd fs))) (fun _ _ _ => False) := by
  refine ⟨a, C, v, rfl, T, no, upd_same, fun d hd ne => ⟨rfl, d, _, upd_same, by rw [upd_ne ne]; exact upd_same, ?_, ?_⟩⟩
  · rw [upd_ne ne] at hd
    exact hd
  · rw [upd_ne ne] at hd
    refine q _ d (fun b o e => ?_) hd upd_same
    have nba : b ≠ a := ne_of_none e na
    have nbd : b ≠ d := ne_of_none e hd
    rw [upd_ne nbd, del_ne nba, upd_ne nba, upd_ne nbd, upd_ne nba]
    exact e
/-- an own error class: its attribute f, its __init__ -/
structure ErrD (P : Program) (w : World) (K : PySem.W.Frag) (mg : Str → Option Value) (base : Heap) (x f : Str) (C fI : Addr) (fd : FuncData) : Prop where
  T : OexC K C
  no : PySem.W.findIn K (.ref C) f = some none
  gC : mg x = some (.ref C)
  iC : PySem.W.findIn K (.ref C) "__init__" = some (some (.ref fI))
  tI : PySem.W.typeIn K (.ref fI) = some (.type "function")
  F : FnOk P w K mg base CX0 1 fI fd ["self", f] (spErr K f)
  b : L2.Binds K fd ["self", f] []
section
variable {K : PySem.W.Frag} {Z : Hp} {as as' as1 : List Addr} {F F' F1 H H' H1 : Hp} {Ex : L2.St → XK}
theorem Mm.known {μ : Mem} (M : Mm K Z as F H μ) {d : Addr} {o : HO} (e : H d = some o) (nF : F d = none) (na : d ∉ as) (nZ : Z d = none) : Mm K Z as (upd F d o) H μ := by
  refine ⟨fun b u h => ?_, M.len, M.nd, fun a ha => ?_, fun k m h => ?_, fun a u h => ?_⟩
  · by_cases z : b = d
    · subst z; rw [upd_same] at h; rw [← h]; exact e
    · rw [upd_ne z] at h; exact M.same _ _ h
  · rw [upd_ne (fun z : a = d => na (by rw [← z]; exact ha))]; exact M.fr a ha
  · obtain ⟨a, ha, x⟩ := M.at_ k m h
    exact ⟨a, ha, x.up (Gr.upd nF) rfl⟩
  · obtain ⟨h1, h2, h3⟩ := M.hid a u h
    exact ⟨h1, by rw [upd_ne (ne_of_none h nZ)]; exact h2, h3⟩
def uRaise (C : Addr) (f : Str) (u : DTA) : DTS := fun _ E ρ μ => u ρ μ (fun ds μ1 => match ds with
  | [d] => E ρ C [(f, d)] μ1
  | _ => False) E
theorem sim_raise {C : Addr} {f : Str} {t : TA} {u : DTA} (T : OexC K C) (no : PySem.W.findIn K (.ref C) f = some none) (a : SimA K Ex t u) : SimS K Ex (fun _ σ H => tMkO C (spErr K f) [] t σ H fun cls d H' => Ex σ cls d H') (uRaise C f u) := fun Z as F H σ ρ μ De E D' R X h kn kr kb kc =>
  a Z as F H σ ρ μ _ E _ R X h fun vs ds μ1 as1 F1 H1 g1 R1 r1 h1 => by
    have h1 : (match (generalizing := false) ds with | [d] => E ρ C [(f, d)] μ1 | _ => False) := h1
    split at h1
    · cases r1 with
      | @cons w _ _ _ ra rb =>
        cases rb
        refine ⟨Nat.le_of_ble_eq_true rfl, fun p np => err_end T no np fun H' d sm nd hd => ?_⟩
        have M2 := R1.mm.ext sm
        have nF := R1.mm.newF nd
        have nZ : Z d = none := by
          cases e : Z d with
          | none => rfl
          | some o => have := (R1.mm.hid d o e).1; rw [nd] at this; cases this
        have g2 := Gr.upd (as := as1) (o := .xd [(f, w)]) nF
        exact X σ ρ μ1 as1 _ H' C _ (some d) (g1.trans g2) (R1.up g2 (M2.known hd nF (R1.mm.new nd) nZ)) (.inr ⟨d, _, rfl, upd_same, .cons (ra.up g2) .nil⟩) h1
    · exact h1.elim
/-! ### try .. except C as n -/
def uTry (K : PySem.W.Frag) (c : Value) (i : Nat) (ub : DTS) (us : Addr → Value → Option Addr → DTS) : DTS := fun De E ρ μ =>
  ub De (fun ρ' C gs μ' => ∃ b, PySem.W.exmOne K (.ref C) c = some b ∧ (b = true → ∀ a d, us a (.ref C) d { nx := fun ρ2 μ2 => De.nx (ρ2.set i none) μ2, rt := De.rt, bk := fun ρ2 μ2 => De.bk (ρ2.set i none) μ2, ct := fun ρ2 μ2 => De.ct (ρ2.set i none) μ2 } XN (ρ'.set i (some (.exc a C d gs))) μ') ∧ (b = false → E ρ' C gs μ')) ρ μ
theorem exc_rep {a C : Addr} {dx : Option Addr} {gs : List (Str × D)} (h : ExcR K as F dx gs) : Rep K as F (.ref a) (.exc a C dx gs) := by
  rcases h with rfl | ⟨dd, fs, rfl, e, r⟩
  · exact .exc0
  · exact .exc e r
theorem Rp.unset {σ : L2.St} {ρ : Rho} {μ : Mem} (R : Rp K Z as F H σ ρ μ) (i : Nat) : Rp K Z as F H (σ.set i none) (ρ.set i none) μ := ⟨R.mm, R.env.unset i⟩
theorem sim_try {c : Value} {i : Nat} {tb : WX → TS} {ub : DTS} {ts : Addr → Value → Option Addr → TS} {us : Addr → Value → Option Addr → DTS} (b : ∀ W : WX, SimS K (WE W) (tb W) ub) (s : ∀ a cls d, SimS K X0 (ts a cls d) (us a cls d)) :
    SimS K Ex (fun D σ H => tb (wAs K c i ts (fun cls d σ H => Ex σ cls d H) D) D σ H) (uTry K c i ub us) := fun Z as F H σ ρ μ De E D' R X h kn kr kb kc => by
  refine b _ Z as F H σ ρ μ De _ D' R ?_ h kn kr kb kc
  intro σ1 ρ1 μ1 as1 F1 H1 C gs dx g R1 er q
  obtain ⟨bb, hb, q1, q2⟩ := q
  refine ⟨bb, hb, fun e a na => ?_, fun e => X σ1 ρ1 μ1 as1 F1 H1 C gs dx g R1 er (q2 e)⟩
  exact s a (.ref C) dx Z as1 F1 H1 (σ1.set i (some (.ref a))) (ρ1.set i (some (.exc a C dx gs))) μ1 _ XN _ ⟨R1.mm, R1.env.set (exc_rep er) i⟩ XL.no (q1 e a dx)
    (fun σ2 ρ2 μ2 as2 F2 H2 g2 R2 => kn _ _ μ2 as2 F2 H2 (g.trans g2) (R2.unset i)) (fun v d μ2 as2 F2 H2 g2 => kr v d μ2 as2 F2 H2 (g.trans g2))
    (fun σ2 ρ2 μ2 as2 F2 H2 g2 R2 => kb _ _ μ2 as2 F2 H2 (g.trans g2) (R2.unset i)) (fun σ2 ρ2 μ2 as2 F2 H2 g2 R2 => kc _ _ μ2 as2 F2 H2 (g.trans g2) (R2.unset i))
end
section
variable {X : Cx} {K : PySem.W.Frag} {Ex : L2.St → XK} {pos pos' np : Pos} {e : Expr} {es : List Expr} {t : TA} {u : DTA} {x n f : Str} {C fI : Addr} {fd : FuncData} {body suite : List Stmt} {b₀ : Stmt} {c : Value} {i : Nat} {tb : WX → TS} {ub : DTS} {ts : Addr → Value → Option Addr → TS} {us : Addr → Value → Option Addr → DTS}
theorem s_raise {p : Pos} (er : ErrD X.prog X.w K X.mg X.base x f C fI fd) (hr : Room 2 X.A) (tk : Tk X Ex) (ha : AD X K Ex (e :: es) t u) (hK : X.K = K := by rfl) (hc : X.calm = true := by rfl) (hg : Gl X x := by rfl)
    (hdb : (x == ("__debug__" : Str)) = false := by decide) (he : starEach (e :: es) X.env = (false, eval e X.env) :: starEach es X.env := by rfl) (hpl : (backTo pos (starEach es X.env)).any (·.1) = false := by rfl) :
    SD X K Ex (.Raise (some (.Call (.Name x p) (e :: es) [] pos)) none pos') (fun _ σ H => tMkO C (spErr K f) [] t σ H fun cls d H' => Ex σ cls d H') (uRaise C f u) := by
  subst hK
  exact ⟨ps_raise hc tk (pmk_oex er.T er.iC er.tI er.F hr er.b .nil pass0 hg er.gC ha.pe hdb he hpl), sim_raise er.T er.no ha.sim⟩
/-- the wish of an empty look -/
def xNote (X : Cx) : Value → Shared → Prop := fun e s' => wpAny (model X.prog X.w) X.A (noteFrame e X.env) (fun _ _ => True) (fun _ _ => True) s'
theorem takes_note (hs : X.stack = X.env :: X.outer) (hf : X.env.frame = some X.env.locals) (W : WX) : Takes (X.tr [] (xNote X)) W := fun u s' xx => by
  obtain ⟨a, B, sI, pins', σ', H', cls, d, rfl, J, nb, up, sky, na, os, ag, w⟩ := xx
  have hfr : X.A.frames = some (X.env :: X.outer) := by rw [← hs]; exact J.ok.frames
  have sky' : Sky B (X.env :: X.outer) a (Zc cls d) X.env.locals s'.heap := by rw [← hs]; exact sky
  exact wpAny_mono (Sky.land (E₁ := fun _ _ => True) (Q := fun _ _ => True) Zc.steady hfr hf sky' fun _ _ _ => True.intro) (fun _ _ _ => True.intro) fun _ _ _ => True.intro
theorem s_try (i : Nat) (hN : X.N.Nodup) (hc : Names X x c) (tk : Tk X Ex)
    (hb : ∀ (W : WX) (pn : List (Addr × Obj)) (xe : Value → Shared → Prop), Takes (X.tr pn xe) W → PassesOwn (model X.prog X.w) X.A X.env xe → BD (X.tr pn xe) K (WE W) body (tb W) ub)
    (hsu : ∀ (a : Addr) (oe : Obj) (cls : Value) (d : Option Addr) (pn : List (Addr × Obj)), Zc cls d oe → (∃ vs, oe.data = .fields vs) → BD (X.suite a ((a, oe) :: pn)) K X0 (b₀ :: suite) (ts a cls d) (us a cls d))
    (hi : X.N[i]? = some n := by rfl) (hs : X.stack = X.env :: X.outer := by rfl) (hf : X.env.frame = some X.env.locals := by rfl) (hln : X.env.kindOf n = some .local := by rfl) (hK : X.K = K := by rfl) :
    SD X K Ex (.Try body [.ExceptHandler (some (.Name x np)) (some n) (b₀ :: suite) pos'] [] [] pos) (fun D σ H => tb (wAs K c i ts (fun cls d σ H => Ex σ cls d H) D) D σ H) (uTry K c i ub us) := by
  subst hK
  exact ⟨ps_try_as hs hf hN hi hln hc tk (fun W pn xe a b => (hb W pn xe a b).pe) (fun a oe cls d pn z z2 => (hsu a oe cls d pn z z2).pe),
    sim_try (fun W => (hb W [] (xNote X) (takes_note hs hf W) PassesOwn.looking).sim) (fun a cls d => (hsu a { cls := cls, dict := d, data := .fields #[] } cls d [] ⟨rfl, rfl⟩ ⟨_, rfl⟩).sim)⟩
end
/-! ### the caught error -/
section
variable {K : PySem.W.Frag} {Z : Hp} {as as' as1 : List Addr} {F F' F1 H H' H1 : Hp} {Ex : L2.St → XK}
def tXfA (K : PySem.W.Frag) (a : Addr) (cls : Value) (d : Option Addr) (f : Str) (te : TE) : TE := fun σ H Q => te σ H fun x H1 => x = .ref a ∧ ∃ C, cls = .ref C ∧ XfC K C ∧ PySem.W.findIn K (.ref C) f = some none ∧ ∃ (dd : Addr) (fs : List (Str × V)) (v : V), d = some dd ∧ H1 dd = some (.xd fs) ∧ fs.lookup f = some v ∧ Q v H1
def uXf (K : PySem.W.Frag) (a : Addr) (cls : Value) (d : Option Addr) (f : Str) (ue : DTE) : DTE := fun ρ μ Q E => ue ρ μ (fun x μ1 => match x with
  | .exc a' C d' gs => a' = a ∧ cls = .ref C ∧ d' = d ∧ XfC K C ∧ PySem.W.findIn K (.ref C) f = some none ∧ (match gs.lookup f with
    | some v => Q v μ1
    | none => False)
  | _ => False) E
theorem sim_xf {a : Addr} {cls : Value} {d : Option Addr} {f : Str} {te : TE} {ue : DTE} (s : Sim K Ex te ue) : Sim K Ex (tXfA K a cls d f te) (uXf K a cls d f ue) := fun Z as F H σ ρ μ Q E Q' R X h k =>
  s Z as F H σ ρ μ _ E _ R X h fun v dv μ1 as1 F1 H1 g1 R1 r1 h1 => by
    cases r1 <;> try exact h1.elim
    · obtain ⟨_, _, _, _, _, h2⟩ := h1
      exact h2.elim
    · rename_i a' C dd fs gs e r
      obtain ⟨e1, e2, e3, e4, e5, h2⟩ := h1
      cases l : gs.lookup f with
      | none => rw [l] at h2; exact h2.elim
      | some w =>
        rw [l] at h2
        obtain ⟨v', l', rr⟩ := r.look l
        exact ⟨by rw [e1], C, e2, e4, e5, dd, fs, v', e3.symm, R1.mm.same _ _ e, l', k v' w μ1 as1 F1 H1 g1 R1 rr h2⟩
def rIsXA (K : PySem.W.Frag) (a : Addr) (cls : Value) (d : Option Addr) (c : V) (cv : Value) : List V → Hp → VK → Prop := fun xs H Q => ∃ C, cls = .ref C ∧ Vx.ExcX K C ∧ ∃ (dd : Addr) (fs : List (Str × V)) (b : Bool), d = some dd ∧ H dd = some (.xd fs) ∧ xs = [.ref a, c] ∧ PySem.W.kitOne K (.ref C) cv = some b ∧ Q (.bl b) H
def uIsX (K : PySem.W.Frag) (a : Addr) (cls : Value) (d : Option Addr) (cv : Value) (ue : DTE) : DTE := fun ρ μ Q E => ue ρ μ (fun x μ1 => match x with
  | .exc a' C d' (_ :: _) => a' = a ∧ cls = .ref C ∧ d' = d ∧ Vx.ExcX K C ∧ ∃ b, PySem.W.kitOne K (.ref C) cv = some b ∧ Q (.bl b) μ1
  | _ => False) E
theorem sim_isX {a : Addr} {cls : Value} {d : Option Addr} {c : V} {cv : Value} {te : TE} {ue : DTE} (s : Sim K Ex te ue) : Sim K Ex (tCB (rIsXA K a cls d c cv) (tCons te (tCons (tC c) tNil))) (uIsX K a cls d cv ue) := fun Z as F H σ ρ μ Q E Q' R X h k =>
  s Z as F H σ ρ μ _ E _ R X h fun v dv μ1 as1 F1 H1 g1 R1 r1 h1 => by
    cases r1 <;> try exact h1.elim
    rename_i a' C dd fs gs e r
    cases gs with
    | nil => exact h1.elim
    | cons g0 gs =>
      obtain ⟨e1, e2, e3, e4, b, e5, q⟩ := h1
      exact ⟨C, e2, e4, dd, fs, b, e3.symm, R1.mm.same _ _ e, by rw [e1], e5, k _ _ μ1 as1 F1 H1 g1 R1 (.bl _) q⟩
end
section
variable {X : Cx} {a : Addr} {oe : Obj} {cls : Value} {d : Option Addr} {pn : List (Addr × Obj)} {K : PySem.W.Frag} {pos p1 p2 : Pos} {e : Expr} {te : TE} {ue : DTE} {f n : Str}
theorem d_xf (hz : Zc cls d oe) (hf : ∃ vs, oe.data = .fields vs) (he : PD (X.suite a ((a, oe) :: pn)) K X0 e te ue) (hK : X.K = K := by rfl) (hb : attributeBase e f (X.suite a ((a, oe) :: pn)).env (eval e (X.suite a ((a, oe) :: pn)).env) = eval e (X.suite a ((a, oe) :: pn)).env := by rfl) :
    PD (X.suite a ((a, oe) :: pn)) K X0 (.Attribute e f pos) (tXfA K a cls d f te) (uXf K a cls d f ue) := by
  subst hK
  refine ⟨⟨fun pins s σ H Q I h => ?_⟩, sim_xf he.sim⟩
  refine attr_of hb (thn (he.pe.run pins s σ H _ I h) fun u s1 hh => ?_)
  obtain ⟨x, H1, I1, rx, ex, C, ec, T, hno, dd, fs, v, ed, ea, l, q⟩ := hh
  subst ex
  obtain rfl : u = Value.ref a := rx
  subst ec
  subst ed
  obtain ⟨ha, _⟩ := I1.pin (a, oe) (List.mem_append_left _ List.mem_cons_self)
  obtain ⟨vs, hd⟩ := hf
  have hx : ObjOk X.prog X.w H1 s1.heap dd (.xd fs) := I1.hok dd _ ea
  obtain ⟨mA, hns, hr⟩ := hx
  obtain ⟨od, ho, hl⟩ := lookIn_ns hns
  obtain ⟨u, hu, ru⟩ := RelO.some_of (v := v) (o := mA f) (by rw [← l]; exact hr f)
  have J : PySem.W.InstAt s1.heap a oe C (some od) := ⟨ha, hz.1, by unfold PySem.W.notCls; rw [hd] <;> rfl, by rw [hz.2]; exact ho⟩
  exact HandSPX.exc_get I1.kIn J T.ga T.gg T.exC (PySem.W.findObj_own T.hdC hno rfl (by rw [hl, hu])) (handed_of ru) ⟨v, H1, I1.tok _, ru, q⟩
theorem call_isXA {c : V} {cv : Value} (hcv : ∀ u, RelV c u → u = cv) (hz : Zc cls d oe) (hf : ∃ vs, oe.data = .fields vs) : CallR (X.suite a ((a, oe) :: pn)) (.builtin "isinstance") (rIsXA X.K a cls d c cv) := by
  intro pins s σ H xs us Q I r h
  obtain ⟨C, ec, T, dd, fs, b, ed, hd, ex, e, q⟩ := h
  exact Vx.call_isX T hz hf pins s σ H xs us Q I r ⟨ec, dd, fs, c, cv, b, ed, hd, ex, hcv, e, q⟩
/-- isinstance(e, C) of the caught error, C an own class -/
theorem d_isX {C : Addr} (hz : Zc cls d oe) (hf : ∃ vs, oe.data = .fields vs) (hm : X.mg "isinstance" = none) (hm2 : X.mg n = some (.ref C)) (he : PD (X.suite a ((a, oe) :: pn)) K X0 e te ue) (hg : Gl X "isinstance" := by rfl) (hg2 : Gl X n := by rfl) (hK : X.K = K := by rfl)
    (hd : (n == ("__debug__" : Str)) = false := by decide) (h1 : starEach [e, .Name n p1] X.env = (false, eval e X.env) :: starEach [.Name n p1] X.env := by rfl) (h2 : starEach [.Name n p1] X.env = (false, eval (.Name n p1) X.env) :: starEach [] X.env := by rfl) (h3 : (backTo pos (starEach [.Name n p1] X.env)).any (·.1) = false := by rfl) :
    PD (X.suite a ((a, oe) :: pn)) K X0 (.Call (.Name "isinstance" p2) [e, .Name n p1] [] pos) (tCB (rIsXA K a cls d (.ref C) (.ref C)) (tCons te (tCons (tC (.ref C)) tNil))) (uIsX K a cls d (.ref C) ue) := by
  subst hK
  exact ⟨pe_callB (X := X.suite a ((a, oe) :: pn)) (call_isXA (fun u z => z) hz hf) hg hm (by decide +kernel) (pa_cons he.pe (pa_cons (pe_glob (X := X.suite a ((a, oe) :: pn)) (v := .ref C) hg2 hm2 rfl hd) pa_nil h2) h1) (by decide) (by decide) h1 h3, sim_isX he.sim⟩
theorem d_isXB {T : String} (hz : Zc cls d oe) (hf : ∃ vs, oe.data = .fields vs) (hm : X.mg "isinstance" = none) (hm2 : X.mg n = none) (he : PD (X.suite a ((a, oe) :: pn)) K X0 e te ue) (hv : bootBuiltins n = some (.type T) := by decide +kernel) (hg : Gl X "isinstance" := by rfl) (hg2 : Gl X n := by rfl) (hK : X.K = K := by rfl)
    (hn : n ≠ "__name__" := by decide) (hd : (n == ("__debug__" : Str)) = false := by decide) (h1 : starEach [e, .Name n p1] X.env = (false, eval e X.env) :: starEach [.Name n p1] X.env := by rfl) (h2 : starEach [.Name n p1] X.env = (false, eval (.Name n p1) X.env) :: starEach [] X.env := by rfl) (h3 : (backTo pos (starEach [.Name n p1] X.env)).any (·.1) = false := by rfl) :
    PD (X.suite a ((a, oe) :: pn)) K X0 (.Call (.Name "isinstance" p2) [e, .Name n p1] [] pos) (tCB (rIsXA K a cls d (.ty T) (.type T)) (tCons te (tCons (tC (.ty T)) tNil))) (uIsX K a cls d (.type T) ue) := by
  subst hK
  exact ⟨pe_callB (X := X.suite a ((a, oe) :: pn)) (call_isXA (fun u z => z) hz hf) hg hm (by decide +kernel) (pa_cons he.pe (pa_cons (pe_bltn (X := X.suite a ((a, oe) :: pn)) (v := .ty T) hg2 hm2 hv rfl hn hd) pa_nil h2) h1) (by decide) (by decide) h1 h3, sim_isX he.sim⟩
end
end DX
set_option Elab.async false
set_option linter.all false
set_option maxRecDepth 100000
set_option maxHeartbeats 2000000
namespace Vx
open PySem PySem.Spec PyProof.Rows L2
section
variable {X : Cx} {CX : CXT} {k : Nat} {C f : Addr} {sp : Sp} {E : XK} {pins : List (Addr × Obj)} {σ : L2.St} {H : Hp} {s : Shared} {Q : VK} {A : Around}
/-- a def called somewhere below the running body -/
theorem run_in {us : List Value} {vs : List V} (sb : Sub X k A) (F : FnR X.prog X.w X.K X.mg X.base CX k f sp) (hx : Passes CX X E) (I : L2.Inv X pins σ H s) (r : Vals vs us) (h : sp vs H Q E) :
    codeAny (model X.prog X.w) A (.call (.ref f) ⟨us, []⟩) (fun r s' => match r with | .ok (.ret v) => EP X pins σ Q v s' | .ok _ => False | .error e => X.xe e s') s := by
  have e0 : Env0 X.prog X.w X.K X.mg X.base A X.stack s H := by
    have e := I.env0
    exact ⟨by rw [sb.fr]; exact e.frames, e.mod, e.bs, e.bsz, e.funs, e.frf, e.hok, e.bare⟩
  refine codeAny_mono (F A X.stack s H us vs Q E sb.room e0 r h) fun r s' hq => ?_
  cases r with
  | error e => exact hx pins σ H s e s' I hq
  | ok fl =>
    cases fl with
    | ret u => exact I.after hq
    | next => exact False.elim hq
    | brk => exact False.elim hq
    | cont => exact False.elim hq
end
section
variable {prog : Program} {w : World} {A : Around} {E : Value → Shared → Prop} {s : Shared} {K : PySem.W.Frag} {x C L f : Addr} {h₀ : Heap} {m : Str → Option Value} {ox : Obj} {od : Option Obj} {b : Value}
open PySem.W in
theorem ne_body (hu : A.units < cLine) (X : K.In s.heap) (I : InstAt s.heap x ox C od) (he : findIn K (.ref C) "__eq__" = some (some (.ref f))) (hf : isFn K (.ref f) = true) {Q : Value → Shared → Prop}
    (h : wpAny (model prog w) A (call (.ref f) [.ref x, b]) (fun v s' => ∃ r, v = .bool r ∧ Q (.bool (!r)) s') E s) :
    wpAny (model prog w) A (Builtin.«object.__ne__» ⟨[.ref x, b], []⟩) (fun fin s' => ∃ v, fin = .done (.ret v) ∧ Q v s') E s := by
  unfold Builtin.«object.__ne__»
  obtain ⟨hh, g, d, t, os⟩ := s
  have st : wpAny (model prog w) A (callSpecialIfBound? (.ref x) "__eq__" [b]) (fun r s' => ∃ v, r = some (.bool v) ∧ Q (.bool (!v)) s') E ⟨hh, g, d, t, os⟩ :=
    ifBound_K X I he hf (wpAny_mono h (fun v s' hv => by obtain ⟨r, rfl, q⟩ := hv; exact ⟨r, rfl, q⟩) fun _ _ z => z)
  repeat (first | with_reducible refine wpAny_cRoomFor hu ?_ | with_reducible refine wpAny_bind (wpAny_mono st (fun r s' hr => ?_) fun _ _ z => z) | wp_step)
  obtain ⟨v, rfl, q⟩ := hr
  refine wpAny_bind (wpAny_truthy_bool ?_)
  exact wpAny_pure ⟨_, rfl, q⟩
open PySem.W in
theorem ne_K {Q : Value → Shared → Prop} {tb : Value} (hu : A.units + 1 < cLine) (F : Fr h₀ L s.heap m) (X₀ : K.In h₀) (I : InstAt s.heap x ox C od) (hb : Looks (model prog w) s.heap (typeOf b) tb) (hn : notFirst K C tb = true)
    (hs : findIn K (.ref C) "__ne__" = some (some (.builtin "object.__ne__"))) (he : findIn K (.ref C) "__eq__" = some (some (.ref f))) (hf : isFn K (.ref f) = true) (ho : mroIn K C (.type "object") = some true)
    (h : wpAny (model prog w) A.in1 (call (.ref f) [.ref x, b]) (fun v s' => ∃ r, v = .bool r ∧ Q (.bool (!r)) s') E s) : wpAny (model prog w) A (richCompare .NotEq (.ref x) b) Q E s := by
  have X := X₀.keeps F.keep
  have hu0 : A.units < cLine := Nat.lt_trans (Nat.lt_succ_self _) hu
  have cb : wpAny (model prog w) A (call (.builtin "object.__ne__") ([.ref x] ++ [b])) (fun v s' => ∃ r, v = .bool r ∧ Q v s') E s := by
    refine wpAny_call (codeAny_call_builtin PySem.F.cmp_object.ne.plain PySem.F.cmpEntry_ne (check_slot PySem.F.cmpKind_ne PySem.F.cmpSplit_ne (I.type.andThen (looks_mroIn X ho)) (PySem.F.cmpArgs_ne _ _) ?_))
    have z : wpAny (model prog w) A.in1 (Builtin.«object.__ne__» ⟨[.ref x, b], []⟩) (fun fin s' => ∃ v, fin = .done (.ret v) ∧ ∃ r, v = .bool r ∧ Q v s') E s :=
      ne_body (Q := fun v s' => ∃ r, v = .bool r ∧ Q v s') (A := A.in1) hu X I he hf (wpAny_mono h (fun v s' hv => by obtain ⟨r, rfl, q⟩ := hv; exact ⟨r, rfl, _, rfl, q⟩) fun _ _ z => z)
    refine wpAny_mono z (fun fin s' hv => ?_) fun _ _ y => y
    obtain ⟨v, rfl, r, rfl, q⟩ := hv
    exact ⟨r, rfl, q⟩
  have one : wpAny (model prog w) A (tryCompare (.ref x) "__ne__" b) (fun r s' => ∃ v, r = some v ∧ Q v s') E s := by
    unfold tryCompare
    refine wpAny_bind ?_
    simp only [callSpecialIfBound?, bindSpecialIfBound?]
    refine wpAny_holding (wpAny_bind (wpAny_bind (wpAny_bind (I.type.here ((looks_findIn X hs).here ?_)))))
    simp only [PySem.F.cmp_object.ne.bind]
    refine wpAny_bind (wpAny_askSetting (wpAny_ite ?_))
    have fin : wpAny (model prog w) A (call (.builtin "object.__ne__") ([.ref x] ++ [b]) >>= fun v => pure (some v)) (fun r s' => ∃ v, r = some (.bool v) ∧ Q (.bool v) s') E s :=
      wpAny_bind (wpAny_mono cb (fun v s' h' => by obtain ⟨r, rfl, q⟩ := h'; exact wpAny_pure ⟨r, rfl, q⟩) fun _ _ h' => h')
    have fin2 := wpAny_mono fin (Q' := fun r s' => wpAny (model prog w) A (match r with | some .notImplemented => pure none | none => pure none | some v => pure (some v)) (fun r s' => ∃ v, r = some v ∧ Q v s') E s') (fun r s' h' => by obtain ⟨v, rfl, q⟩ := h'; exact wpAny_pure ⟨_, rfl, q⟩) fun _ _ z => z
    split
    · exact wpAny_bind (wpAny_pure (wpAny_pure fin2))
    · exact wpAny_tryCatch (wpAny_bind (wpAny_pure (wpAny_pure fin2)))
  unfold richCompare
  simp only [oneThing_ref]
  refine wpAny_holding (wpAny_bind (wpAny_cRoomFor hu0 ?_))
  refine wpAny_bind (I.type.here (wpAny_bind (hb.here ?_)))
  split
  · rename_i q
    have e : subIn K tb (.ref C) = some false := by
      rcases Bool.or_eq_true_iff.mp hn with e | e
      · rw [beq_iff_eq.mp e] at q; simp at q
      · exact beq_iff_eq.mp e
    refine wpAny_bind ((looks_subIn X e).here ?_)
    simp only [Bool.false_eq_true, if_false]
    refine wpAny_bind (wpAny_mono one (fun r s' z => ?_) fun _ _ e => e)
    obtain ⟨v, rfl, hq⟩ := z
    exact wpAny_pure hq
  · refine wpAny_bind (wpAny_pure ?_)
    simp only [Bool.false_eq_true, if_false]
    refine wpAny_bind (wpAny_mono one (fun r s' z => ?_) fun _ _ e => e)
    obtain ⟨v, rfl, hq⟩ := z
    exact wpAny_pure hq
end
section
variable {X : Cx} {CX : CXT} {k : Nat} {C f : Addr} {sp : Sp} {E : XK}
/-- o != y: not o == y, by the own == -/
def rNeOwn (C : Addr) (sp : Sp) (E : XK) : R2 := fun x y H Q => (∃ a dx fs, x = .ref a ∧ H a = some (.ins C dx fs)) ∧ (∃ b dy gs, y = .ref b ∧ H b = some (.ins C dy gs)) ∧ sp [x, y] H (fun v H' => ∃ r, v = .bl r ∧ Q (.bl (!r)) H') E
theorem op_neOwn (nf : PySem.W.notFirst X.K C (.ref C) = true) (hs : PySem.W.findIn X.K (.ref C) "__ne__" = some (some (.builtin "object.__ne__"))) (he : PySem.W.findIn X.K (.ref C) "__eq__" = some (some (.ref f))) (fn : PySem.W.isFn X.K (.ref f) = true)
    (ho : PySem.W.mroIn X.K C (.type "object") = some true) (F : FnR X.prog X.w X.K X.mg X.base CX k f sp) (hr : Room (k + 1) X.A) (hx : Passes CX X E) : OpR X (compareOp .NotEq) (rNeOwn C sp E) := by
  intro pins s σ H x y v u Q I rx ry hq
  obtain ⟨⟨a, dx, fs, rfl, ha⟩, ⟨b, dy, gs, rfl, hb⟩, hsp⟩ := hq
  have ev : v = Value.ref a := rx
  have eu : u = Value.ref b := ry
  have sb : Sub X k X.A.in1 := (⟨hr, rfl⟩ : Sub X (k + 1) X.A).in1
  have cl := wpAny_call (run_in (us := [v, u]) (vs := [V.ref a, V.ref b]) sb F hx I (.cons rx (.cons ry .nil)) hsp)
  subst ev eu
  obtain ⟨mA, J, _⟩ := ins_get I.hok ha
  obtain ⟨od, J, _⟩ := J.look
  obtain ⟨mB, J', _⟩ := ins_get I.hok hb
  obtain ⟨od', J', _⟩ := J'.look
  obtain ⟨m, hF⟩ := I.fr
  show wpAny (model X.prog X.w) X.A (richCompare .NotEq (.ref a) (.ref b)) (EP X pins σ Q) X.xe s
  refine ne_K (hu_of hr) hF I.ok.mod.kin J J'.type nf hs he fn ho (wpAny_mono cl (fun v s' hv => ?_) fun _ _ z => z)
  obtain ⟨v', H', I', rv, r, rfl, q⟩ := hv
  exact ⟨r, rv, .bl (!r), H', I', rfl, q⟩
end
end Vx
set_option Elab.async false
set_option linter.all false
set_option maxRecDepth 100000
set_option maxHeartbeats 4000000
namespace DX
open PySem PySem.Spec PyProof.Rows L2
/-! ### own special methods, walks of pairs, small things -/
def isC (C : Addr) (μ : Mem) (x : D) : Prop := match view μ x with
  | .ins C' _ => C' = C
  | _ => False
abbrev EF : Addr → List (Str × D) → Mem → Prop := fun _ _ _ => False
section
variable {K : PySem.W.Frag} {Z : Hp} {as as' as1 : List Addr} {F F' F1 H H' H1 : Hp} {Ex : L2.St → XK}
theorem isC_at {C : Addr} {μ : Mem} (M : Mm K Z as F H μ) {v : V} {d : D} (r : Rep K as F v d) (h : isC C μ d) : ∃ a dx fs, v = .ref a ∧ H a = some (.ins C dx fs) := by
  unfold isC at h
  cases e : view μ d with
  | ins C' gs =>
    rw [e] at h
    have h : C' = C := h
    subst h
    obtain ⟨a, dx, fs, rfl, q, x⟩ := view_ins M r e
    exact ⟨a, dx, fs, rfl, q⟩
  | _ => rw [e] at h; exact h.elim
/-- a promise at work, nothing raised -/
theorem sp_useM {S : DSp} {μ : Mem} {vs : List V} {ds : List D} {Q : D → Mem → Prop} {Q' : VK} (M : Mm K Z as F H μ) (r : RepL K as F vs ds) (h : S ds μ Q EF)
    (k : ∀ v d μ' as' F' H', Gr as F as' F' → Mm K Z as' F' H' μ' → Rep K as' F' v d → Q d μ' → Q' v H') : toSp K S vs H Q' E0 := ⟨Z, as, F, ds, μ, Q, EF, r, M, h, k, fun _ _ _ _ _ _ _ _ _ _ z => z.elim⟩
end
section
variable {X : Cx} {CX : CXT} {k : Nat} {C f : Addr} {sp : Sp} {Ex : L2.St → XK}
theorem passN {X : Cx} (σ : L2.St) : PassesAt (L2.CX X.prog X.w) X σ E0 := fun pins H s e s' I c => passL pins σ H s e s' I c
/-- a def called somewhere below the running body -/
theorem run_inQ {E : XK} {pins : List (Addr × Obj)} {σ : L2.St} {H : Hp} {s : Shared} {Q : VK} {A : Around} {us : List Value} {vs : List V} (sb : Sub X k A) (F : Gd.FnG X.prog X.w X.K X.mg X.base CX k f sp) (g : Gd.Calm0 A) (hx : PassesAt CX X σ E) (I : L2.Inv X pins σ H s) (r : Vals vs us) (h : sp vs H Q E) :
    codeAny (model X.prog X.w) A (.call (.ref f) ⟨us, []⟩) (fun r s' => match r with | .ok (.ret v) => EP X pins σ Q v s' | .ok _ => False | .error e => X.xe e s') s := by
  have e0 : Env0 X.prog X.w X.K X.mg X.base A X.stack s H := by
    have e := I.env0
    exact ⟨by rw [sb.fr]; exact e.frames, e.mod, e.bs, e.bsz, e.funs, e.frf, e.hok, e.bare⟩
  refine codeAny_mono (F A X.stack s H us vs Q E g sb.room e0 r h) fun r s' hq => ?_
  cases r with
  | error e => exact hx pins H s e s' I hq
  | ok fl =>
    cases fl with
    | ret u => exact I.after hq
    | next => exact False.elim hq
    | brk => exact False.elim hq
    | cont => exact False.elim hq
theorem calm1 {A : Around} (g : Gd.Calm0 A) : Gd.Calm0 A.in1 := g
/-! o[i] -/
structure GetI (K : PySem.W.Frag) (C f : Addr) : Prop where
  at_ : PySem.W.findIn K (.ref C) "__getitem__" = some (some (.ref f))
  fi : PySem.W.fnIn K f = true
  fn : PySem.W.isFn K (.ref f) = true
def tGetQ (C : Addr) (sp : Sp) (E : L2.St → XK) (ta tb : TE) : TE := fun σ H Q => ta σ H fun x H1 => tb σ H1 fun y H2 => (∃ a dx fs, x = .ref a ∧ H2 a = some (.ins C dx fs)) ∧ sp [x, y] H2 Q (E σ)
theorem pe_getQ {a b : Expr} {pos : Pos} {ta tb : TE} (ha : PE X a ta) (hb : PE X b tb) (G : GetI X.K C f) (F : Gd.FnG X.prog X.w X.K X.mg X.base CX k f sp) (g : Gd.Calm0 X.A) (hr : Room (k + 1) X.A) (hx : ∀ σ, PassesAt CX X σ (Ex σ))
    (hs : ∀ o i : Value, subscripted b true o i = runValue (.builtin "lifetime.subscript" ⟨[o, i], []⟩)) : PE X (.Subscript a b pos) (tGetQ C sp Ex ta tb) := by
  refine ⟨fun pins s σ H Q I h => ?_⟩
  refine Subscript_ (binT ha hb I h fun v u s2 x y H2 I2 rx ry q => ?_)
  obtain ⟨⟨r, dx, fs, rfl, hr1⟩, hsp⟩ := q
  have ev : v = Value.ref r := rx
  have sb : Sub X k X.A.in1 := (⟨hr, rfl⟩ : Sub X (k + 1) X.A).in1
  have cl := run_inQ (us := [v, u]) (vs := [V.ref r, y]) sb F (calm1 g) (hx σ) I2 (.cons rx (.cons ry .nil)) hsp
  subst ev
  obtain ⟨mA, J, _⟩ := ins_get I2.hok hr1
  obtain ⟨od, J, _⟩ := J.look
  obtain ⟨m, hF⟩ := I2.fr
  exact PySem.W.sub_K hF I2.ok.mod.kin J G.at_ G.fi G.fn (wpAny_call cl) (hs _ _)
/-! o[i] = v -/
structure SetI (K : PySem.W.Frag) (C f : Addr) : Prop where
  nq : PySem.W.noSeq K C = true
  at_ : PySem.W.findIn K (.ref C) "__setitem__" = some (some (.ref f))
  fn : PySem.W.isFn K (.ref f) = true
def gSetQ (C : Addr) (sp : Sp) (E : L2.St → XK) (to ti : TE) : TG := fun v σ H Q => to σ H fun o H1 => ti σ H1 fun i H2 => (∃ a dx fs, o = .ref a ∧ H2 a = some (.ins C dx fs)) ∧ sp [o, i, v] H2 (fun _ H3 => Q σ H3) (E σ)
theorem pg_setQ {o i : Expr} {pos : Pos} {to ti : TE} (ho : PE X o to) (hi : PE X i ti) (G : SetI X.K C f) (F : Gd.FnG X.prog X.w X.K X.mg X.base CX k f sp) (g : Gd.Calm0 X.A) (hr : Room k X.A) (hx : ∀ σ, PassesAt CX X σ (Ex σ))
    (ha : ∀ v, assign (.Subscript o i pos) X.env v = (do
      let ov ← holding [v] (eval o X.env)
      let iv ← holding [v, ov] (eval i X.env)
      standAt pos
      holding [v, ov, iv] (setItem ov iv v)
      release [v, ov, iv] []) := by intro _; rfl) : PG X (.Subscript o i pos) (gSetQ C sp Ex to ti) := by
  refine ⟨fun pins s σ H v u Q I r h => ?_⟩
  rw [ha]
  refine wpAny_bind (wpAny_holding (thn (ho.run pins s σ H _ I h) fun ov s1 ⟨x, H1, I1, r1, q1⟩ => ?_))
  refine wpAny_bind (wpAny_holding (thn (hi.run pins s1 σ H1 _ I1 q1) fun iv s2 ⟨y, H2, I2, r2, q2⟩ => ?_))
  obtain ⟨⟨a, dx, fs, rfl, ha⟩, hsp⟩ := q2
  have eo : ov = Value.ref a := r1
  refine wpAny_bind (wpAny_standAt (wpAny_bind (wpAny_holding ?_)))
  have cl := run_gW (us := [ov, iv, u]) (vs := [V.ref a, y, v]) F g hr (hx σ) I2 (.cons r1 (.cons r2 (.cons r .nil))) hsp
  subst eo
  obtain ⟨mA, J, _⟩ := ins_get I2.hok ha
  obtain ⟨od, J, _⟩ := J.look
  obtain ⟨m, hF⟩ := I2.fr
  refine PySem.W.ksp_setItem hF I2.ok.mod.kin J G.nq G.at_ G.fn (wpAny_mono cl (fun r s' z => ?_) fun _ _ z => z)
  obtain ⟨v', H', I', rv, q⟩ := z
  exact wpAny_release ⟨σ, H', I', q⟩
/-! len(o) -/
structure LenI (K : PySem.W.Frag) (C f : Addr) : Prop where
  at_ : PySem.W.findIn K (.ref C) "__len__" = some (some (.ref f))
  fn : PySem.W.isFn K (.ref f) = true
def rLenQ (C : Addr) (sp : Sp) : List V → Hp → VK → Prop := fun xs H Q => (∃ a dx fs, xs = [.ref a] ∧ H a = some (.ins C dx fs)) ∧ sp xs H (fun v H' => ∃ n : Nat, v = .int n ∧ n < 1000000 ∧ Q (.int n) H') E0
theorem call_lenQ (G : LenI X.K C f) (F : Gd.FnG X.prog X.w X.K X.mg X.base (L2.CX X.prog X.w) k f sp) (g : Gd.Calm0 X.A) (hr : Room (k + 1) X.A) : CallR X (.builtin "len") (rLenQ C sp) := by
  intro pins s σ H xs us Q I r h
  obtain ⟨⟨a, dx, fs, rfl, ha⟩, hsp⟩ := h
  obtain ⟨u, rfl, rx⟩ := vals1 r
  cases rx
  have sb : Sub X k X.A.in1 := (⟨hr, rfl⟩ : Sub X (k + 1) X.A).in1
  obtain ⟨mA, J, _⟩ := ins_get I.hok ha
  obtain ⟨od, J, _⟩ := J.look
  obtain ⟨m, hF⟩ := I.fr
  refine PySem.W.len_K hF I.ok.mod.kin J G.at_ G.fn (wpAny_mono (wpAny_call (run_inQ (us := [.ref a]) (vs := [V.ref a]) sb F (calm1 g) (passN σ) I (.cons rfl .nil) hsp)) (fun v s' hv => ?_) fun _ _ z => z)
  obtain ⟨v', H', I', rv, n, rfl, hn, q⟩ := hv
  obtain ⟨t, rfl⟩ := rv
  exact ⟨⟨by omega, by omega⟩, .int n, H', I'.tok _, ⟨_, rfl⟩, q⟩
/-! o == y, o != y, x in o, o < y -/
theorem call_cmpQ {pins : List (Addr × Obj)} {σ : L2.St} {H : Hp} {s : Shared} {Q : VK} {us : List Value} {vs : List V} (F : Gd.FnG X.prog X.w X.K X.mg X.base (L2.CX X.prog X.w) k f sp) (g : Gd.Calm0 X.A) (hr : Room k X.A) (I : L2.Inv X pins σ H s) (r : Vals vs us) (h : sp vs H Q E0) :
    wpAny (model X.prog X.w) X.A (call (.ref f) us) (PySem.W.CmpBack (EP X pins σ Q)) X.xe s :=
  wpAny_mono (run_gW (E := fun _ => E0) F g hr (passN σ) I r h) (fun _ _ z => Vx.cmpBack_of z) fun _ _ z => z
structure CmpI (K : PySem.W.Frag) (C f : Addr) (m : Str) : Prop where
  at_ : PySem.W.findIn K (.ref C) m = some (some (.ref f))
  fn : PySem.W.isFn K (.ref f) = true
/-- y comes not first -/
def rCmpQ (K : PySem.W.Frag) (C : Addr) (sp : Sp) : R2 := fun x y H Q => (∃ a dx fs, x = .ref a ∧ H a = some (.ins C dx fs)) ∧ (∃ t, TyX K H y t ∧ PySem.W.notFirst K C t = true) ∧ sp [x, y] H Q E0
theorem op_cmpQ {op : CmpOp} (hc : ∀ v u, compareOp op v u = richCompare op v u) (G : CmpI X.K C f (cmpInfo op).2.1) (F : Gd.FnG X.prog X.w X.K X.mg X.base (L2.CX X.prog X.w) k f sp) (g : Gd.Calm0 X.A) (hr : Room k X.A) : OpR X (compareOp op) (rCmpQ X.K C sp) := by
  intro pins s σ H x y v u Q I rx ry hq
  obtain ⟨⟨a, dx, fs, rfl, ha⟩, ⟨t, ty, nf⟩, hsp⟩ := hq
  have ev : v = Value.ref a := rx
  have cl := call_cmpQ F g hr I (us := [v, u]) (vs := [V.ref a, y]) (.cons rx (.cons ry .nil)) hsp
  subst ev
  obtain ⟨mA, J, _⟩ := ins_get I.hok ha
  obtain ⟨od, J, _⟩ := J.look
  obtain ⟨m, hF⟩ := I.fr
  obtain ⟨PP, KX, hP, _⟩ := L2.kit_of I ry ty
  rw [hc]
  exact PySem.W.cmp_K hr.units0 hF I.ok.mod.kin J (KX.ty _ _ I.kIn hP) nf G.at_ G.fn cl
structure NeI (K : PySem.W.Frag) (C f : Addr) : Prop where
  hs : PySem.W.findIn K (.ref C) "__ne__" = some (some (.builtin "object.__ne__"))
  he : PySem.W.findIn K (.ref C) "__eq__" = some (some (.ref f))
  fn : PySem.W.isFn K (.ref f) = true
  ho : PySem.W.mroIn K C (.type "object") = some true
def rNeQ (K : PySem.W.Frag) (C : Addr) (sp : Sp) : R2 := fun x y H Q => (∃ a dx fs, x = .ref a ∧ H a = some (.ins C dx fs)) ∧ (∃ t, TyX K H y t ∧ PySem.W.notFirst K C t = true) ∧ sp [x, y] H (fun v H' => ∃ r, v = .bl r ∧ Q (.bl (!r)) H') E0
theorem op_neQ (G : NeI X.K C f) (F : Gd.FnG X.prog X.w X.K X.mg X.base (L2.CX X.prog X.w) k f sp) (g : Gd.Calm0 X.A) (hr : Room (k + 1) X.A) : OpR X (compareOp .NotEq) (rNeQ X.K C sp) := by
  intro pins s σ H x y v u Q I rx ry hq
  obtain ⟨⟨a, dx, fs, rfl, ha⟩, ⟨t, ty, nf⟩, hsp⟩ := hq
  have ev : v = Value.ref a := rx
  have sb : Sub X k X.A.in1 := (⟨hr, rfl⟩ : Sub X (k + 1) X.A).in1
  have cl := wpAny_call (run_inQ (us := [v, u]) (vs := [V.ref a, y]) sb F (calm1 g) (passN σ) I (.cons rx (.cons ry .nil)) hsp)
  subst ev
  obtain ⟨mA, J, _⟩ := ins_get I.hok ha
  obtain ⟨od, J, _⟩ := J.look
  obtain ⟨m, hF⟩ := I.fr
  obtain ⟨PP, KX, hP, _⟩ := L2.kit_of I ry ty
  show wpAny (model X.prog X.w) X.A (richCompare .NotEq (.ref a) u) (EP X pins σ Q) X.xe s
  refine Vx.ne_K (hu_of hr) hF I.ok.mod.kin J (KX.ty _ _ I.kIn hP) nf G.hs G.he G.fn G.ho (wpAny_mono cl (fun v s' hv => ?_) fun _ _ z => z)
  obtain ⟨v', H', I', rv, r, rfl, q⟩ := hv
  exact ⟨r, rv, .bl (!r), H', I', rfl, q⟩
def rInQ (C : Addr) (sp : Sp) (neg : Bool) : R2 := fun x y H Q => (∃ a dx fs, y = .ref a ∧ H a = some (.ins C dx fs)) ∧ sp [y, x] H (fun v H' => ∃ b, v = .bl b ∧ Q (.bl (if neg then !b else b)) H') E0
theorem op_inQ (G : CmpI X.K C f "__contains__") (F : Gd.FnG X.prog X.w X.K X.mg X.base (L2.CX X.prog X.w) k f sp) (g : Gd.Calm0 X.A) (hr : Room k X.A) : OpR X (compareOp .In) (rInQ C sp false) := by
  intro pins s σ H x y v u Q I rx ry hq
  obtain ⟨⟨a, dx, fs, rfl, ha⟩, hsp⟩ := hq
  have eu : u = Value.ref a := ry
  have cl := run_gW (E := fun _ => E0) (us := [u, v]) (vs := [V.ref a, x]) F g hr (passN σ) I (.cons ry (.cons rx .nil)) hsp
  subst eu
  obtain ⟨mA, J, _⟩ := ins_get I.hok ha
  obtain ⟨od, J, _⟩ := J.look
  obtain ⟨m, hF⟩ := I.fr
  refine PySem.W.in_K hF I.ok.mod.kin J G.at_ G.fn (wpAny_mono cl (fun r s' z => ?_) fun _ _ z => z)
  obtain ⟨v', H', I', rv, b, rfl, q⟩ := z
  have er : r = Value.bool b := rv
  subst er
  exact wpAny_truthy_bool ⟨.bl b, H', I', rfl, q⟩
end
section
variable {X : Cx} {k : Nat} {C q f : Addr} {mc : Value} {sp : Sp} {Ex : L2.St → XK} {o e : Expr} {es : List Expr} {m : Str} {pos apos : Pos} {ta : TE} {t : TA} {pl : Sem Bool}
/-! C.m(..) of a static method -/
def tSMethQ (C : Addr) (sp : Sp) (E : L2.St → XK) (ta : TE) (t : TA) : TE := fun σ H Q => ta σ H fun x H1 => x = .ref C ∧ t σ H1 fun vs H2 => sp vs H2 Q (E σ)
theorem pe_smethQ (hO : PE X o ta) (cr : ClX.CRead X.K C mc) (c : Vx.SMet X.K C mc m q f) (F : Gd.FnG X.prog X.w X.K X.mg X.base (L2.CX X.prog X.w) k f sp) (g : Gd.Calm0 X.A) (hr : Room k X.A) (tk : Tk X Ex) (hA : PA X (e :: es) t)
    (h1 : starEach (e :: es) X.env = (false, eval e X.env) :: starEach es X.env := by rfl) (h2 : (backTo pos (starEach es X.env)).any (·.1) = false := by rfl)
    (hW : eval (.Call (.Attribute o m apos) (e :: es) [] pos) X.env = (do
      let ov ← eval o X.env
      standAt apos.atName
      let (f, first) ← holding [ov] (getMethod ov m pl)
      callWith pos f first (backTo pos (starEach (e :: es) X.env)) (backToKw pos (keywordEach [] X.env))) := by rfl) : PE X (.Call (.Attribute o m apos) (e :: es) [] pos) (tSMethQ C sp Ex ta t) := by
  refine ⟨fun pn s σ H Q I h => PySem.W.methodCall_KW (pl := pl) (thn (hO.run pn s σ H _ I h) fun u s1 hh => ?_) hW⟩
  obtain ⟨x, H1, I1, rx, ex, y⟩ := hh
  subst ex
  obtain rfl : u = Value.ref C := rx
  obtain ⟨rest, hp⟩ := c.rc
  refine PySem.W.method_cls I1.kIn cr.ga (PySem.W.cls_bind I1.kIn cr.rd c.at_ (wpAny_call (PySem.W.sm_get (s := { s1 with toks := s1.toks + 1 }) I1.kIn hp (PySem.W.handed_on rfl ?_))))
  have I2 : L2.Inv X pn σ H1 { s1 with toks := s1.toks + 1 } := I1.tok _
  refine PySem.W.callWith_K (h₀ := X.base) I2.ok.mod.kin c.kp (thn (hA.run pos pn _ σ H1 _ I2 y) fun us s3 hh => ?_) h1 h2
  obtain ⟨vs, H2, I3, rv, q2⟩ := hh
  exact ⟨I3.kIn, run_gW F g hr (tk_pass tk σ) I3 rv q2⟩
theorem pe_smethQ0 (hO : PE X o ta) (cr : ClX.CRead X.K C mc) (c : Vx.SMet X.K C mc m q f) (F : Gd.FnG X.prog X.w X.K X.mg X.base (L2.CX X.prog X.w) k f sp) (g : Gd.Calm0 X.A) (hr : Room k X.A) (tk : Tk X Ex)
    (hW : eval (.Call (.Attribute o m apos) [] [] pos) X.env = (do
      let ov ← eval o X.env
      standAt apos.atName
      let (f, first) ← holding [ov] (getMethod ov m pl)
      callWith pos f first (backTo pos (starEach [] X.env)) (backToKw pos (keywordEach [] X.env))) := by rfl) : PE X (.Call (.Attribute o m apos) [] [] pos) (tSMethQ C sp Ex ta tNil) := by
  refine ⟨fun pn s σ H Q I h => PySem.W.methodCall_KW (pl := pl) (thn (hO.run pn s σ H _ I h) fun u s1 hh => ?_) hW⟩
  obtain ⟨x, H1, I1, rx, ex, y⟩ := hh
  subst ex
  obtain rfl : u = Value.ref C := rx
  obtain ⟨rest, hp⟩ := c.rc
  refine PySem.W.method_cls I1.kIn cr.ga (PySem.W.cls_bind I1.kIn cr.rd c.at_ (wpAny_call (PySem.W.sm_get (s := { s1 with toks := s1.toks + 1 }) I1.kIn hp (PySem.W.handed_on rfl ?_))))
  have I2 : L2.Inv X pn σ H1 { s1 with toks := s1.toks + 1 } := I1.tok _
  exact PySem.W.callWith_K0 I2.kIn c.kp (run_gW (us := []) F g hr (tk_pass tk σ) I2 .nil y)
end
/-! ### by data -/
def uGet (C : Addr) (S : DSp) (ua ub : DTE) : DTE := fun ρ μ Q E => ua ρ μ (fun x μ1 => ub ρ μ1 (fun y μ2 => isC C μ2 x ∧ S [x, y] μ2 Q (E ρ)) E) E
def uGSetO (C : Addr) (S : DSp) (uo ui : DTE) : DTG := fun d ρ μ Q E => uo ρ μ (fun o μ1 => ui ρ μ1 (fun i μ2 => isC C μ2 o ∧ S [o, i, d] μ2 (fun _ μ3 => Q ρ μ3) (E ρ)) E) E
def dLenO (C : Addr) (S : DSp) : DC := one fun x μ Q => isC C μ x ∧ S [x] μ (fun r μ' => ∃ n : Nat, r = .int n ∧ n < 1000000 ∧ Q (.int n) μ') EF
def dCmpO (K : PySem.W.Frag) (C : Addr) (S : DSp) : DR2 := fun x y μ Q => isC C μ x ∧ (∃ t, tyOf μ y = some t ∧ TyOk K t ∧ PySem.W.notFirst K C (tyVal t) = true) ∧ S [x, y] μ Q EF
def dNeO (K : PySem.W.Frag) (C : Addr) (S : DSp) : DR2 := fun x y μ Q => isC C μ x ∧ (∃ t, tyOf μ y = some t ∧ TyOk K t ∧ PySem.W.notFirst K C (tyVal t) = true) ∧ S [x, y] μ (fun r μ' => ∃ b, r = .bl b ∧ Q (.bl (!b)) μ') EF
def dInO (C : Addr) (S : DSp) (neg : Bool) : DR2 := fun x y μ Q => isC C μ y ∧ S [y, x] μ (fun r μ' => ∃ b, r = .bl b ∧ Q (.bl (if neg then !b else b)) μ') EF
def uSMeth (C : Addr) (S : DSp) (uo : DTE) (u : DTA) : DTE := fun ρ μ Q E => uo ρ μ (fun x μ1 => (match x with | .val v => v = V.ref C | _ => False) ∧ u ρ μ1 (fun ds μ2 => S ds μ2 Q (E ρ)) E) E
section
variable {K : PySem.W.Frag} {Z : Hp} {as as' as1 : List Addr} {F F' F1 H H' H1 : Hp} {Ex : L2.St → XK} {C : Addr} {S : DSp}
theorem sim_get {ta tb : TE} {ua ub : DTE} (a : Sim K Ex ta ua) (b : Sim K Ex tb ub) : Sim K Ex (tGetQ C (toSp K S) Ex ta tb) (uGet C S ua ub) := fun Z as F H σ ρ μ Q E Q' R X h k =>
  a Z as F H σ ρ μ _ E _ R X h fun v d μ1 as1 F1 H1 g1 R1 r1 h1 => b Z as1 F1 H1 σ ρ μ1 _ E _ R1 (X.up g1) h1 fun v2 d2 μ2 as2 F2 H2 g2 R2 r2 h2 =>
    ⟨isC_at R2.mm (r1.up g2) h2.1, sp_use R2 (X.up (g1.trans g2)) (.cons (r1.up g2) (.cons r2 .nil)) h2.2 fun v d μ' as' F' H' g M r q => k v d μ' as' F' H' ((g1.trans g2).trans g) (R2.up g M) r q⟩
theorem sim_gSetO {ta tb : TE} {ua ub : DTE} (a : Sim K Ex ta ua) (b : Sim K Ex tb ub) : SimG K Ex (gSetQ C (toSp K S) Ex ta tb) (uGSetO C S ua ub) := fun Z as F H σ ρ μ v d Q E Q' R X r h k =>
  a Z as F H σ ρ μ _ E _ R X h fun v1 d1 μ1 as1 F1 H1 g1 R1 r1 h1 => b Z as1 F1 H1 σ ρ μ1 _ E _ R1 (X.up g1) h1 fun v2 d2 μ2 as2 F2 H2 g2 R2 r2 h2 =>
    ⟨isC_at R2.mm (r1.up g2) h2.1, sp_use R2 (X.up (g1.trans g2)) (.cons (r1.up g2) (.cons r2 (.cons (r.up (g1.trans g2)) .nil))) h2.2 fun v d μ' as' F' H' g M r q => k σ ρ μ' as' F' H' ((g1.trans g2).trans g) (R2.up g M) q⟩
theorem sim_lenO : SimC K (rLenQ C (toSp K S)) (dLenO C S) := simC_one fun Z as F H μ v d Q Q' M r z k => by
  obtain ⟨a, dx, fs, rfl, q⟩ := isC_at M r z.1
  refine ⟨⟨a, dx, fs, rfl, q⟩, sp_useM M (.cons r .nil) z.2 fun v d' μ' as' F' H' g M' r' q' => ?_⟩
  obtain ⟨n, rfl, hn, q'⟩ := q'
  cases r'
  exact ⟨n, rfl, hn, k _ _ μ' as' F' H' g M' (.int _) q'⟩
theorem sim_cmpO : SimR K (rCmpQ K C (toSp K S)) (dCmpO K C S) := fun Z as F H μ x y d e Q Q' M rx ry z k => by
  obtain ⟨hc, ⟨t, ht, ok, nf⟩, hs⟩ := z
  exact ⟨isC_at M rx hc, ⟨_, ty_of M ry ht ok, nf⟩, sp_useM M (.cons rx (.cons ry .nil)) hs k⟩
theorem sim_neO : SimR K (rNeQ K C (toSp K S)) (dNeO K C S) := fun Z as F H μ x y d e Q Q' M rx ry z k => by
  obtain ⟨hc, ⟨t, ht, ok, nf⟩, hs⟩ := z
  refine ⟨isC_at M rx hc, ⟨_, ty_of M ry ht ok, nf⟩, sp_useM M (.cons rx (.cons ry .nil)) hs fun v d' μ' as' F' H' g M' r' q' => ?_⟩
  obtain ⟨b, rfl, q'⟩ := q'
  cases r'
  exact ⟨b, rfl, k _ _ μ' as' F' H' g M' (.bl _) q'⟩
theorem sim_inO (neg : Bool) : SimR K (rInQ C (toSp K S) neg) (dInO C S neg) := fun Z as F H μ x y d e Q Q' M rx ry z k => by
  obtain ⟨hc, hs⟩ := z
  refine ⟨isC_at M ry hc, sp_useM M (.cons ry (.cons rx .nil)) hs fun v d' μ' as' F' H' g M' r' q' => ?_⟩
  obtain ⟨b, rfl, q'⟩ := q'
  cases r'
  exact ⟨b, rfl, k _ _ μ' as' F' H' g M' (.bl _) q'⟩
theorem sim_smeth {to : TE} {uo : DTE} {t : TA} {u : DTA} (o : Sim K Ex to uo) (a : SimA K Ex t u) : Sim K Ex (tSMethQ C (toSp K S) Ex to t) (uSMeth C S uo u) := fun Z as F H σ ρ μ Q E Q' R X h k =>
  o Z as F H σ ρ μ _ E _ R X h fun v d μ1 as1 F1 H1 g1 R1 r1 h1 => by
    refine ⟨?_, a Z as1 F1 H1 σ ρ μ1 _ E _ R1 (X.up g1) h1.2 fun vs ds μ2 as2 F2 H2 g2 R2 r2 h2 => sp_use R2 (X.up (g1.trans g2)) r2 h2 fun v d μ' as' F' H' g M r q => k v d μ' as' F' H' ((g1.trans g2).trans g) (R2.up g M) r q⟩
    cases r1 <;> first | exact h1.1 | exact h1.1.elim
end
section
variable {X : Cx} {K : PySem.W.Frag} {Ex : L2.St → XK} {pos apos : Pos} {a b e o : Expr} {es : List Expr} {ta tb te to : TE} {ua ub ue uo : DTE} {t : TA} {u : DTA} {C f q : Addr} {k : Nat} {S : DSp} {m : Str} {mc : Value} {pl : Sem Bool}
theorem d_getO (G : GetI K C f) (F : FnD X.prog X.w K X.mg X.base k f S) (gd : Gd.Calm0 X.A) (hr : Room (k + 1) X.A) (tk : Tk X Ex) (ha : PD X K Ex a ta ua) (hb : PD X K Ex b tb ub) (hK : X.K = K := by rfl)
    (hs : ∀ o i : Value, subscripted b true o i = runValue (.builtin "lifetime.subscript" ⟨[o, i], []⟩) := by intro _ _; rfl) : PD X K Ex (.Subscript a b pos) (tGetQ C (toSp K S) Ex ta tb) (uGet C S ua ub) := by
  subst hK
  exact ⟨pe_getQ ha.pe hb.pe G F gd hr (fun σ => tk_pass tk σ) hs, sim_get ha.sim hb.sim⟩
theorem g_setO (G : SetI K C f) (F : FnD X.prog X.w K X.mg X.base k f S) (gd : Gd.Calm0 X.A) (hr : Room k X.A) (tk : Tk X Ex) (ha : PD X K Ex a ta ua) (hb : PD X K Ex b tb ub) (hK : X.K = K := by rfl)
    (has : ∀ v, assign (.Subscript a b pos) X.env v = (do
      let ov ← holding [v] (eval a X.env)
      let iv ← holding [v, ov] (eval b X.env)
      standAt pos
      holding [v, ov, iv] (setItem ov iv v)
      release [v, ov, iv] []) := by intro _; rfl) : GD X K Ex (.Subscript a b pos) (gSetQ C (toSp K S) Ex ta tb) (uGSetO C S ua ub) := by
  subst hK
  exact ⟨pg_setQ ha.pe hb.pe G F gd hr (fun σ => tk_pass tk σ) has, sim_gSetO ha.sim hb.sim⟩
theorem call_lenO (G : LenI K C f) (F : FnD X.prog X.w K X.mg X.base k f S) (gd : Gd.Calm0 X.A) (hr : Room (k + 1) X.A) (hK : X.K = K) : CallR X (.builtin "len") (rLenQ C (toSp K S)) := by
  subst hK
  exact call_lenQ G F gd hr
theorem op_eqO (G : CmpI K C f "__eq__") (F : FnD X.prog X.w K X.mg X.base k f S) (gd : Gd.Calm0 X.A) (hr : Room k X.A) (hK : X.K = K) : OpR X (compareOp .Eq) (rCmpQ K C (toSp K S)) := by
  subst hK
  exact op_cmpQ (op := .Eq) (fun _ _ => rfl) G F gd hr
theorem op_ltO (G : CmpI K C f "__lt__") (F : FnD X.prog X.w K X.mg X.base k f S) (gd : Gd.Calm0 X.A) (hr : Room k X.A) (hK : X.K = K) : OpR X (compareOp .Lt) (rCmpQ K C (toSp K S)) := by
  subst hK
  exact op_cmpQ (op := .Lt) (fun _ _ => rfl) G F gd hr
theorem op_leO (G : CmpI K C f "__le__") (F : FnD X.prog X.w K X.mg X.base k f S) (gd : Gd.Calm0 X.A) (hr : Room k X.A) (hK : X.K = K) : OpR X (compareOp .LtE) (rCmpQ K C (toSp K S)) := by
  subst hK
  exact op_cmpQ (op := .LtE) (fun _ _ => rfl) G F gd hr
theorem op_neO (G : NeI K C f) (F : FnD X.prog X.w K X.mg X.base k f S) (gd : Gd.Calm0 X.A) (hr : Room (k + 1) X.A) (hK : X.K = K) : OpR X (compareOp .NotEq) (rNeQ K C (toSp K S)) := by
  subst hK
  exact op_neQ G F gd hr
theorem op_inO (G : CmpI K C f "__contains__") (F : FnD X.prog X.w K X.mg X.base k f S) (gd : Gd.Calm0 X.A) (hr : Room k X.A) (hK : X.K = K) : OpR X (compareOp .In) (rInQ C (toSp K S) false) := by
  subst hK
  exact op_inQ G F gd hr
theorem d_smeth (cr : ClX.CRead K C mc) (c : Vx.SMet K C mc m q f) (F : FnD X.prog X.w K X.mg X.base k f S) (gd : Gd.Calm0 X.A) (hr : Room k X.A) (tk : Tk X Ex) (ho : PD X K Ex o to uo) (ha : AD X K Ex (e :: es) t u) (hK : X.K = K := by rfl)
    (h1 : starEach (e :: es) X.env = (false, eval e X.env) :: starEach es X.env := by rfl) (h2 : (backTo pos (starEach es X.env)).any (·.1) = false := by rfl)
    (hW : eval (.Call (.Attribute o m apos) (e :: es) [] pos) X.env = (do
      let ov ← eval o X.env
      standAt apos.atName
      let (f, first) ← holding [ov] (getMethod ov m pl)
      callWith pos f first (backTo pos (starEach (e :: es) X.env)) (backToKw pos (keywordEach [] X.env))) := by rfl) : PD X K Ex (.Call (.Attribute o m apos) (e :: es) [] pos) (tSMethQ C (toSp K S) Ex to t) (uSMeth C S uo u) := by
  subst hK
  exact ⟨pe_smethQ ho.pe cr c F gd hr tk ha.pe h1 h2 hW, sim_smeth ho.sim ha.sim⟩
theorem d_smeth0 (cr : ClX.CRead K C mc) (c : Vx.SMet K C mc m q f) (F : FnD X.prog X.w K X.mg X.base k f S) (gd : Gd.Calm0 X.A) (hr : Room k X.A) (tk : Tk X Ex) (ho : PD X K Ex o to uo) (hK : X.K = K := by rfl)
    (hW : eval (.Call (.Attribute o m apos) [] [] pos) X.env = (do
      let ov ← eval o X.env
      standAt apos.atName
      let (f, first) ← holding [ov] (getMethod ov m pl)
      callWith pos f first (backTo pos (starEach [] X.env)) (backToKw pos (keywordEach [] X.env))) := by rfl) : PD X K Ex (.Call (.Attribute o m apos) [] [] pos) (tSMethQ C (toSp K S) Ex to tNil) (uSMeth C S uo uNil) := by
  subst hK
  exact ⟨pe_smethQ0 ho.pe cr c F gd hr tk hW, sim_smeth ho.sim sim_nil⟩
end
end DX
set_option Elab.async false
set_option linter.all false
set_option maxRecDepth 100000
set_option maxHeartbeats 4000000
namespace Vx
open PySem
open AutoSeq1 (wpAny_loadPart')
theorem meets_enumerate_newT (t : Addr) (items : Array Value) :
    Meets (Builtin.«enumerate.__new__» ⟨[.type "enumerate", .ref t], []⟩) (fun _ R s => s.heap.IsTuple t items ∧
      R (.ok (.ret (.ref (s.heap.push { cls := .type "tuple_iterator", data := .fields #[.ref t, .int 0 0] }).objs.size)))
        { s with heap := (s.heap.push { cls := .type "tuple_iterator", data := .fields #[.ref t, .int 0 0] }).push { cls := .type "enumerate", data := .fields #[.none, .bool false, .ref s.heap.objs.size, rawInt 0, .none, .none] } }) :=
  .of_wp fun prog w A R s h => by
    obtain ⟨hp, g, d, tk, os⟩ := s; obtain ⟨hL, h⟩ := h
    have hsub := sub_enumerate
    wp_walk
    refine wpAny_stack_any fun st => wpAny_pure ?_
    split
    · rename_i c _ _ _ _ _
      cases (c == Value.type "enumerate")
      · wp_walk using wpAny_pyIter_tuple hL
        exact ⟨_, rfl, h⟩
      · wp_walk using wpAny_pyIter_tuple hL
        exact ⟨_, rfl, h⟩
    · wp_walk using wpAny_pyIter_tuple hL
      exact ⟨_, rfl, h⟩
section
variable {prog : Program} {w : World} {A : Around} {E : Value → Shared → Prop} {s : Shared}
theorem call_enumerate_tuple {t : Addr} {items : Array Value} {Q : Value → Shared → Prop} (hL : s.heap.IsTuple t items)
    (h : ∀ h', IsEnum h' (s.heap.objs.size + 1) s.heap.objs.size 0 .none → h'.IsTupleIter s.heap.objs.size t 0 → h'.objs.size = s.heap.objs.size + 2 →
      (∀ b o, s.heap.get? b = some o → h'.get? b = some o) → Q (.ref (s.heap.objs.size + 1)) { s with heap := h' }) :
    wpAny (model prog w) A (call (.type "enumerate") [.ref t]) Q E s := by
  refine callType_new F.called_enumerate (by decide) (F.typeCall_enumerate_1 _) (F.newCall_enumerate_1 _) (fun obj => F.args_object_init_2 obj _) F.entry_enumerate_new
    (meets_enumerate_newT t items) ⟨hL, ?_⟩
  have hz : (s.heap.push { cls := .type "tuple_iterator", data := .fields #[.ref t, .int 0 0] }).objs.size = s.heap.objs.size + 1 := Heap.size_push ..
  show _ ∧ _
  rw [hz]
  have he : IsEnum ((s.heap.push { cls := .type "tuple_iterator", data := .fields #[.ref t, .int 0 0] }).push
      { cls := .type "enumerate", data := .fields #[.none, .bool false, .ref s.heap.objs.size, rawInt 0, .none, .none] }) (s.heap.objs.size + 1) s.heap.objs.size 0 .none := by
    have := Heap.get?_push_size (s.heap.push { cls := .type "tuple_iterator", data := .fields #[.ref t, .int 0 0] })
      (o := { cls := .type "enumerate", data := .fields #[.none, .bool false, .ref s.heap.objs.size, rawInt 0, .none, .none] }) rfl
    rw [hz] at this; exact this
  refine ⟨⟨_, he, rfl⟩, h _ he ⟨_, Heap.get?_push_of_some _ (Heap.get?_push_size _ rfl), rfl, rfl⟩ (by rw [Heap.size_push, hz]) fun b o x => Heap.get?_push_of_some _ (Heap.get?_push_of_some _ x)⟩
end
end Vx
namespace Vx
open PySem PySem.Spec PyProof.Rows L2
/-- enumerate of a tuple at a, which has the items xs -/
def IteT (K : PySem.W.Frag) (a : Addr) (xs : List V) : It :=
  ⟨fun i H => SqT K H a xs ∧ i < xs.length, fun i H v H' => ∃ T x, v = .ref T ∧ H T = none ∧ H' = upd H T (.tup [.int (i : Nat), x]) ∧ xs[i]? = some x, fun i H => SqT K H a xs ∧ xs.length ≤ i⟩
theorem turn_enumT {P : Program} {w : World} {K : PySem.W.Frag} {elts : List Expr} {kk : Nat} {tpos : Pos} {xs : List V} (a e it : Addr) (hai : a ≠ it) (hae : e ≠ a) :
    Turn P w K (.Tuple elts kk tpos) (IteT K a xs) [e, it] e (fun i h => (∃ old, IsEnum h e it ((i : Nat) : Int) old) ∧ h.IsTupleIter it a i ∧ e ≠ it ∧ i ≤ xs.length) where
  mem := by simp
  obj := fun i h st b hb => by
    obtain ⟨⟨old, he⟩, ⟨o, ho, hc, hd⟩, _⟩ := st
    have e' : b = e ∨ b = it := by simpa using hb
    rcases e' with z | z
    · rw [z]; exact ⟨_, he, fun v q => nomatch q⟩
    · rw [z]; exact ⟨o, ho, fun v q => by rw [hd] at q; cases q⟩
  keep := fun i h h' st k => let ⟨⟨old, he⟩, hi, hne, hz⟩ := st; ⟨⟨old, k e (by simp) _ he⟩, hi.at fun o q => k it (by simp) o q, hne, hz⟩
  item := by
    intro X hP hw hK hc i pins s σ H E I hf st hg
    subst hP hw hK
    obtain ⟨⟨old, he⟩, hit, hne, _⟩ := st
    obtain ⟨hq, hi⟩ := hg
    have hx : xs[i]? = some xs[i] := List.getElem?_eq_getElem hi
    obtain ⟨its, rv, p, hz⟩ := I.tuple hq
    obtain ⟨u, hu, ru⟩ := rv.get hx
    have hel : e < s.heap.objs.size := Heap.lt_size he
    have hil : it < s.heap.objs.size := by obtain ⟨_, q, _⟩ := hit; exact Heap.lt_size q
    have hlt : i < its.toArray.size := by
      have := rv.length
      rw [List.size_toArray]
      omega
    refine wpAny_pyNext_enum_itemD (Draws.tuple (A := X.A.in1) (I.ok.hd hc) it a hai its.toArray) he ⟨hit, p⟩ hlt hne (by simp [hne, hae]) fun u' h' tk hPx ho hst' hT hsz hk => ?_
    have eu : u' = u := by
      have h1 : its.toArray[i]? = some u := by simpa using hu
      rw [h1] at hPx
      exact (Option.some.inj hPx).symm
    subst eu
    refine ⟨_, rfl, wpAny_letOwnedTupleGo_enum (s := { s with heap := h', toks := tk + 1 }) ho fun h'' he' sb => ?_⟩
    have hT2 : h''.get? s.heap.objs.size = some { cls := .type "tuple", data := .seq #[.int i tk, u'] } := (sb.2 _ (Nat.ne_of_gt hel)).trans hT
    have new : ObjOk X.prog X.w (upd H s.heap.objs.size (.tup [.int (i : Nat), xs[i]])) h'' s.heap.objs.size (.tup [.int (i : Nat), xs[i]]) :=
      ⟨by show 2 ≤ sizeLine; decide, [.int i tk, u'], .cons ⟨_, rfl⟩ (.cons ru .nil), ⟨_, hT2, rfl, _, rfl⟩⟩
    have I1 : Inv X pins σ (upd H s.heap.objs.size (.tup [.int (i : Nat), xs[i]])) { s with heap := h'', toks := tk + 1 } :=
      I.turnedNew (ch := [e, it]) (fun b ob hb q => (sb.2 b (fun z => hb (by simp [z]))).trans (hk b ob (fun z => hb (by simp [z])) (fun z => hb (by simp [z])) q)) hf (Nat.le_refl _) new
    refine ⟨.ref s.heap.objs.size, _, I1, rfl, ⟨_, _, rfl, I.hok.fresh (Nat.le_refl _), rfl, hx⟩, ⟨⟨u', ?_⟩, hst'.1.at fun o q => (sb.2 it (Ne.symm hne)).trans q, hne, hi⟩, fun b hb => ?_⟩
    · have e1 : ((i + 1 : Nat) : Int) = (i : Int) + 1 := by omega
      rw [e1]; exact he'
    · have hb' : b < s.heap.objs.size := by
        have e' : b = e ∨ b = it := by simpa using hb
        rcases e' with z | z
        · rw [z]; exact hel
        · rw [z]; exact hil
      rw [upd_ne (Nat.ne_of_lt hb')]
      exact (hf b hb).1
  done := by
    intro X hP hw hK hc i pins s σ H E I hf st hg
    subst hP hw hK
    obtain ⟨⟨old, he⟩, hit, hne, hle⟩ := st
    obtain ⟨hq, hi⟩ := hg
    obtain rfl : i = xs.length := by omega
    obtain ⟨its, rv, p, hz⟩ := I.tuple hq
    obtain ⟨f0, f1, f2, f3, f4, f5⟩ := hf it (by simp)
    have hl := rv.length
    have zz : its.toArray.size = xs.length := by rw [List.size_toArray]; omega
    exact wpAny_pyNext_enum_endD (Draws.tuple (A := X.A.in1) (I.ok.hd hc) it a hai its.toArray) he ⟨by rw [zz]; exact hit, p⟩ fun h' eb => ⟨rfl, I.turned (t' := s.toks) (fun b o hb q => eb b o hb q) f0 f1 f3 f4 f5⟩
  self := fun A i s Q E st h => let ⟨⟨_, he⟩, _⟩ := st; wpAny_pyIter_enum he h
def iEnumT (K : PySem.W.Frag) (ta : TA) : TI := fun σ H R => ta σ H fun vs H1 => ∃ a xs, vs = [.ref a] ∧ SqT K H1 a xs ∧ R (IteT K a xs) H1
theorem pi_enumT {X : Cx} {e : Expr} {ta : TA} {p pos tpos : Pos} {elts : List Expr} {kk : Nat} (hg : Gl X "enumerate") (hm : X.mg "enumerate" = none) (ha : PA X [e] ta) (hs : starEach [e] X.env = [(false, eval e X.env)] := by rfl) :
    PI X (.Tuple elts kk tpos) (.Call (.Name "enumerate" p) [e] [] pos) (iEnumT X.K ta) := by
  refine ⟨fun pins s σ H R I h => ?_⟩
  refine Call_ (ld_blt I hg hm boot_enumerate (PyProof.Rows.callWith_type1 (thn (ha.run pos pins s σ H _ I h) fun us s1 ⟨vs, H1, I1, r1, q1⟩ => ?_) hs rfl))
  obtain ⟨a, xs, ex, hq, q⟩ := q1
  subst ex
  cases r1 with
  | cons r rr =>
    cases rr
    cases r
    obtain ⟨its, rv, p', hz⟩ := I1.tuple hq
    have hal : a < s1.heap.objs.size := by
      obtain ⟨o, q, _⟩ := p'
      exact Heap.lt_size q
    refine call_enumerate_tuple p' fun h' he hit hsz hk => wpAny_pyIter_enum he ?_
    have I2 : Inv X pins σ H1 { s1 with heap := h' } := I1.kept (t' := s1.toks) hk
    refine ⟨s1.heap.objs.size + 1, [s1.heap.objs.size + 1, s1.heap.objs.size], _, _, H1, rfl, I2, turn_enumT (xs := xs) a (s1.heap.objs.size + 1) s1.heap.objs.size (Nat.ne_of_lt hal) (Nat.ne_of_gt (Nat.lt_succ_of_lt hal)), ⟨⟨.none, he⟩, hit, Nat.succ_ne_self _, Nat.zero_le _⟩, fun b hb => ?_, q⟩
    have e' : b = s1.heap.objs.size + 1 ∨ b = s1.heap.objs.size := by simpa using hb
    have hle : s1.heap.objs.size ≤ b := by
      rcases e' with z | z
      · rw [z]; exact Nat.le_add_right _ _
      · rw [z]; exact Nat.le_refl _
    exact I1.fpOk hle (I1.hok.fresh hle)
end Vx
set_option Elab.async false
set_option linter.all false
set_option maxRecDepth 100000
set_option maxHeartbeats 4000000
namespace DX
open PySem PySem.Spec PyProof.Rows L2
/-! ### enumerate, zip, lists as targets, small built-ins -/
def iEnumA (K : PySem.W.Frag) (ta : TA) : TI := fun σ H R => ta σ H fun vs H1 => ∃ a xs, vs = [.ref a] ∧ ((SqL K H1 a xs ∧ R (Ite K a) H1) ∨ (SqT K H1 a xs ∧ R (Vx.IteT K a xs) H1))
theorem pi_enumA {X : Cx} {e : Expr} {ta : TA} {p pos tpos : Pos} {elts : List Expr} {kk : Nat} (hg : Gl X "enumerate") (hm : X.mg "enumerate" = none) (ha : PA X [e] ta) (hs : starEach [e] X.env = [(false, eval e X.env)] := by rfl) :
    PI X (.Tuple elts kk tpos) (.Call (.Name "enumerate" p) [e] [] pos) (iEnumA X.K ta) := by
  refine ⟨fun pins s σ H R I h => ?_⟩
  refine Call_ (ld_blt I hg hm boot_enumerate (PyProof.Rows.callWith_type1 (thn (ha.run pos pins s σ H _ I h) fun us s1 ⟨vs, H1, I1, r1, q1⟩ => ?_) hs rfl))
  obtain ⟨a, xs, ex, ⟨hq, q⟩ | ⟨hq, q⟩⟩ := q1
  · subst ex
    cases r1 with
    | cons r rr =>
      cases rr
      cases r
      obtain ⟨its, rv, p', hz⟩ := I1.list hq
      refine call_enumerate_list p'.isList fun h' he hit hsz hk => wpAny_pyIter_enum he ?_
      have I2 : L2.Inv X pins σ H1 { s1 with heap := h' } := I1.kept (t' := s1.toks) hk
      refine ⟨s1.heap.objs.size + 1, [s1.heap.objs.size + 1, s1.heap.objs.size], _, _, H1, rfl, I2, turn_enum a (s1.heap.objs.size + 1) s1.heap.objs.size, ⟨⟨.none, he⟩, hit, Nat.succ_ne_self _⟩, fun b hb => ?_, q⟩
      have e' : b = s1.heap.objs.size + 1 ∨ b = s1.heap.objs.size := by simpa using hb
      have hle : s1.heap.objs.size ≤ b := by
        rcases e' with z | z
        · rw [z]; exact Nat.le_add_right _ _
        · rw [z]; exact Nat.le_refl _
      exact I1.fpOk hle (I1.hok.fresh hle)
  · subst ex
    cases r1 with
    | cons r rr =>
      cases rr
      cases r
      obtain ⟨its, rv, p', hz⟩ := I1.tuple hq
      have hal : a < s1.heap.objs.size := by
        obtain ⟨o, q, _⟩ := p'
        exact Heap.lt_size q
      refine Vx.call_enumerate_tuple p' fun h' he hit hsz hk => wpAny_pyIter_enum he ?_
      have I2 : L2.Inv X pins σ H1 { s1 with heap := h' } := I1.kept (t' := s1.toks) hk
      refine ⟨s1.heap.objs.size + 1, [s1.heap.objs.size + 1, s1.heap.objs.size], _, _, H1, rfl, I2, Vx.turn_enumT (xs := xs) a (s1.heap.objs.size + 1) s1.heap.objs.size (Nat.ne_of_lt hal) (Nat.ne_of_gt (Nat.lt_succ_of_lt hal)), ⟨⟨.none, he⟩, hit, Nat.succ_ne_self _, Nat.zero_le _⟩, fun b hb => ?_, q⟩
      have e' : b = s1.heap.objs.size + 1 ∨ b = s1.heap.objs.size := by simpa using hb
      have hle : s1.heap.objs.size ≤ b := by
        rcases e' with z | z
        · rw [z]; exact Nat.le_add_right _ _
        · rw [z]; exact Nat.le_refl _
      exact I1.fpOk hle (I1.hok.fresh hle)
/-- pairs of a number and an item -/
def denum : Nat → List D → List D
  | _, [] => []
  | n, d :: ds => .tup [.int n, d] :: denum (n + 1) ds
theorem denum_len : ∀ (n : Nat) (ds : List D), (denum n ds).length = ds.length
  | _, [] => rfl
  | n, _ :: ds => congrArg Nat.succ (denum_len (n + 1) ds)
theorem denum_get : ∀ {n : Nat} {ds : List D} {i : Nat} {e : D}, (denum n ds)[i]? = some e → ∃ d, ds[i]? = some d ∧ e = .tup [.int ((n + i : Nat) : Int), d]
  | _, [], _, _, h => by simp [denum] at h
  | n, d :: ds, 0, e, h => by
    simp [denum] at h
    exact ⟨d, rfl, h.symm⟩
  | n, d :: ds, i + 1, e, h => by
    obtain ⟨d', h1, h2⟩ := denum_get (n := n + 1) (ds := ds) (i := i) (e := e) (by simpa [denum] using h)
    refine ⟨d', by simpa using h1, ?_⟩
    rw [h2]
    congr 3
    omega
def dzip : List D → List D → List D
  | x :: xs, y :: ys => .tup [x, y] :: dzip xs ys
  | _, _ => []
theorem dzip_len : ∀ (xs ys : List D), (dzip xs ys).length = min xs.length ys.length
  | [], _ => by simp [dzip]
  | _ :: _, [] => by simp [dzip]
  | x :: xs, y :: ys => by simp [dzip, dzip_len xs ys]
theorem dzip_get : ∀ {xs ys : List D} {i : Nat} {e : D}, (dzip xs ys)[i]? = some e → ∃ x y, xs[i]? = some x ∧ ys[i]? = some y ∧ e = .tup [x, y]
  | [], _, _, _, h => by simp [dzip] at h
  | _ :: _, [], _, _, h => by simp [dzip] at h
  | x :: xs, y :: ys, 0, e, h => by
    simp [dzip] at h
    exact ⟨x, y, rfl, rfl, h.symm⟩
  | x :: xs, y :: ys, i + 1, e, h => by
    obtain ⟨x', y', h1, h2, h3⟩ := dzip_get (xs := xs) (ys := ys) (i := i) (e := e) (by simpa [dzip] using h)
    exact ⟨x', y', by simpa using h1, by simpa using h2, h3⟩
section
variable {K : PySem.W.Frag} {Z : Hp} {as as' as1 : List Addr} {F F' F1 H H' H1 : Hp} {Ex : L2.St → XK}
theorem pair_new {μ : Mem} (M : Mm K Z as F H μ) {T : Addr} {x y : V} {d e : D} (nT : H T = none) (rx : Rep K as F x d) (ry : Rep K as F y e) : ∃ F2, Gr as F as F2 ∧ Mm K Z as F2 (upd H T (.tup [x, y])) μ ∧ Rep K as F2 (.ref T) (.tup [d, e]) :=
  have g := Gr.upd (as := as) (o := .tup [x, y]) (M.newF nT)
  ⟨_, g, M.addF nT, .tup upd_same (.cons (rx.up g) (.cons (ry.up g) .nil))⟩
theorem itD_enumL {v : V} {d : D} {a : Addr} (ev : v = .ref a) (r : Rep K as F v d) {ds : List D} : ItD K as F (Ite K a) (denum 0 ds) (fun μ => view μ d = .lst ds) := by
  subst ev
  have at_ : ∀ Z as' F' H' μ, Gr as F as' F' → Mm K Z as' F' H' μ → view μ d = .lst ds → ∃ vs, SqL K H' a vs ∧ RepL K as' F' vs ds := fun Z as' F' H' μ g M c => by
    obtain ⟨b, vs, e, q, x⟩ := view_lst M (r.up g) c
    cases e
    exact ⟨vs, q, x⟩
  refine ⟨fun Z i as' F' H' μ g M c hi => ?_, fun Z i as' F' H' μ v H2 d' g M c hd y => ?_, fun Z i as' F' H' μ g M c hi => ?_⟩
  · rw [denum_len] at hi
    obtain ⟨vs, q, x⟩ := at_ Z as' F' H' μ g M c
    obtain ⟨w, w1, _⟩ := x.get (List.getElem?_eq_getElem hi)
    exact ⟨vs, w, q, w1⟩
  · obtain ⟨vs, q, x⟩ := at_ Z as' F' H' μ g M c
    obtain ⟨d0, h1, h2⟩ := denum_get hd
    obtain ⟨w, w1, w2⟩ := x.get h1
    obtain ⟨T, x', rfl, nT, rfl, y⟩ := y
    have := y vs q
    rw [w1] at this
    cases this
    subst h2
    rw [Nat.zero_add]
    exact pair_new M nT (.int _) w2
  · rw [denum_len] at hi
    obtain ⟨vs, q, x⟩ := at_ Z as' F' H' μ g M c
    exact ⟨vs, q, by rw [x.len]; exact hi⟩
theorem itD_enumT {a : Addr} {vs : List V} {ds : List D} (hq : SqT K F a vs) (x : RepL K as F vs ds) : ItD K as F (Vx.IteT K a vs) (denum 0 ds) (fun _ => True) := by
  refine ⟨fun Z i as' F' H' μ g M c hi => ?_, fun Z i as' F' H' μ v H2 d' g M c hd y => ?_, fun Z i as' F' H' μ g M c hi => ?_⟩
  · rw [denum_len] at hi
    exact ⟨SqT.ext (SqT.ext hq g.f) M.same, by rw [x.len]; exact hi⟩
  · obtain ⟨d0, h1, h2⟩ := denum_get hd
    obtain ⟨w, w1, w2⟩ := x.get h1
    obtain ⟨T, x', rfl, nT, rfl, y⟩ := y
    rw [w1] at y
    cases y
    subst h2
    rw [Nat.zero_add]
    exact pair_new M nT (.int _) (w2.up g)
  · rw [denum_len] at hi
    exact ⟨SqT.ext (SqT.ext hq g.f) M.same, by rw [x.len]; exact hi⟩
def uIEnum (u : DTA) : DTI := fun ρ μ R E => u ρ μ (fun ds μ1 => match ds with
  | [x] => match view μ1 x with
    | .lst xs => R (denum 0 xs) (fun μ => view μ x = .lst xs) μ1
    | .tup xs => R (denum 0 xs) (fun _ => True) μ1
    | _ => False
  | _ => False) E
/-- the frozen tuple at hand -/
theorem view_tupF {μ : Mem} (M : Mm K Z as F H μ) {v : V} {d : D} (r : Rep K as F v d) {ds : List D} (e : view μ d = .tup ds) : ∃ a vs, v = .ref a ∧ SqT K F a vs ∧ RepL K as F vs ds := by
  cases r with
  | tup q x => cases e; exact ⟨_, _, rfl, SqT.of q, x⟩
  | kt q x => cases e; exact ⟨_, _, rfl, q, x⟩
  | ob q =>
    rename_i k a
    have e : (match μ[k]? with | some (DX.M.lst ds) => D.lst ds | some (.ins C fs) => .ins C fs | _ => .ob k) = .tup ds := e
    split at e <;> cases e
  | _ => cases e
theorem sim_iEnum {t : TA} {u : DTA} (a : SimA K Ex t u) : SimI K Ex (iEnumA K t) (uIEnum u) := fun Z as F H σ ρ μ R E R' r X h k =>
  a Z as F H σ ρ μ _ E _ r X h fun vs ds μ1 as1 F1 H1 g1 R1 r1 h1 => by
    match vs, ds, r1, h1 with
    | _, [x], .cons ra .nil, h1 =>
        have h1 : (match view μ1 x with | .lst xs => R (denum 0 xs) (fun μ => view μ x = .lst xs) μ1 | .tup xs => R (denum 0 xs) (fun _ => True) μ1 | _ => False) := h1
        cases e : view μ1 x with
        | lst xs =>
          rw [e] at h1
          obtain ⟨b, ws, rfl, q, y⟩ := view_lst R1.mm ra e
          exact ⟨b, ws, rfl, .inl ⟨q, k _ _ _ μ1 as1 F1 H1 g1 R1 (itD_enumL rfl ra) h1⟩⟩
        | tup xs =>
          rw [e] at h1
          obtain ⟨b, ws, rfl, q, y⟩ := view_tupF R1.mm ra e
          exact ⟨b, ws, rfl, .inr ⟨SqT.ext q R1.mm.same, k _ _ _ μ1 as1 F1 H1 g1 R1 (itD_enumT q y) h1⟩⟩
        | _ => rw [e] at h1; exact h1.elim
    | _, [], _, h1 => exact h1.elim
    | _, _ :: _ :: _, _, h1 => exact h1.elim
theorem itD_zipL {v w : V} {d e : D} {a b : Addr} (ev : v = .ref a) (ew : w = .ref b) (r : Rep K as F v d) (s : Rep K as F w e) {ds es : List D} : ItD K as F (Itz K a b) (dzip ds es) (fun μ => view μ d = .lst ds ∧ view μ e = .lst es) := by
  subst ev ew
  have at_ : ∀ {a : Addr} {d : D} {ds : List D}, Rep K as F (.ref a) d → ∀ Z as' F' H' μ, Gr as F as' F' → Mm K Z as' F' H' μ → view μ d = .lst ds → ∃ vs, SqL K H' a vs ∧ RepL K as' F' vs ds := fun r Z as' F' H' μ g M c => by
    obtain ⟨b, vs, e, q, x⟩ := view_lst M (r.up g) c
    cases e
    exact ⟨vs, q, x⟩
  refine ⟨fun Z i as' F' H' μ g M c hi => ?_, fun Z i as' F' H' μ v H2 d' g M c hd y => ?_, fun Z i as' F' H' μ g M c hi => ?_⟩
  · rw [dzip_len] at hi
    obtain ⟨vs, q, x⟩ := at_ r Z as' F' H' μ g M c.1
    obtain ⟨ws, q2, x2⟩ := at_ s Z as' F' H' μ g M c.2
    obtain ⟨w, w1, _⟩ := x.get (i := i) (List.getElem?_eq_getElem (by omega))
    obtain ⟨w', w2, _⟩ := x2.get (i := i) (List.getElem?_eq_getElem (by omega))
    exact ⟨vs, ws, w, w', q, q2, w1, w2⟩
  · obtain ⟨vs, q, x⟩ := at_ r Z as' F' H' μ g M c.1
    obtain ⟨ws, q2, x2⟩ := at_ s Z as' F' H' μ g M c.2
    obtain ⟨d0, e0, h1, h2, h3⟩ := dzip_get hd
    obtain ⟨w, w1, w2⟩ := x.get h1
    obtain ⟨w', w1', w2'⟩ := x2.get h2
    obtain ⟨T, x', y', rfl, nT, rfl, y1, y2⟩ := y
    have t1 := y1 vs q
    rw [w1] at t1
    cases t1
    have t2 := y2 ws q2
    rw [w1'] at t2
    cases t2
    subst h3
    exact pair_new M nT w2 w2'
  · rw [dzip_len] at hi
    obtain ⟨vs, q, x⟩ := at_ r Z as' F' H' μ g M c.1
    obtain ⟨ws, q2, x2⟩ := at_ s Z as' F' H' μ g M c.2
    refine ⟨vs, ws, q, q2, ?_⟩
    rw [x.len, x2.len]
    omega
theorem itD_zipT {a b : Addr} {vs ws : List V} {ds es : List D} (hq : SqT K F a vs) (x : RepL K as F vs ds) (hq2 : SqT K F b ws) (x2 : RepL K as F ws es) : ItD K as F (RZ.ItzT K a b) (dzip ds es) (fun _ => True) := by
  have up : ∀ {a : Addr} {vs : List V}, SqT K F a vs → ∀ Z as' F' H' μ, Gr as F as' F' → Mm K Z as' F' H' μ → SqT K H' a vs := fun h Z as' F' H' μ g M => SqT.ext (SqT.ext h g.f) M.same
  refine ⟨fun Z i as' F' H' μ g M c hi => ?_, fun Z i as' F' H' μ v H2 d' g M c hd y => ?_, fun Z i as' F' H' μ g M c hi => ?_⟩
  · rw [dzip_len] at hi
    obtain ⟨w, w1, _⟩ := x.get (i := i) (List.getElem?_eq_getElem (by omega))
    obtain ⟨w', w2, _⟩ := x2.get (i := i) (List.getElem?_eq_getElem (by omega))
    exact ⟨vs, ws, w, w', up hq Z as' F' H' μ g M, up hq2 Z as' F' H' μ g M, w1, w2⟩
  · obtain ⟨d0, e0, h1, h2, h3⟩ := dzip_get hd
    obtain ⟨w, w1, w2⟩ := x.get h1
    obtain ⟨w', w1', w2'⟩ := x2.get h2
    obtain ⟨T, x', y', rfl, nT, rfl, y1, y2⟩ := y
    have t1 := y1 vs (up hq Z as' F' H' μ g M)
    rw [w1] at t1
    cases t1
    have t2 := y2 ws (up hq2 Z as' F' H' μ g M)
    rw [w1'] at t2
    cases t2
    subst h3
    exact pair_new M nT (w2.up g) (w2'.up g)
  · rw [dzip_len] at hi
    refine ⟨vs, ws, up hq Z as' F' H' μ g M, up hq2 Z as' F' H' μ g M, ?_⟩
    rw [x.len, x2.len]
    omega
def uIZip (u : DTA) : DTI := fun ρ μ R E => u ρ μ (fun ds μ1 => match ds with
  | [x, y] => match view μ1 x, view μ1 y with
    | .lst xs, .lst ys => R (dzip xs ys) (fun μ => view μ x = .lst xs ∧ view μ y = .lst ys) μ1
    | .tup xs, .tup ys => R (dzip xs ys) (fun _ => True) μ1
    | _, _ => False
  | _ => False) E
theorem sim_iZip {t : TA} {u : DTA} (a : SimA K Ex t u) : SimI K Ex (RZ.iZipA K t) (uIZip u) := fun Z as F H σ ρ μ R E R' r X h k =>
  a Z as F H σ ρ μ _ E _ r X h fun vs ds μ1 as1 F1 H1 g1 R1 r1 h1 => by
    match vs, ds, r1, h1 with
    | _, [x, y], .cons ra (.cons rb .nil), h1 =>
          have h1 : (match view μ1 x, view μ1 y with | .lst xs, .lst ys => R (dzip xs ys) (fun μ => view μ x = .lst xs ∧ view μ y = .lst ys) μ1 | .tup xs, .tup ys => R (dzip xs ys) (fun _ => True) μ1 | _, _ => False) := h1
          split at h1
          · rename_i xs ys e e2
            obtain ⟨b, ws, rfl, q, z⟩ := view_lst R1.mm ra e
            obtain ⟨c, us, rfl, q2, z2⟩ := view_lst R1.mm rb e2
            exact ⟨b, c, ws, us, rfl, .inl ⟨q, q2, k _ _ _ μ1 as1 F1 H1 g1 R1 (itD_zipL rfl rfl ra rb) h1⟩⟩
          · rename_i xs ys e e2
            obtain ⟨b, ws, rfl, q, z⟩ := view_tupF R1.mm ra e
            obtain ⟨c, us, rfl, q2, z2⟩ := view_tupF R1.mm rb e2
            exact ⟨b, c, ws, us, rfl, .inr ⟨SqT.ext q R1.mm.same, SqT.ext q2 R1.mm.same, k _ _ _ μ1 as1 F1 H1 g1 R1 (itD_zipT q z q2 z2) h1⟩⟩
          · exact h1.elim
    | _, [], _, h1 => exact h1.elim
    | _, [_], _, h1 => exact h1.elim
    | _, _ :: _ :: _ :: _, _, h1 => exact h1.elim
/-! a list or a tuple as what is taken apart -/
def uGUn (n : Nat) (w : DTGs) : DTG := fun d ρ μ Q E => match view μ d with
  | .tup ds => ds.length = n ∧ w ds ρ μ Q E
  | .lst ds => ds.length = n ∧ w ds ρ μ Q E
  | _ => False
def gUn (K : PySem.W.Frag) (n : Nat) (s : TGs) : TG := fun v σ H Q => gTup K n s v σ H Q ∨ gUnl K n s v σ H Q
theorem sim_gUn {n : Nat} {s : TGs} {w : DTGs} (b : SimGs K Ex s w) : SimG K Ex (gUn K n s) (uGUn n w) := fun Z as F H σ ρ μ v d Q E Q' R X r h k => by
  have h : (match view μ d with | .tup ds => ds.length = n ∧ w ds ρ μ Q E | .lst ds => ds.length = n ∧ w ds ρ μ Q E | _ => False) := h
  cases e : view μ d with
  | tup ds =>
    rw [e] at h
    obtain ⟨p, vs, rfl, q, x⟩ := view_tup R.mm r e
    exact .inl ⟨p, vs, rfl, q, by rw [x.len]; exact h.1, b Z as F H σ ρ μ vs ds Q E Q' R X x h.2 k⟩
  | lst ds =>
    rw [e] at h
    obtain ⟨p, vs, rfl, q, x⟩ := view_lst R.mm r e
    exact .inr ⟨p, vs, rfl, q, by rw [x.len]; exact h.1, b Z as F H σ ρ μ vs ds Q E Q' R X x h.2 k⟩
  | _ => rw [e] at h; exact h.elim
theorem pg_un {X : Cx} {pos : Pos} {es : List Expr} {k : Nat} {t : TGs} {n : Nat} (hc : X.calm = true) (h : PGs X es t)
    (hn : (assignEach es X.env).length = n := by rfl) (hst : (assignEach es X.env).findIdx? (·.1) = none := by rfl) : PG X (.Tuple es k pos) (gUn X.K n t) :=
  ⟨fun pins s σ H v u Q I r hw => hw.elim (fun z => (pg_tup hc h hn hst).run pins s σ H v u Q I r z) fun z => (pg_unl hc h hn hst).run pins s σ H v u Q I r z⟩
/-! [x] * n -/
def dRep (m : Bool) : DR2 := fun x y μ Q => match viewT μ x, y with
  | .lst xs, .int k => (-(2 ^ 63) ≤ k ∧ k < 2 ^ 63 ∧ xs.length * k.toNat ≤ sizeLine) ∧ (if m = true then Q (.ob μ.length) (μ ++ [.lst (List.replicate k.toNat xs).flatten]) else Q (.lst (List.replicate k.toNat xs).flatten) μ)
  | _, _ => False
theorem rep_flat {vs : List V} {ds : List D} (x : RepL K as F vs ds) : ∀ n : Nat, RepL K as F (List.replicate n vs).flatten (List.replicate n ds).flatten
  | 0 => .nil
  | n + 1 => by rw [List.replicate_succ, List.replicate_succ, List.flatten_cons, List.flatten_cons]; exact x.append (rep_flat x n)
theorem sim_rep (m : Bool) : SimR K rRep (dRep m) := fun Z as F H μ x y d e Q Q' M rx ry z k => by
  unfold dRep at z
  split at z
  · rename_i xs j e1
    cases ry
    obtain ⟨a, vs, rfl, q, x⟩ := viewT_lst M rx e1
    exact ⟨a, j, vs, rfl, rfl, q, z.1.1, z.1.2.1, by rw [x.len]; exact z.1.2.2, new_lst M (rep_flat x j.toNat) z.2 k⟩
  · exact z.elim
/-! max, min of two -/
def dTwo (f : Int → Int → Int) : DC := fun ds μ Q => match ds with
  | [.int i, .int j] => Q (.int (f i j)) μ
  | _ => False
theorem sim_two {f : Int → Int → Int} : SimC K (fun xs H Q => ∃ i j, xs = [.int i, .int j] ∧ Q (.int (f i j)) H) (dTwo f) := fun Z as F H μ vs ds Q Q' M rs z k => by
  have z : (match (generalizing := false) ds with | [.int i, .int j] => Q (.int (f i j)) μ | _ => False) := z
  split at z
  · cases rs with
    | cons ra rb =>
      cases rb with
      | cons rb rc =>
        cases rc
        cases ra
        cases rb
        exact ⟨_, _, rfl, k _ _ μ as F H Gr.refl M (.int _) z⟩
  · exact z.elim
theorem sim_ipI {f : Int → Int → Int} : SimR K (ipI f) (dI fun i j => .int (f i j)) := simR_int (rI_int f)
/-! a, b = x, y -/
def uPar (i j : Nat) (u : DTA) : DTS := fun De E ρ μ => u ρ μ (fun ds μ1 => match ds with
  | [x, y] => De.nx ((ρ.set i (some x)).set j (some y)) μ1
  | _ => False) E
theorem sim_par {i j : Nat} {t : TA} {u : DTA} (a : SimA K Ex t u) : SimS K Ex (tPar i j t) (uPar i j u) := fun Z as F H σ ρ μ De E D' R X h kn kr kb kc =>
  a Z as F H σ ρ μ _ E _ R X h fun vs ds μ1 as1 F1 H1 g1 R1 r1 h1 => by
    have h1 : (match (generalizing := false) ds with | [x, y] => De.nx ((ρ.set i (some x)).set j (some y)) μ1 | _ => False) := h1
    split at h1
    · cases r1 with
      | cons ra rb =>
        cases rb with
        | cons rb rc =>
          cases rc
          exact ⟨_, _, rfl, kn _ _ μ1 as1 F1 H1 g1 ⟨R1.mm, (R1.env.set ra i).set rb j⟩ h1⟩
    · exact h1.elim
end
section
variable {X : Cx} {K : PySem.W.Frag} {Ex : L2.St → XK} {pos : Pos} {a b c e o : Expr} {es : List Expr} {gs : TGs} {ugs : DTGs}
theorem i_enum {ta : TA} {ua : DTA} {p tpos : Pos} {elts : List Expr} {kk : Nat} (hm : X.mg "enumerate" = none) (h : AD X K Ex [a] ta ua) (hK : X.K = K := by rfl) (hg : Gl X "enumerate" := by rfl) (hs : starEach [a] X.env = [(false, eval a X.env)] := by rfl) : ID X K Ex (.Tuple elts kk tpos) (.Call (.Name "enumerate" p) [a] [] pos) (iEnumA K ta) (uIEnum ua) := by
  subst hK
  exact ⟨pi_enumA hg hm h.pe hs, sim_iEnum h.sim⟩
theorem i_zip {ta : TA} {ua : DTA} {p tpos : Pos} {elts : List Expr} {kk : Nat} (hm : X.mg "zip" = none) (h : AD X K Ex [a, b] ta ua) (hK : X.K = K := by rfl) (hg : Gl X "zip" := by rfl) (hs : starEach [a, b] X.env = (false, eval a X.env) :: starEach [b] X.env := by rfl) (hpl : (backTo pos (starEach [b] X.env)).any (·.1) = false := by rfl) : ID X K Ex (.Tuple elts kk tpos) (.Call (.Name "zip" p) [a, b] [] pos) (RZ.iZipA K ta) (uIZip ua) := by
  subst hK
  exact ⟨RZ.pi_zipA hg hm h.pe hs hpl, sim_iZip h.sim⟩
theorem g_un {k : Nat} (n : Nat) (h : GsD X K Ex es gs ugs) (hc : X.calm = true := by rfl) (hK : X.K = K := by rfl) (hn : (assignEach es X.env).length = n := by rfl) (hst : (assignEach es X.env).findIdx? (·.1) = none := by rfl) : GD X K Ex (.Tuple es k pos) (gUn K n gs) (uGUn n ugs) := by
  subst hK
  exact ⟨pg_un hc h.pe hn hst, sim_gUn h.sim⟩
theorem s_par (i j : Nat) {x y : Str} {ta : TA} {ua : DTA} {px py pt : Pos} {kt k2 pt2} (hN : X.N.Nodup) (ha : AD X K Ex [a, b] ta ua) (hij : i ≠ j := by decide) (hc : X.calm = true := by rfl) (hi : X.N[i]? = some x := by rfl) (hj : X.N[j]? = some y := by rfl)
    (hx : X.env.scope.names.lookup x = some .local := by rfl) (hy : X.env.scope.names.lookup y = some .local := by rfl)
    (hw : swappedStores [.Tuple [.Name x px, .Name y py] kt pt] (.Tuple [a, b] k2 pt2) X.env = pure (some [x, y]) := by rfl)
    (hs : swapsWithSole [.Tuple [.Name x px, .Name y py] kt pt] (.Tuple [a, b] k2 pt2) pos.line X.env = pure false := by rfl) :
    SD X K Ex (.Assign [.Tuple [.Name x px, .Name y py] kt pt] (.Tuple [a, b] k2 pt2) pos) (tPar i j ta) (uPar i j ua) := ⟨ps_par hc hN hi hj hij hx hy ha.pe hw hs, sim_par ha.sim⟩
end
end DX
set_option Elab.async false
set_option linter.all false
set_option maxRecDepth 100000
set_option maxHeartbeats 4000000
namespace DX
open PySem PySem.Spec PyProof.Rows L2
/-! ### what a law's world says, piece by piece -/
structure TopF (K : PySem.W.Frag) (mg : Str → Option Value) (x qual : Str) (st : Stmt) (f : Addr) (fd : FuncData) (ps : List Str) : Prop where
  a : mg x = some (.ref f)
  d : DefAt K x qual st f fd
  b : L2.Binds K fd ps []
structure MetF (K : PySem.W.Frag) (C : Addr) (x qual : Str) (st : Stmt) (f : Addr) (fd : FuncData) (ps : List Str) : Prop where
  m : Meth K C x f
  d : DefAt K x qual st f fd
  b : L2.Binds K fd ps []
structure SmtF (K : PySem.W.Frag) (C q : Addr) (x qual : Str) (st : Stmt) (f : Addr) (fd : FuncData) (ps : List Str) : Prop where
  s : Vx.SMet K C (.type "type") x q f
  d : DefAt K x qual st f fd
  b : L2.Binds K fd ps []
structure PrpF (K : PySem.W.Frag) (C q : Addr) (x qual : Str) (st : Stmt) (f : Addr) (fd : FuncData) (ps : List Str) : Prop where
  p : PropOf K C x q f
  d : DefAt K x qual st f fd
  b : L2.Binds K fd ps []
structure ClsF (K : PySem.W.Frag) (mg : Str → Option Value) (n : Str) (C : Addr) : Prop where
  a : mg n = some (.ref C)
  o : OwnT K C
  k : KitO K C
  s : PySem.W.kitOne K (.ref C) (.ref C) = some true
theorem ClsF.cl {K : PySem.W.Frag} {mg : Str → Option Value} {n : Str} {C : Addr} (c : ClsF K mg n C) : Cls K C := c.o.cl
structure GlobC (K : PySem.W.Frag) (mg : Str → Option Value) (n : Str) (v : V) (d : D) where
  u : Value
  m : mg n = some u
  r : RelV v u
  p : ∀ as F, Rep K as F v d
theorem Fun.dat {K : PySem.W.Frag} {x qual : Str} {st : Stmt} {f : Addr} {fd : FuncData} (F : Fun K x qual st f fd) : DefAt K x qual st f fd := by
  obtain ⟨oc, od, kV, doc, pm, an, cdv, ct, osl, e, l, c⟩ := F.ex
  exact ⟨⟨oc, od, .none, kV, doc, pm, an, cdv, ct, osl, e, l, c⟩, F.kp⟩
/-! ### the memory: what stands where -/
theorem at_l {α : Type} {xs ys : List α} {k : Nat} (h : k < xs.length) : (xs ++ ys)[k]? = xs[k]? := List.getElem?_append_left h
theorem at_r {α : Type} {xs ys : List α} (i : Nat) : (xs ++ ys)[xs.length + i]? = ys[i]? := by
  rw [List.getElem?_append_right (by omega)]
  congr 1
  omega
theorem at_r0 {α : Type} {xs ys : List α} : (xs ++ ys)[xs.length]? = ys[0]? := at_r 0
theorem at_rn {α : Type} {xs ys : List α} {n : Nat} (h : xs.length = n) (i : Nat) : (xs ++ ys)[n + i]? = ys[i]? := h ▸ at_r i
theorem at_rn0 {α : Type} {xs ys : List α} {n : Nat} (h : xs.length = n) : (xs ++ ys)[n]? = ys[0]? := at_rn h 0
theorem set_l {α : Type} {xs ys : List α} {k : Nat} {v : α} (h : k < xs.length) : (xs ++ ys).set k v = xs.set k v ++ ys := List.set_append_left _ _ h
theorem set_rn {α : Type} {xs ys : List α} {n : Nat} (h : xs.length = n) (i : Nat) {v : α} : (xs ++ ys).set (n + i) v = xs ++ ys.set i v := by
  rw [List.set_append_right _ _ (by omega)]
  congr 2
  omega
theorem set_rn0 {α : Type} {xs ys : List α} {n : Nat} (h : xs.length = n) {v : α} : (xs ++ ys).set n v = xs ++ ys.set 0 v := set_rn h 0
theorem take_n {α : Type} {xs ys : List α} {n : Nat} (h : xs.length = n) : (xs ++ ys).take n = xs := by rw [← h]; exact List.take_left'  rfl
theorem lt_of_at {α : Type} {xs : List α} {k : Nat} {x : α} (h : xs[k]? = some x) : k < xs.length := (List.getElem?_eq_some_iff.mp h).1
theorem seq_step {a b : DTS} {De : DEnds} {E : XD} {ρ : Rho} {μ : Mem} (h : ∀ nx : Rho → Mem → Prop, (∀ ρ μ, b De E ρ μ → nx ρ μ) → a { De with nx := nx } E ρ μ) : uSeq a b De E ρ μ := h _ fun _ _ z => z
/-! loops over a list of data by an invariant -/
theorem for_inv {ug : DTG} {ub : DTS} {chk : Mem → Prop} {De : DEnds} {E : XD} (I : List D → Rho → Mem → Prop) (hI : ∀ ds ρ μ, I ds ρ μ → chk μ) (hn : ∀ ρ μ, I [] ρ μ → De.nx ρ μ)
    (hs : ∀ d ds ρ μ (go : Rho → Mem → Prop), I (d :: ds) ρ μ → (∀ ρ μ, I ds ρ μ → go ρ μ) → ug d ρ μ (fun ρ1 μ1 => ub { De with nx := go, ct := go, bk := De.nx } E ρ1 μ1) E) : ∀ ds ρ μ, I ds ρ μ → uForGo ug ub chk De E ds ρ μ
  | [], ρ, μ, h => ⟨hI _ _ _ h, hn _ _ h⟩
  | d :: ds, ρ, μ, h => ⟨hI _ _ _ h, hs d ds ρ μ _ h fun ρ1 μ1 h1 => for_inv I hI hn hs ds ρ1 μ1 h1⟩
theorem lc_inv {ug : DTG} {ut : DTT} {ue : DTE} {ρw : Rho} {chk : Mem → Prop} {fin : List D → Mem → Prop} (I : List D → List D → Mem → Prop) (hI : ∀ ds acc μ, I ds acc μ → chk μ) (hn : ∀ acc μ, I [] acc μ → fin acc μ)
    (hs : ∀ d ds acc μ (go : List D → Mem → Prop), I (d :: ds) acc μ → (∀ acc μ, I ds acc μ → go acc μ) → ug d ρw μ (fun ρ1 μ1 => ut ρ1 μ1 (fun b μ2 => if b = true then ue ρ1 μ2 (fun y μ3 => acc.length < 1000000 ∧ go (acc ++ [y]) μ3) XN else go acc μ2) XN) XN) : ∀ ds acc μ, I ds acc μ → uLcGo ug ut ue ρw chk fin ds acc μ
  | [], acc, μ, h => ⟨hI _ _ _ h, hn _ _ h⟩
  | d :: ds, acc, μ, h => ⟨hI _ _ _ h, hs d ds acc μ _ h fun acc1 μ1 h1 => lc_inv I hI hn hs ds acc1 μ1 h1⟩
/-- a loop cut: what is left when it is done -/
theorem for_map {ug : DTG} {ub : DTS} {chk : Mem → Prop} {De : DEnds} {E : XD} {ds : List D} {ρ : Rho} {μ : Mem} (J : Nat → Rho → Mem → Prop) (h0 : J 0 ρ μ) (hI : ∀ n ρ μ, J n ρ μ → chk μ) (hn : ∀ ρ μ, J ds.length ρ μ → De.nx ρ μ)
    (hs : ∀ n d ρ μ (go : Rho → Mem → Prop), ds[n]? = some d → J n ρ μ → (∀ ρ μ, J (n + 1) ρ μ → go ρ μ) → ug d ρ μ (fun ρ1 μ1 => ub { De with nx := go, ct := go, bk := De.nx } E ρ1 μ1) E) : uForGo ug ub chk De E ds ρ μ := by
  refine for_inv (fun es ρ μ => ∃ n, es = ds.drop n ∧ n ≤ ds.length ∧ J n ρ μ) (fun es ρ μ ⟨n, _, _, h⟩ => hI n ρ μ h) (fun ρ μ ⟨n, e, l, h⟩ => ?_) (fun d es ρ μ go ⟨n, e, l, h⟩ k => ?_) ds ρ μ ⟨0, rfl, Nat.zero_le _, h0⟩
  · have : ds.length ≤ n := List.drop_eq_nil_iff.mp e.symm
    have : n = ds.length := by omega
    subst this
    exact hn ρ μ h
  · have hl : n < ds.length := by
      rcases Nat.lt_or_ge n ds.length with z | z
      · exact z
      · rw [List.drop_eq_nil_iff.mpr z] at e; cases e
    rw [List.drop_eq_getElem_cons hl] at e
    injection e with e1 e2
    exact hs n d ρ μ go (by rw [e1]; exact List.getElem?_eq_getElem hl) h fun ρ μ j => k ρ μ ⟨n + 1, e2, hl, j⟩
theorem lc_map {ug : DTG} {ut : DTT} {ue : DTE} {ρw : Rho} {chk : Mem → Prop} {fin : List D → Mem → Prop} {ds : List D} {μ : Mem} (J : Nat → List D → Mem → Prop) (h0 : J 0 [] μ) (hI : ∀ n acc μ, J n acc μ → chk μ) (hn : ∀ acc μ, J ds.length acc μ → fin acc μ)
    (hs : ∀ n d acc μ (go : List D → Mem → Prop), ds[n]? = some d → J n acc μ → (∀ acc μ, J (n + 1) acc μ → go acc μ) → ug d ρw μ (fun ρ1 μ1 => ut ρ1 μ1 (fun b μ2 => if b = true then ue ρ1 μ2 (fun y μ3 => acc.length < 1000000 ∧ go (acc ++ [y]) μ3) XN else go acc μ2) XN) XN) : uLcGo ug ut ue ρw chk fin ds [] μ := by
  refine lc_inv (fun es acc μ => ∃ n, es = ds.drop n ∧ n ≤ ds.length ∧ J n acc μ) (fun es ρ μ ⟨n, _, _, h⟩ => hI n ρ μ h) (fun ρ μ ⟨n, e, l, h⟩ => ?_) (fun d es ρ μ go ⟨n, e, l, h⟩ k => ?_) ds [] μ ⟨0, rfl, Nat.zero_le _, h0⟩
  · have : ds.length ≤ n := List.drop_eq_nil_iff.mp e.symm
    have : n = ds.length := by omega
    subst this
    exact hn ρ μ h
  · have hl : n < ds.length := by
      rcases Nat.lt_or_ge n ds.length with z | z
      · exact z
      · rw [List.drop_eq_nil_iff.mpr z] at e; cases e
    rw [List.drop_eq_getElem_cons hl] at e
    injection e with e1 e2
    exact hs n d ρ μ go (by rw [e1]; exact List.getElem?_eq_getElem hl) h fun ρ μ j => k ρ μ ⟨n + 1, e2, hl, j⟩
end DX
set_option Elab.async false
set_option linter.all false
set_option maxRecDepth 100000
set_option maxHeartbeats 4000000
namespace DX
open PySem PySem.Spec PyProof.Rows L2
theorem v_non {μ : Mem}  : view μ .non = .non := rfl
theorem vT_non {μ : Mem}  : viewT μ .non = .non := rfl
theorem ty_non {μ : Mem}  : tyOf μ .non = some .non := rfl
theorem v_bl {μ : Mem} (b : Bool) : view μ (.bl b) = (.bl b) := rfl
theorem vT_bl {μ : Mem} (b : Bool) : viewT μ (.bl b) = (.bl b) := rfl
theorem ty_bl {μ : Mem} (b : Bool) : tyOf μ (.bl b) = some .bl := rfl
theorem v_int {μ : Mem} (i : Int) : view μ (.int i) = (.int i) := rfl
theorem vT_int {μ : Mem} (i : Int) : viewT μ (.int i) = (.int i) := rfl
theorem ty_int {μ : Mem} (i : Int) : tyOf μ (.int i) = some .int := rfl
theorem v_str {μ : Mem} (x : Str) : view μ (.str x) = (.str x) := rfl
theorem vT_str {μ : Mem} (x : Str) : viewT μ (.str x) = (.str x) := rfl
theorem ty_str {μ : Mem} (x : Str) : tyOf μ (.str x) = some .str := rfl
theorem v_byt {μ : Mem} (b : Array UInt8) : view μ (.byt b) = (.byt b) := rfl
theorem vT_byt {μ : Mem} (b : Array UInt8) : viewT μ (.byt b) = (.byt b) := rfl
theorem ty_byt {μ : Mem} (b : Array UInt8) : tyOf μ (.byt b) = some .byt := rfl
theorem v_lst {μ : Mem} (xs : List D) : view μ (.lst xs) = (.lst xs) := rfl
theorem vT_lst {μ : Mem} (xs : List D) : viewT μ (.lst xs) = (.lst xs) := rfl
theorem ty_lst {μ : Mem} (xs : List D) : tyOf μ (.lst xs) = some .lst := rfl
theorem v_tup {μ : Mem} (xs : List D) : view μ (.tup xs) = (.tup xs) := rfl
theorem vT_tup {μ : Mem} (xs : List D) : viewT μ (.tup xs) = (.tup xs) := rfl
theorem ty_tup {μ : Mem} (xs : List D) : tyOf μ (.tup xs) = some .tup := rfl
theorem v_kt {μ : Mem} (xs : List D) : view μ (.kt xs) = (.tup xs) := rfl
theorem vT_kt {μ : Mem} (xs : List D) : viewT μ (.kt xs) = (.kt xs) := rfl
theorem ty_kt {μ : Mem} (xs : List D) : tyOf μ (.kt xs) = some .tup := rfl
theorem v_kl {μ : Mem} (xs : List D) : view μ (.kl xs) = (.lst xs) := rfl
theorem vT_kl {μ : Mem} (xs : List D) : viewT μ (.kl xs) = (.kl xs) := rfl
theorem ty_kl {μ : Mem} (xs : List D) : tyOf μ (.kl xs) = some .lst := rfl
theorem v_ins {μ : Mem} (C : Addr) (fs : List (Str × D)) : view μ (.ins C fs) = (.ins C fs) := rfl
theorem vT_ins {μ : Mem} (C : Addr) (fs : List (Str × D)) : viewT μ (.ins C fs) = (.ins C fs) := rfl
theorem ty_ins {μ : Mem} (C : Addr) (fs : List (Str × D)) : tyOf μ (.ins C fs) = some (.own C) := rfl
theorem v_val {μ : Mem} (v : V) : view μ (.val v) = (.val v) := rfl
theorem vT_val {μ : Mem} (v : V) : viewT μ (.val v) = (.val v) := rfl
theorem ty_val {μ : Mem} (v : V) : tyOf μ (.val v) = none := rfl
theorem look_hd {n : Str} {d : D} {r : List (Str × D)} : List.lookup n ((n, d) :: r) = some d := by
  rw [List.lookup_cons, beq_self_eq_true]
theorem atI_nat {xs : List D} (n : Nat) : atI xs (n : Int) = xs[n]? := by
  unfold atI ixN
  rw [if_pos (Int.natCast_nonneg n)]
  by_cases h : n < xs.length
  · rw [if_pos (by omega)]; rfl
  · rw [if_neg (by omega), List.getElem?_eq_none (by omega)]; rfl
theorem at0 {xs : List D} : atI xs 0 = xs[0]? := atI_nat 0
theorem at1 {xs : List D} : atI xs 1 = xs[1]? := atI_nat 1
theorem at2 {xs : List D} : atI xs 2 = xs[2]? := atI_nat 2
theorem at3 {xs : List D} : atI xs 3 = xs[3]? := atI_nat 3
theorem eqok_int {a b : Int} : dEqOk (.int a) (.int b) = true := rfl
theorem eqok_str {a b : Str} : dEqOk (.str a) (.str b) = true := rfl
theorem eqok_bl {a b : Bool} : dEqOk (.bl a) (.bl b) = true := rfl
theorem deqv_int {a b : Int} : deqv (.int a) (.int b) = (a == b) := rfl
theorem deqv_str {a b : Str} : deqv (.str a) (.str b) = (a == b) := rfl
theorem deqv_bl {a b : Bool} : deqv (.bl a) (.bl b) = (a == b) := rfl
theorem ty_view {μ : Mem} {x : D} {C : Addr} {fs : List (Str × D)} (h : view μ x = .ins C fs) : tyOf μ x = some (.own C) := by
  cases x with
  | ob k =>
    have h : (match μ[k]? with | some (DX.M.lst ds) => D.lst ds | some (.ins C fs) => .ins C fs | _ => .ob k) = .ins C fs := h
    show (match μ[k]? with | some (DX.M.lst _) => some Ty.lst | some (.ins C _) => some (.own C) | some (.dic _) => some .dic | none => none) = _
    split at h <;> first | (cases h; rename_i e; rw [e]) | cases h
  | ins C' gs => cases h; rfl
  | _ => cases h
theorem v_obL {μ : Mem} {k : Nat} {ds : List D} (h : μ[k]? = some (.lst ds)) : view μ (.ob k) = .lst ds := by
  show (match μ[k]? with | some (DX.M.lst ds) => D.lst ds | some (.ins C fs) => .ins C fs | _ => .ob k) = _
  rw [h]
theorem v_obI {μ : Mem} {k : Nat} {C : Addr} {fs : List (Str × D)} (h : μ[k]? = some (.ins C fs)) : view μ (.ob k) = .ins C fs := by
  show (match μ[k]? with | some (DX.M.lst ds) => D.lst ds | some (.ins C fs) => .ins C fs | _ => .ob k) = _
  rw [h]
theorem vT_obL {μ : Mem} {k : Nat} {ds : List D} (h : μ[k]? = some (.lst ds)) : viewT μ (.ob k) = .lst ds := by
  show (match μ[k]? with | some (DX.M.lst ds) => D.lst ds | some (.ins C fs) => .ins C fs | _ => .ob k) = _
  rw [h]
theorem set_r0 {α : Type} {xs ys : List α} {v : α} : (xs ++ ys).set xs.length v = xs ++ ys.set 0 v := set_rn0 rfl
theorem putD_nil {f : Str} {d : D} : putD f d [] = [(f, d)] := rfl
theorem putD_hd {f : Str} {d e : D} {r : List (Str × D)} : putD f d ((f, e) :: r) = (f, d) :: r := if_pos rfl
theorem ixN_nat {n m : Nat} (h : m < n) : ixN n (m : Int) = some m := by
  unfold ixN
  rw [if_pos (Int.natCast_nonneg m), if_pos (by omega)]
  rfl
theorem view_app {μ l : Mem} {x : D} {ds : List D} (h : view μ x = .lst ds) : view (μ ++ l) x = .lst ds := by
  cases x with
  | ob k =>
    have h' : (match μ[k]? with | some (DX.M.lst ds) => D.lst ds | some (.ins C fs) => .ins C fs | _ => .ob k) = .lst ds := h
    split at h' <;> first | (cases h'; rename_i e; exact v_obL ((at_l (lt_of_at e)).trans e)) | cases h'
  | _ => exact h
theorem view_appI {μ l : Mem} {x : D} {C : Addr} {fs : List (Str × D)} (h : view μ x = .ins C fs) : view (μ ++ l) x = .ins C fs := by
  cases x with
  | ob k =>
    have h' : (match μ[k]? with | some (DX.M.lst ds) => D.lst ds | some (.ins C fs) => .ins C fs | _ => .ob k) = .ins C fs := h
    split at h' <;> first | (cases h'; rename_i e; exact v_obI ((at_l (lt_of_at e)).trans e)) | cases h'
  | _ => exact h
theorem fz_lst {μ : Mem} {n f : Nat} {ds : List D} : fz μ n (f + 1) (.lst ds) = .lst (ds.map (fz μ n f)) := rfl
theorem fz_tup {μ : Mem} {n f : Nat} {ds : List D} : fz μ n (f + 1) (.tup ds) = .tup (ds.map (fz μ n f)) := rfl
theorem fz_int {μ : Mem} {n : Nat} {i : Int} : ∀ f, fz μ n f (.int i) = .int i
  | 0 => rfl
  | _ + 1 => rfl
theorem fz_bl {μ : Mem} {n : Nat} {i : Bool} : ∀ f, fz μ n f (.bl i) = .bl i
  | 0 => rfl
  | _ + 1 => rfl
theorem fz_str {μ : Mem} {n : Nat} {i : Str} : ∀ f, fz μ n f (.str i) = .str i
  | 0 => rfl
  | _ + 1 => rfl
theorem fz_non {μ : Mem} {n : Nat} : ∀ f, fz μ n f .non = .non
  | 0 => rfl
  | _ + 1 => rfl
theorem fz_obL {μ : Mem} {n f k : Nat} {ds : List D} (hk : ¬ k < n) (h : μ[k]? = some (.lst ds)) : fz μ n (f + 1) (.ob k) = .lst (ds.map (fz μ n f)) := by
  show (if k < n then D.ob k else match μ[k]? with | some (DX.M.lst ds) => .lst (ds.map (fz μ n f)) | some (.ins C fs) => .ins C (fs.map fun p => (p.1, fz μ n f p.2)) | _ => .ob k) = _
  rw [if_neg hk, h]
theorem fz_obI {μ : Mem} {n f k : Nat} {C : Addr} {fs : List (Str × D)} (hk : ¬ k < n) (h : μ[k]? = some (.ins C fs)) : fz μ n (f + 1) (.ob k) = .ins C (fs.map fun p => (p.1, fz μ n f p.2)) := by
  show (if k < n then D.ob k else match μ[k]? with | some (DX.M.lst ds) => .lst (ds.map (fz μ n f)) | some (.ins C fs) => .ins C (fs.map fun p => (p.1, fz μ n f p.2)) | _ => .ob k) = _
  rw [if_neg hk, h]
theorem cldL_all {n : Nat} : ∀ {ds : List D}, (∀ d ∈ ds, cld n d = true) → cldL n ds = true
  | [], _ => rfl
  | d :: ds, h => by
    show (cld n d && cldL n ds) = true
    rw [h d List.mem_cons_self, cldL_all fun e he => h e (List.mem_cons_of_mem _ he)]
    rfl
theorem cldL_bl {n : Nat} (bs : List Bool) : cldL n (bs.map .bl) = true := cldL_all fun d hd => by
  obtain ⟨b, _, rfl⟩ := List.mem_map.mp hd
  rfl
theorem isLst_at {μ : Mem} {k : Nat} {ds : List D} (h : μ[k]? = some (.lst ds)) : isLst μ (.ob k) := by
  unfold isLst
  rw [v_obL h]
  trivial
end DX
set_option Elab.async false
set_option linter.all false
set_option maxRecDepth 100000
set_option maxHeartbeats 4000000
namespace DX
open PySem PySem.Spec PyProof.Rows L2
/-! ### dicts whose keys are ints and texts -/
def dKey : D → Option Key
  | .int i => some (.inl i)
  | .str x => some (.inr x)
  | _ => none
def valD (kvs : List (Key × D)) (k : Key) : Option D := (kvs.find? fun kv => decide (kv.1 = k)).map (·.2)
def dputK (kvs : List (Key × D)) (k : Key) (v : D) : List (Key × D) := if (kvs.any fun kv => decide (kv.1 = k)) = true then kvs.map (fun kv => if kv.1 = k then (kv.1, v) else kv) else kvs ++ [(k, v)]
def dicAt (μ : Mem) : D → Option (List (Key × D))
  | .ob k => match μ[k]? with
    | some (.dic kvs) => some kvs
    | _ => none
  | _ => none
section
variable {K : PySem.W.Frag} {Z : Hp} {as as' as1 : List Addr} {F F' F1 H H' H1 : Hp} {Ex : L2.St → XK}
theorem rep_key {v : V} {d : D} {k : Key} (r : Rep K as F v d) (h : dKey d = some k) : v = kV k := by
  cases r <;> first | (cases h; rfl) | cases h
theorem valV_cons (n : Key) (v : V) (vs : List (Key × V)) (k : Key) : valV ((n, v) :: vs) k = if n = k then some v else valV vs k := by
  by_cases e : n = k
  · rw [if_pos e]; exact valV_pos e
  · rw [if_neg e]; exact valV_neg e
theorem valD_cons (n : Key) (v : D) (vs : List (Key × D)) (k : Key) : valD ((n, v) :: vs) k = if n = k then some v else valD vs k := by
  unfold valD
  rw [List.find?_cons]
  by_cases e : n = k
  · rw [if_pos e]; simp [e]
  · rw [if_neg e]; simp [e]
theorem RepK.val : ∀ {vs : List (Key × V)} {ds : List (Key × D)} (k : Key), RepK K as F vs ds → (∀ d, valD ds k = some d → ∃ v, valV vs k = some v ∧ Rep K as F v d) ∧ (valD ds k = none → valV vs k = none)
  | _, _, k, .nil => ⟨fun d e => by simp [valD] at e, fun _ => rfl⟩
  | _, _, k, .cons (n := n) (v := v) (vs := vs) (d := d) (ds := ds) h r => by
    rw [valV_cons, valD_cons]
    by_cases e : n = k
    · rw [if_pos e, if_pos e]
      exact ⟨fun d' z => by cases z; exact ⟨v, rfl, h⟩, fun z => nomatch z⟩
    · rw [if_neg e, if_neg e]
      exact RepK.val k r
theorem RepK.any : ∀ {vs : List (Key × V)} {ds : List (Key × D)} (k : Key), RepK K as F vs ds → (vs.any fun kv => decide (kv.1 = k)) = (ds.any fun kv => decide (kv.1 = k))
  | _, _, _, .nil => rfl
  | _, _, k, .cons h r => by rw [List.any_cons, List.any_cons, RepK.any k r]
theorem RepK.upd_ {k : Key} {v : V} {d : D} (q : Rep K as F v d) : ∀ {vs : List (Key × V)} {ds : List (Key × D)}, RepK K as F vs ds → RepK K as F (vs.map fun kv => if kv.1 = k then (kv.1, v) else kv) (ds.map fun kv => if kv.1 = k then (kv.1, d) else kv)
  | _, _, .nil => .nil
  | _, _, .cons (n := n) (v := x) (d := e) h r => by
    rw [List.map_cons, List.map_cons]
    by_cases z : n = k
    · rw [if_pos z, if_pos z]; exact .cons q (RepK.upd_ q r)
    · rw [if_neg z, if_neg z]; exact .cons h (RepK.upd_ q r)
theorem RepK.snoc {k : Key} {v : V} {d : D} (q : Rep K as F v d) : ∀ {vs : List (Key × V)} {ds : List (Key × D)}, RepK K as F vs ds → RepK K as F (vs ++ [(k, v)]) (ds ++ [(k, d)])
  | _, _, .nil => .cons q .nil
  | _, _, .cons h r => .cons h (RepK.snoc q r)
theorem RepK.put {k : Key} {v : V} {d : D} (q : Rep K as F v d) {vs : List (Key × V)} {ds : List (Key × D)} (r : RepK K as F vs ds) : RepK K as F (putK vs k v) (dputK ds k d) := by
  unfold putK dputK
  rw [r.any k]
  split
  · exact r.upd_ q
  · exact r.snoc q
theorem RepK.len : ∀ {vs : List (Key × V)} {ds : List (Key × D)}, RepK K as F vs ds → vs.length = ds.length
  | _, _, .nil => rfl
  | _, _, .cons _ r => congrArg Nat.succ (RepK.len r)
theorem dic_at {μ : Mem} (M : Mm K Z as F H μ) {v : V} {d : D} {kvs : List (Key × D)} (r : Rep K as F v d) (h : dicAt μ d = some kvs) : ∃ a ks n, v = .ref a ∧ d = .ob n ∧ as[n]? = some a ∧ H a = some (.dK ks) ∧ RepK K as F ks kvs := by
  cases r with
  | ob q =>
    rename_i n a
    have h : (match μ[n]? with | some (DX.M.dic kvs) => some kvs | _ => none) = some kvs := h
    cases z : μ[n]? with
    | none => rw [z] at h; cases h
    | some m =>
      rw [z] at h
      obtain ⟨b, hb, y⟩ := M.at_ n m z
      obtain rfl := Option.some.inj (q.symm.trans hb)
      cases m with
      | dic ks => cases h; obtain ⟨vs, e1, e2⟩ := y; exact ⟨a, vs, n, rfl, rfl, q, e1, e2⟩
      | _ => cases h
  | _ => cases h
/-! {} -/
def uDNew : DTE := fun _ μ Q _ => Q (.ob μ.length) (μ ++ [.dic []])
theorem sim_dnew : Sim K Ex tDNewK uDNew := fun Z as F H σ ρ μ Q E Q' R X h k => fun p np =>
  k _ _ _ (as ++ [p]) F _ Gr.add (R.up Gr.add (R.mm.addM (m := .dic []) np ⟨[], upd_same, .nil⟩)) (rep_ob R.mm.len) h
/-! d[y], y in d, d.get(y), d[y] = v -/
def uDGet (uo ui : DTE) : DTE := fun ρ μ Q E => uo ρ μ (fun x μ1 => ui ρ μ1 (fun y μ2 => ∃ kvs k d, dicAt μ2 x = some kvs ∧ dKey y = some k ∧ valD kvs k = some d ∧ Q d μ2) E) E
theorem sim_dget {to ti : TE} {uo ui : DTE} (a : Sim K Ex to uo) (b : Sim K Ex ti ui) : Sim K Ex (tDGet to ti) (uDGet uo ui) := fun Z as F H σ ρ μ Q E Q' R X h k =>
  a Z as F H σ ρ μ _ E _ R X h fun v d μ1 as1 F1 H1 g1 R1 r1 h1 => b Z as1 F1 H1 σ ρ μ1 _ E _ R1 (X.up g1) h1 fun v2 d2 μ2 as2 F2 H2 g2 R2 r2 h2 => by
    obtain ⟨kvs, key, d, e1, e2, e3, q⟩ := h2
    obtain ⟨p, ks, n, rfl, rfl, _, hp, rk⟩ := dic_at R2.mm (r1.up g2) e1
    obtain ⟨w, w1, w2⟩ := (rk.val key).1 d e3
    cases rep_key r2 e2
    exact ⟨p, w, rfl, by rw [← w1]; exact DGet.k hp, k w d μ2 as2 F2 H2 (g1.trans g2) R2 w2 q⟩
def uDIn (neg : Bool) (ui uo : DTE) : DTE := fun ρ μ Q E => ui ρ μ (fun y μ1 => uo ρ μ1 (fun x μ2 => ∃ kvs k, dicAt μ2 x = some kvs ∧ dKey y = some k ∧ Q (.bl (if neg then !(valD kvs k).isSome else (valD kvs k).isSome)) μ2) E) E
theorem val_some {ks : List (Key × V)} {kvs : List (Key × D)} (rk : RepK K as F ks kvs) (key : Key) : (valV ks key).isSome = (valD kvs key).isSome := by
  cases e : valD kvs key with
  | none => rw [(rk.val key).2 e]; rfl
  | some d => obtain ⟨w, w1, _⟩ := (rk.val key).1 d e; rw [w1]; rfl
theorem sim_din {to ti : TE} {uo ui : DTE} (b : Sim K Ex ti ui) (a : Sim K Ex to uo) : Sim K Ex (tDIn ti to) (uDIn false ui uo) := fun Z as F H σ ρ μ Q E Q' R X h k =>
  b Z as F H σ ρ μ _ E _ R X h fun v2 d2 μ1 as1 F1 H1 g1 R1 r1 h1 => a Z as1 F1 H1 σ ρ μ1 _ E _ R1 (X.up g1) h1 fun v d μ2 as2 F2 H2 g2 R2 r2 h2 => by
    obtain ⟨kvs, key, e1, e2, q⟩ := h2
    obtain ⟨p, ks, n, rfl, rfl, _, hp, rk⟩ := dic_at R2.mm r2 e1
    cases rep_key (r1.up g2) e2
    exact ⟨p, valV ks key, rfl, DGet.k hp, k _ _ μ2 as2 F2 H2 (g1.trans g2) R2 (.bl _) (by rw [val_some rk]; exact q)⟩
theorem sim_dnotin {to ti : TE} {uo ui : DTE} (b : Sim K Ex ti ui) (a : Sim K Ex to uo) : Sim K Ex (tDNotIn ti to) (uDIn true ui uo) := fun Z as F H σ ρ μ Q E Q' R X h k =>
  b Z as F H σ ρ μ _ E _ R X h fun v2 d2 μ1 as1 F1 H1 g1 R1 r1 h1 => a Z as1 F1 H1 σ ρ μ1 _ E _ R1 (X.up g1) h1 fun v d μ2 as2 F2 H2 g2 R2 r2 h2 => by
    obtain ⟨kvs, key, e1, e2, q⟩ := h2
    obtain ⟨p, ks, n, rfl, rfl, _, hp, rk⟩ := dic_at R2.mm r2 e1
    cases rep_key (r1.up g2) e2
    exact ⟨p, valV ks key, rfl, DGet.k hp, k _ _ μ2 as2 F2 H2 (g1.trans g2) R2 (.bl _) (by rw [val_some rk]; exact q)⟩
def uDGet1 (uo ui : DTE) : DTE := fun ρ μ Q E => uo ρ μ (fun x μ1 => (∃ kvs, dicAt μ1 x = some kvs) ∧ ui ρ μ1 (fun y μ2 => ∃ kvs k, dicAt μ2 x = some kvs ∧ dKey y = some k ∧ Q ((valD kvs k).getD .non) μ2) E) E
theorem sim_dget1 {to ti : TE} {uo ui : DTE} (a : Sim K Ex to uo) (b : Sim K Ex ti ui) : Sim K Ex (tDGet1 to ti) (uDGet1 uo ui) := fun Z as F H σ ρ μ Q E Q' R X h k =>
  a Z as F H σ ρ μ _ E _ R X h fun v d μ1 as1 F1 H1 g1 R1 r1 h1 => by
    obtain ⟨⟨kvs0, e0⟩, h1⟩ := h1
    obtain ⟨p, ks0, n, rfl, rfl, hn, hp0, _⟩ := dic_at R1.mm r1 e0
    refine ⟨p, rfl, .inl ⟨ks0, .inl hp0⟩, b Z as1 F1 H1 σ ρ μ1 _ E _ R1 (X.up g1) h1 fun v2 d2 μ2 as2 F2 H2 g2 R2 r2 h2 => ?_⟩
    obtain ⟨kvs, key, e1, e2, q⟩ := h2
    obtain ⟨p2, ks, n2, ep, en, _, hp, rk⟩ := dic_at R2.mm (r1.up g2) e1
    cases ep
    cases rep_key r2 e2
    refine ⟨valV ks key, DGet.k hp, ?_⟩
    cases e : valD kvs key with
    | none =>
      rw [e] at q
      rw [(rk.val key).2 e]
      exact k _ _ μ2 as2 F2 H2 (g1.trans g2) R2 .non q
    | some d =>
      rw [e] at q
      obtain ⟨w, w1, w2⟩ := (rk.val key).1 d e
      rw [w1]
      exact k _ _ μ2 as2 F2 H2 (g1.trans g2) R2 w2 q
def uDPut (uo ui ue : DTE) : DTS := fun De E ρ μ => ue ρ μ (fun v μ1 => uo ρ μ1 (fun x μ2 => ui ρ μ2 (fun y μ3 => ∃ n kvs k, x = .ob n ∧ μ3[n]? = some (.dic kvs) ∧ dKey y = some k ∧ kvs.length < 1000000 ∧ De.nx ρ (μ3.set n (.dic (dputK kvs k v)))) E) E) E
theorem sim_dput {to ti te : TE} {uo ui ue : DTE} (a : Sim K Ex to uo) (b : Sim K Ex ti ui) (c : Sim K Ex te ue) : SimS K Ex (sDPut to ti te) (uDPut uo ui ue) := fun Z as F H σ ρ μ De E D' R X h kn kr kb kc =>
  c Z as F H σ ρ μ _ E _ R X h fun v d μ1 as1 F1 H1 g1 R1 r1 h1 => a Z as1 F1 H1 σ ρ μ1 _ E _ R1 (X.up g1) h1 fun v2 d2 μ2 as2 F2 H2 g2 R2 r2 h2 =>
    b Z as2 F2 H2 σ ρ μ2 _ E _ R2 (X.up (g1.trans g2)) h2 fun v3 d3 μ3 as3 F3 H3 g3 R3 r3 h3 => by
      obtain ⟨n, kvs, key, rfl, e1, e2, hl, q⟩ := h3
      have e1' : dicAt μ3 (.ob n) = some kvs := by
        show (match μ3[n]? with | some (DX.M.dic kvs) => some kvs | _ => none) = some kvs
        rw [e1]
      obtain ⟨p, ks, n', rfl, en, hn, hp, rk⟩ := dic_at R3.mm (r2.up g3) e1'
      cases en
      cases rep_key r3 e2
      refine ⟨p, _, rfl, DPut.k hp (by rw [rk.len]; exact Nat.lt_of_lt_of_le hl (by decide)), ?_⟩
      exact kn σ ρ _ as3 F3 _ ((g1.trans g2).trans g3) ⟨R3.mm.put (m := .dic (dputK kvs key d)) hn ⟨_, upd_same, rk.put ((r1.up g2).up g3)⟩, R3.env⟩ q
/-! {k: v for ..} -/
def uDcGo (ug : DTG) (ut : DTT) (uk uv : DTE) (ρw : Rho) (chk : Mem → Prop) (fin : List (Key × D) → Mem → Prop) : List D → List (Key × D) → Mem → Prop
  | [], acc, μ => chk μ ∧ fin acc μ
  | d :: ds, acc, μ => chk μ ∧ ug d ρw μ (fun ρ1 μ1 => ut ρ1 μ1 (fun b μ2 => if b = true then uk ρ1 μ2 (fun y μ3 => uv ρ1 μ3 (fun z μ4 => ∃ k, dKey y = some k ∧ acc.length < 1000000 ∧ uDcGo ug ut uk uv ρw chk fin ds (dputK acc k z) μ4) XN) XN else uDcGo ug ut uk uv ρw chk fin ds acc μ2) XN) XN
def uDc (ui : DTI) (ug : DTG) (ut : DTT) (uk uv : DTE) (vs : List Nat) : DTE := fun ρ μ Q E => ui ρ μ (fun ds chk μ1 => uDcGo ug ut uk uv (wipeD ρ vs) chk (fun acc μ2 => Q (.ob μ2.length) (μ2 ++ [.dic acc])) ds [] μ1) E
theorem sim_dc {wi : TI} {ui : DTI} {g : TG} {ug : DTG} {tt : TT} {ut : DTT} {tk tv : TE} {uk uv : DTE} {vs : List Nat} (i : SimI K Ex wi ui) (gs : SimG K X0 g ug) (ts : SimT K X0 tt ut) (ks_ : Sim K X0 tk uk) (es : Sim K X0 tv uv) (wp : Wip g vs) (mono : Mono g) :
    Sim K Ex (tDc wi g tt tk tv vs) (uDc ui ug ut uk uv vs) := fun Z as F H σ ρ μ Q E Q' R X h k =>
  i Z as F H σ ρ μ _ E _ R X h fun J ds chk μ1 as1 F1 H1 g1 R1 it h1 => fun D nD => by
    have nZ : Z D = none := by
      cases e : Z D with
      | none => rfl
      | some o => have := (R1.mm.hid D o e).1; rw [nD] at this; cases this
    let fin : List (Key × DX.D) → Mem → Prop := fun acc μ2 => Q (.ob μ2.length) (μ2 ++ [.dic acc])
    have h1 : uDcGo ug ut uk uv (wipeD ρ vs) chk fin ds [] μ1 := h1
    refine ⟨fun i n H' => n = ds.length - i ∧ i ≤ ds.length ∧ ∃ as' F' μ' av acc, Gr as1 F1 as' F' ∧ RepK K as' F' av acc ∧ Mm K (upd Z D (.dK av)) as' F' H' μ' ∧ uDcGo ug ut uk uv (wipeD ρ vs) chk fin (ds.drop i) acc μ',
      ⟨ds.length, by simp, Nat.zero_le _, as1, F1, μ1, [], [], Gr.refl, .nil, R1.mm.hide nD, by rw [List.drop_zero]; exact h1⟩, ?_⟩
    rintro i n H' ⟨rfl, hi, as', F', μ', av, acc, g2, ra, M2, q⟩
    have ha := (M2.hid D _ upd_same).1
    by_cases hlt : i < ds.length
    · rw [List.drop_eq_getElem_cons hlt] at q
      obtain ⟨c, q⟩ := q
      refine .inr ⟨it.go _ i as' F' H' μ' g2 M2 c hlt, fun H3 => ∃ as3 F3 μ3 av acc, Gr as1 F1 as3 F3 ∧ RepK K as3 F3 av acc ∧ Mm K (upd Z D (.dK av)) as3 F3 H3 μ3 ∧ uDcGo ug ut uk uv (wipeD ρ vs) chk fin (ds.drop (i + 1)) acc μ3,
        fun H3 z => ⟨ds.length - (i + 1), by omega, rfl, hlt, z⟩, fun x H2 y => ?_⟩
      obtain ⟨F2, g3, M3, r3⟩ := it.yld _ i as' F' H' μ' x H2 _ g2 M2 c (List.getElem?_eq_getElem hlt) y
      have gA := g2.trans g3
      have R3 : Rp K (upd Z D (.dK av)) as' F2 H2 (L2.wipe σ vs) (wipeD ρ vs) μ' := ⟨M3, (R1.env.up gA).wipe vs⟩
      refine mono _ _ _ _ _ (fun σ2 H2 z => ?_) (wp _ _ _ _ (gs _ as' F2 H2 (L2.wipe σ vs) (wipeD ρ vs) μ' x _ _ XN (fun σ4 H4 => tt σ4 H4 fun b H5 => if b = true then tk σ4 H5 fun y H6 => tv σ4 H6 fun z H7 => ∃ a2 key, y = kV key ∧ H7 D = some (.dK a2) ∧ a2.length < sizeLine ∧ (∃ as3 F3 μ3 av acc, Gr as1 F1 as3 F3 ∧ RepK K as3 F3 av acc ∧ Mm K (upd Z D (.dK av)) as3 F3 (upd H7 D (.dK (putK a2 key z))) μ3 ∧ uDcGo ug ut uk uv (wipeD ρ vs) chk fin (ds.drop (i + 1)) acc μ3)
          else ∃ as3 F3 μ3 av acc, Gr as1 F1 as3 F3 ∧ RepK K as3 F3 av acc ∧ Mm K (upd Z D (.dK av)) as3 F3 H5 μ3 ∧ uDcGo ug ut uk uv (wipeD ρ vs) chk fin (ds.drop (i + 1)) acc μ3) R3 XL.no r3 q fun σ4 ρ4 μ4 as4 F4 H4 g4 R4 q4 => ?_))
      · exact ⟨z.1.trans (wipe_wipe σ vs), z.2⟩
      · refine ts _ as4 F4 H4 σ4 ρ4 μ4 _ XN _ R4 XL.no q4 fun b μ5 as5 F5 H5 g5 R5 q5 => ?_
        have gB := (gA.trans g4).trans g5
        have rB := ((ra.up g3).up g4).up g5
        cases b with
        | false =>
          rw [if_neg Bool.false_ne_true] at q5 ⊢
          exact ⟨as5, F5, μ5, av, acc, gB, rB, R5.mm, q5⟩
        | true =>
          rw [if_pos rfl] at q5 ⊢
          refine ks_ _ as5 F5 H5 σ4 ρ4 μ5 _ XN _ R5 XL.no q5 fun w0 d0 μ60 as60 F60 H60 g60 R60 r60 q60 => ?_
          refine es _ as60 F60 H60 σ4 ρ4 μ60 _ XN _ R60 XL.no q60 fun w d6 μ6 as6 F6 H6 g6 R6 r6 q6 => ?_
          have rC := (rB.up g60).up g6
          obtain ⟨key, ek, hl, q7⟩ := q6
          refine ⟨av, key, rep_key r60 ek, (R6.mm.hid D _ upd_same).1, ?_, as6, F6, μ6, putK av key w, dputK acc key d6, (gB.trans g60).trans g6, rC.put r6, R6.mm.rehide, q7⟩
          rw [rC.len]
          exact Nat.lt_of_lt_of_le hl (by decide)
    · have e : ds.drop i = [] := List.drop_eq_nil_of_le (by omega)
      rw [e] at q
      obtain ⟨c, q⟩ := q
      refine .inl ⟨it.stop _ i as' F' H' μ' g2 M2 c (by omega), ?_⟩
      have gA := g1.trans g2
      have M4 := M2.showM (m := .dic acc) nZ ⟨av, ha, ra.up Gr.add⟩
      exact k _ _ _ _ F' H' (gA.trans Gr.add) ⟨M4, R1.env.up (g2.trans Gr.add)⟩ (rep_ob M2.len) q
end
section
variable {X : Cx} {K : PySem.W.Frag} {Ex : L2.St → XK} {pos pos' apos cpos : Pos} {a b o i e : Expr} {to ti te : TE} {uo ui ue : DTE} {tg : Expr} {g : TG} {ug : DTG}
theorem d_dnew : PD X K Ex (.Dict [] [] pos) tDNewK uDNew := ⟨pe_dnewK, sim_dnew⟩
theorem d_dget (hu : X.A.units + 1 < cLine) (ho : PD X K Ex o to uo) (hi : PD X K Ex i ti ui) (hs : NoSl i := by exact fun _ _ => rfl) : PD X K Ex (.Subscript o i pos) (tDGet to ti) (uDGet uo ui) := ⟨pe_dget hu ho.pe hi.pe hs, sim_dget ho.sim hi.sim⟩
theorem d_dget1 (hu : X.A.units + 1 < cLine) (ho : PD X K Ex o to uo) (he : PD X K Ex e te ue) (m : M1 X o "get" apos e cpos := by exact ⟨rfl, rfl, rfl, rfl⟩) : PD X K Ex (.Call (.Attribute o "get" apos) [e] [] cpos) (tDGet1 to te) (uDGet1 uo ue) := ⟨pe_dget1 hu ho.pe he.pe m, sim_dget1 ho.sim he.sim⟩
theorem s_dput (hu : X.A.units + 1 < cLine) (ho : PD X K Ex o to uo) (hi : PD X K Ex i ti ui) (he : PD X K Ex e te ue) (hs : swapsWith e (some (.Subscript o i pos')) pos.line X.env = pure false := by rfl) : SD X K Ex (.Assign [.Subscript o i pos'] e pos) (sDPut to ti te) (uDPut uo ui ue) := ⟨ps_dput hu ho.pe hi.pe he.pe hs, sim_dput ho.sim hi.sim he.sim⟩
theorem d_dc {kx vx iter : Expr} {ifs : List Expr} {scope : Scope} (own : List (Str × Nat)) {wi : TI} {uw : DTI} {tt : TT} {ut : DTT} {tk tv : TE} {uk uv : DTE} (hN : X.N.Nodup) (hi : ID X K Ex tg iter wi uw) (ok : BlkOk X.N X.env.scope scope own)
    (hg : ∀ (s : Shared) (H : Hp) (C : Addr) (cl : List (Str × Addr)) (fp : List Addr), GD (X.blk s H scope (compEnvC scope cl C X.env) fp) K X0 tg g ug) (ht : ∀ (s : Shared) (H : Hp) (C : Addr) (cl : List (Str × Addr)) (fp : List Addr), TsD (X.blk s H scope (compEnvC scope cl C X.env) fp) K X0 ifs tt ut)
    (hk : ∀ (s : Shared) (H : Hp) (C : Addr) (cl : List (Str × Addr)) (fp : List Addr), PD (X.blk s H scope (compEnvC scope cl C X.env) fp) K X0 kx tk uk) (he : ∀ (s : Shared) (H : Hp) (C : Addr) (cl : List (Str × Addr)) (fp : List Addr), PD (X.blk s H scope (compEnvC scope cl C X.env) fp) K X0 vx tv uv)
    (wp : Wip g (own.map (·.2))) (mn : Mono g) (hc : X.calm = true := by rfl) (hs : ∀ x, foldedSetIterable iter X.env x = pure x := by intro _; rfl) :
    PD X K Ex (.DictComp kx vx [⟨tg, iter, ifs, 0⟩] scope pos) (tDc wi g tt tk tv (own.map (·.2))) (uDc uw ug ut uk uv (own.map (·.2))) :=
  ⟨pe_dc hc hN hi.pe ok (fun s H C cl fp => (hg s H C cl fp).pe) (fun s H C cl fp => (ht s H C cl fp).pe) (fun s H C cl fp => (hk s H C cl fp).pe) (fun s H C cl fp => (he s H C cl fp).pe) hs,
    sim_dc hi.sim (hg X.s_0 (fun _ => none) 0 [] []).sim (ht X.s_0 (fun _ => none) 0 [] []).sim (hk X.s_0 (fun _ => none) 0 [] []).sim (he X.s_0 (fun _ => none) 0 [] []).sim wp mn⟩
end
end DX
set_option Elab.async false
set_option linter.all false
set_option maxRecDepth 100000
set_option maxHeartbeats 4000000
namespace DX
open PySem PySem.Spec PyProof.Rows L2
/-! ### sorted ints, [::-1], remove, tuples of ints in order -/
section
variable {K : PySem.W.Frag} {Z : Hp} {as as' as1 : List Addr} {F F' F1 H H' H1 : Hp} {Ex : L2.St → XK}
theorem new_ints {μ : Mem} (M : Mm K Z as F H μ) {ns : List Int} {Q : D → Mem → Prop} {Q' : VK} {p : Addr} (np : H p = none) (q : Q (.lst (ns.map .int)) μ)
    (k : ∀ v d' μ' as' F' H', Gr as F as' F' → Mm K Z as' F' H' μ' → Rep K as' F' v d' → Q d' μ' → Q' v H') : Q' (.ref p) (upd H p (.lst (ns.map V.int))) :=
  have g := Gr.upd (as := as) (o := .lst (ns.map V.int)) (M.newF np)
  k _ _ μ as _ _ g (M.addF np) (.lst upd_same ((rep_ints ns).up g)) q
def dSorted : DC := one fun x μ Q => ∃ ns : List Int, view μ x = .lst (ns.map .int) ∧ ∀ ns' : List Int, ns'.Perm ns → ns'.Pairwise (· ≤ ·) → Q (.lst (ns'.map .int)) μ
theorem sim_sorted : SimC K (rSortedI K) dSorted := simC_one fun Z as F H μ v d Q Q' M r z k => by
  obtain ⟨ns, e, z⟩ := z
  obtain ⟨a, vs, rfl, q, x⟩ := view_lst M r e
  cases ints_rep x
  exact ⟨a, ns, rfl, q, fun ns' p hp ho np => new_ints M np (z ns' hp ho) k⟩
theorem call_sortedA {X : Cx} (hK : X.K = K) : CallR X (.builtin "sorted") (rSortedI K) := hK ▸ cr_sortedI
def uSortKw (b : Bool) (u : DTA) (uk : DTA) : DTE := fun ρ μ Q E => u ρ μ (fun ds μ1 => uk ρ μ1 (fun zs μ2 => zs = [.bl b] ∧ ∃ x, ds = [x] ∧ ∃ ns : List Int, view μ2 x = .lst (ns.map .int) ∧ ∀ ns' : List Int, ns'.Perm ns → OrdB b ns' → Q (.lst (ns'.map .int)) μ2) E) E
theorem sim_sortKw {b : Bool} {t tk : TA} {u uk : DTA} (a : SimA K Ex t u) (c : SimA K Ex tk uk) : Sim K Ex (tCKw (rSortedKw K b [.bl b]) t tk) (uSortKw b u uk) := fun Z as F H σ ρ μ Q E Q' R X h k =>
  a Z as F H σ ρ μ _ E _ R X h fun vs ds μ1 as1 F1 H1 g1 R1 r1 h1 => c Z as1 F1 H1 σ ρ μ1 _ E _ R1 (X.up g1) h1 fun ws zs μ2 as2 F2 H2 g2 R2 r2 h2 => by
    obtain ⟨rfl, x, rfl, ns, e, z⟩ := h2
    cases r1 with
    | cons ra rb =>
      cases rb
      cases r2 with
      | cons rc rd =>
        cases rd
        cases rc
        obtain ⟨p, us, rfl, q, y⟩ := view_lst R2.mm (ra.up g2) e
        cases ints_rep y
        exact ⟨p, ns, rfl, rfl, q, fun ns' p hp ho np => new_ints R2.mm np (z ns' hp ho) fun v d' μ' as' F' H' g M r q => k v d' μ' as' F' H' ((g1.trans g2).trans g) (R2.up g M) r q⟩
def uRev (u : DTE) : DTE := fun ρ μ Q E => u ρ μ (fun x μ1 => ∃ ds, view μ1 x = .lst ds ∧ Q (.lst ds.reverse) μ1) E
theorem sim_rev {t : TE} {u : DTE} (a : Sim K Ex t u) : Sim K Ex (tRevL K t) (uRev u) := fun Z as F H σ ρ μ Q E Q' R X h k =>
  a Z as F H σ ρ μ _ E _ R X h fun v d μ1 as1 F1 H1 g1 R1 r1 h1 => by
    obtain ⟨ds, e, q⟩ := h1
    obtain ⟨p, vs, rfl, hq, x⟩ := view_lst R1.mm r1 e
    refine ⟨p, vs, rfl, hq, fun l nl => ?_⟩
    have g := Gr.upd (as := as1) (o := .lst vs.reverse) (R1.mm.newF nl)
    exact k _ _ μ1 as1 _ _ (g1.trans g) (R1.up g (R1.mm.addF nl)) (.lst upd_same (x.up g).reverse) q
def dRemove : DM := fun x ds μ Q => match x, ds with
  | .ob n, [.int i] => ∃ (ns : List Int) (j : Nat), μ[n]? = some (.lst (ns.map .int)) ∧ ns[j]? = some i ∧ (∀ m : Nat, m < j → ns[m]? ≠ some i) ∧ Q .non (μ.set n (.lst ((ns.eraseIdx j).map .int)))
  | _, _ => False
theorem sim_remove : SimM K rRemI dRemove := fun Z as F H μ v d vs ds Q Q' M r rs z k => by
  unfold dRemove at z
  split at z
  · rename_i n i
    obtain ⟨ns, j, e, e2, e3, q⟩ := z
    cases r
    rename_i a hn
    match vs, rs with
    | _, .cons (.int _) .nil =>
      obtain ⟨b, hb, y⟩ := M.at_ n _ e
      obtain rfl := Option.some.inj (hn.symm.trans hb)
      obtain ⟨us, u1, u2⟩ := y
      cases ints_rep u2
      refine ⟨a, ns, i, j, rfl, rfl, u1, e2, e3, ?_⟩
      exact k _ _ _ as F _ Gr.refl (M.put (m := .lst ((ns.eraseIdx j).map .int)) hn ⟨_, upd_same, rep_ints _⟩) .non q
  · exact z.elim
def dLtT : DR2 := fun x y μ Q => ∃ ns ms : List Int, view μ x = .tup (ns.map .int) ∧ view μ y = .tup (ms.map .int) ∧ Q (.bl (HT.lexLt ns ms)) μ
theorem sim_ltT : SimR K (rLtT K) dLtT := fun Z as F H μ x y d e Q Q' M rx ry z k => by
  obtain ⟨ns, ms, e1, e2, q⟩ := z
  obtain ⟨a, vs, rfl, h1, x1⟩ := view_tup M rx e1
  obtain ⟨b, us, rfl, h2, x2⟩ := view_tup M ry e2
  cases ints_rep x1
  cases ints_rep x2
  exact ⟨a, b, ns, ms, rfl, rfl, h1, h2, k _ _ μ as F H Gr.refl M (.bl _) q⟩
theorem op_ltTA {X : Cx} (hu : X.A.units < cLine) (hK : X.K = K) : OpR X (compareOp .Lt) (rLtT K) := hK ▸ op_ltT hu
end
structure KD (X : Cx) (K : PySem.W.Frag) (Ex : L2.St → XK) (kws : List Keyword) (t : TA) (u : DTA) : Prop where
  pe : PK X kws t
  sim : SimA K Ex t u
section
variable {X : Cx} {K : PySem.W.Frag} {Ex : L2.St → XK} {pos p ps : Pos} {e : Expr} {es : List Expr} {kws : List Keyword} {te : TE} {ue : DTE} {t tk : TA} {u uk : DTA} {x : Str}
theorem k_nil : KD X K Ex [] tNil uNil := ⟨pk_nil, sim_nil⟩
theorem k_cons {nm : Option Str} {kpos : Pos} (h : PD X K Ex e te ue) (r : KD X K Ex kws t u) : KD X K Ex (⟨nm, e, kpos⟩ :: kws) (tCons te t) (uCons ue u) := ⟨pk_cons h.pe r.pe, sim_cons h.sim r.sim⟩
theorem d_rev {k : Nat} {p1 p2 p3 : Pos} (h : PD X K Ex e te ue) (hK : X.K = K := by rfl) : PD X K Ex (.Subscript e (.Slice none none (some (.UnaryOp .USub (.Constant (.int 1) k p1) p2)) p3) pos) (tRevL K te) (uRev ue) := by
  subst hK
  exact ⟨pe_revL h.pe, sim_rev h.sim⟩
theorem d_sortKw {b : Bool} (hm : X.mg "sorted" = none) (ha : AD X K Ex (e :: es) t u) (hk : KD X K Ex kws tk uk) (hK : X.K = K := by rfl) (hg : Gl X "sorted" := by rfl)
    (he : backTo pos (starEach (e :: es) X.env) = (false, eval e X.env) :: backTo pos (starEach es X.env) := by rfl) (hpl : (backTo pos (starEach (e :: es) X.env)).any (·.1) = false := by rfl)
    (hall : (backToKw pos (keywordEach kws X.env)).all (·.1.isSome) = true := by rfl) (hnone : (backToKw pos (keywordEach kws X.env)).any (·.1.isNone) = false := by rfl) (hks : (backToKw pos (keywordEach kws X.env)).filterMap (·.1) = [Str.ofString "reverse"] := by rfl) :
    PD X K Ex (.Call (.Name "sorted" p) (e :: es) kws pos) (tCKw (rSortedKw K b [.bl b]) t tk) (uSortKw b u uk) := by
  subst hK
  exact ⟨pe_callBK cr_sortedRev hg hm (by decide +kernel) ha.pe hk.pe (by decide) (by decide) he hpl hall hnone hks, sim_sortKw ha.sim hk.sim⟩
end
end DX
set_option Elab.async false
set_option linter.all false
set_option maxRecDepth 100000
set_option maxHeartbeats 4000000
namespace DX
open PySem PySem.Spec PyProof.Rows L2
/-! ### xs[i] op= y -/
def rGetN : V → V → Hp → VK → Prop := fun o i H Q => ∃ (p : Addr) (xs : List V) (j : Nat) (z : V), o = .ref p ∧ i = .int (j : Nat) ∧ H p = some (.lst xs) ∧ xs[j]? = some z ∧ Q z H
theorem pget_list {X : Cx} : PGet X rGetN := by
  intro pins s σ H o i ov iv Q I ro ri h
  obtain ⟨p, xs, j, z, rfl, rfl, hp, hz, q⟩ := h
  cases ro
  obtain ⟨t, rfl⟩ := ri
  obtain ⟨its, r, pl, hl⟩ := I.list (SqL.of hp)
  obtain ⟨w, ew, rw'⟩ := r.get hz
  have hn := line63
  have hlen := r.length
  have hj : j < xs.length := (List.getElem?_eq_some_iff.mp hz).1
  refine wpAny_getItem_list pl.isList (by omega) (by omega) (by rw [Int.toNat_natCast]; simpa using ew) ?_
  exact ⟨z, H, I, rw', q⟩
def uAugIx (uo ui ue : DTE) (dr : DR2) : DTS := fun De E ρ μ => uo ρ μ (fun o μ1 => ui ρ μ1 (fun i μ2 => ∃ n j xs d, o = .ob n ∧ i = .int (j : Nat) ∧ μ2[n]? = some (.lst xs) ∧ xs[j]? = some d ∧ ue ρ μ2 (fun y μ3 => dr d y μ3 fun z μ4 => ∃ ys, μ4[n]? = some (.lst ys) ∧ j < ys.length ∧ De.nx ρ (μ4.set n (.lst (ys.set j z)))) E) E) E
section
variable {K : PySem.W.Frag} {Z : Hp} {as as' as1 : List Addr} {F F' F1 H H' H1 : Hp} {Ex : L2.St → XK}
theorem lst_at {μ : Mem} (M : Mm K Z as F H μ) {v : V} {n : Nat} {ds : List D} (r : Rep K as F v (.ob n)) (h : μ[n]? = some (.lst ds)) : ∃ a vs, v = .ref a ∧ as[n]? = some a ∧ H a = some (.lst vs) ∧ RepL K as F vs ds := by
  cases r
  rename_i a q
  obtain ⟨b, hb, y⟩ := M.at_ n _ h
  obtain rfl := Option.some.inj (q.symm.trans hb)
  obtain ⟨vs, e1, e2⟩ := y
  exact ⟨a, vs, rfl, q, e1, e2⟩
theorem sim_augIx {to ti te : TE} {uo ui ue : DTE} {r : TIp} {dr : DR2} (a : Sim K Ex to uo) (b : Sim K Ex ti ui) (c : Sim K Ex te ue) (s : SimR K r dr) : SimS K Ex (tAugS to ti te rGetN r rSetL) (uAugIx uo ui ue dr) := fun Z as F H σ ρ μ De E D' R X h kn kr kb kc =>
  a Z as F H σ ρ μ _ E _ R X h fun v1 d1 μ1 as1 F1 H1 g1 R1 r1 h1 => b Z as1 F1 H1 σ ρ μ1 _ E _ R1 (X.up g1) h1 fun v2 d2 μ2 as2 F2 H2 g2 R2 r2 h2 => by
    obtain ⟨n, j, xs, d, rfl, rfl, e1, e2, h3⟩ := h2
    obtain ⟨p, vs, rfl, hn, hp, x⟩ := lst_at R2.mm (r1.up g2) e1
    obtain ⟨w, w1, w2⟩ := x.get e2
    cases r2
    refine ⟨p, vs, j, w, rfl, rfl, hp, w1, c Z as2 F2 H2 σ ρ μ2 _ E _ R2 (X.up (g1.trans g2)) h3 fun v3 d3 μ3 as3 F3 H3 g3 R3 r3 h4 => ?_⟩
    refine s Z as3 F3 H3 μ3 w v3 d d3 _ _ R3.mm (w2.up g3) r3 h4 fun v4 d4 μ4 as4 F4 H4 g4 M4 r4 h5 => ?_
    obtain ⟨ys, e5, hj, q⟩ := h5
    have r1' : Rep K as4 F4 (.ref p) (.ob n) := ((r1.up g2).up g3).up g4
    obtain ⟨p', us, ep, hn4, hp4, x4⟩ := lst_at M4 r1' e5
    cases ep
    refine ⟨p, us, (j : Int), j, rfl, rfl, hp4, ixN_nat (by rw [x4.len]; exact hj), ?_⟩
    exact kn σ ρ _ as4 F4 _ (((g1.trans g2).trans g3).trans g4) ⟨M4.put (m := .lst (ys.set j d4)) hn4 ⟨_, upd_same, x4.set r4 j⟩, R3.env.up g4⟩ q
end
section
variable {X : Cx} {K : PySem.W.Frag} {Ex : L2.St → XK} {pos tpos : Pos} {o i e : Expr} {to ti te : TE} {uo ui ue : DTE} {op : Operator} {r : TIp} {dr : DR2}
theorem s_augIx (ho : PD X K Ex o to uo) (hi : PD X K Ex i ti ui) (he : PD X K Ex e te ue) (hp : PIp X op r) (s : SimR K r dr) (ha : ∀ ov iv new, augStore i ov iv new = (do holding [new, ov, iv] (setItem ov iv new); release [new, ov, iv] []; pure .next) := by intros; rfl) :
    SD X K Ex (.AugAssign (.Subscript o i tpos) op e pos) (tAugS to ti te rGetN r rSetL) (uAugIx uo ui ue dr) := ⟨ps_augS ho.pe hi.pe pget_list he.pe hp set_list ha, sim_augIx ho.sim hi.sim he.sim s⟩
end
end DX
set_option Elab.async false
set_option linter.all false
set_option maxRecDepth 100000
set_option maxHeartbeats 4000000
namespace DX
open PySem PySem.Spec PyProof.Rows L2
/-! ### list(range(n)) -/
def uLstRg (u : DTE) : DTE := fun ρ μ Q E => u ρ μ (fun x μ1 => ∃ n : Int, x = .int n ∧ -(2 ^ 62) ≤ n ∧ n ≤ 2 ^ 24 ∧ Q (.lst (dints 0 n.toNat)) μ1) E
theorem dints_map : ∀ (n : Nat) (lo : Int), dints lo n = (List.range n).map fun (i : Nat) => D.int (lo + (i : Int))
  | 0, _ => rfl
  | n + 1, lo => by
    rw [List.range_succ_eq_map, List.map_cons, List.map_map]
    show D.int lo :: dints (lo + 1) n = _
    rw [dints_map n (lo + 1)]
    congr 1
    · simp
    · refine List.map_congr_left fun i _ => ?_
      show D.int _ = D.int _
      congr 1
      show lo + 1 + (i : Int) = lo + ((i + 1 : Nat) : Int)
      omega
theorem sim_lstRg {K : PySem.W.Frag} {Ex : L2.St → XK} {t : TE} {u : DTE} (a : Sim K Ex t u) : Sim K Ex (tLstRg (tRg1 t)) (uLstRg u) := fun Z as F H σ ρ μ Q E Q' R X h k =>
  a Z as F H σ ρ μ _ E _ R X h fun v d μ1 as1 F1 H1 g1 R1 r1 h1 => by
    obtain ⟨n, rfl, h2, h3, q⟩ := h1
    cases r1
    refine ⟨n, rfl, ⟨by omega, by omega, h2, by omega, by omega⟩, fun p np => ?_⟩
    have g := Gr.upd (as := as1) (o := .lst (rgV 0 n)) (R1.mm.newF np)
    have x : RepL K as1 F1 (rgV 0 n) (dints 0 n.toNat) := by
      unfold rgV
      rw [Int.sub_zero, dints_map]
      exact (List.range n.toNat).rec (motive := fun l => RepL K as1 F1 (l.map fun i => V.int (0 + (i : Nat))) (l.map fun (i : Nat) => D.int (0 + (i : Int)))) .nil fun i l ih => .cons (.int _) ih
    exact k _ _ μ1 as1 _ _ (g1.trans g) (R1.up g (R1.mm.addF np)) (.lst upd_same (x.up g)) q
theorem d_lstRg {X : Cx} {K : PySem.W.Frag} {Ex : L2.St → XK} {p p2 pos pos2 : Pos} {a : Expr} {t : TE} {u : DTE} (hm : X.mg "list" = none) (hm2 : X.mg "range" = none) (h : PD X K Ex a t u) (hc : X.calm = true := by rfl) (hg : Gl X "list" := by rfl) (hg2 : Gl X "range" := by rfl)
    (na : starEach [a] X.env = (false, eval a X.env) :: starEach [] X.env := by rfl) (nb : starEach [.Call (.Name "range" p2) [a] [] pos2] X.env = (false, eval (.Call (.Name "range" p2) [a] [] pos2) X.env) :: starEach [] X.env := by rfl) :
    PD X K Ex (.Call (.Name "list" p) [.Call (.Name "range" p2) [a] [] pos2] [] pos) (tLstRg (tRg1 t)) (uLstRg u) := ⟨pe_listRg hc hg hm (prg_1 hg2 hm2 h.pe na) nb, sim_lstRg h.sim⟩
end DX
set_option Elab.async false
set_option linter.all false
set_option maxRecDepth 100000
set_option maxHeartbeats 4000000
namespace DX
open PySem PySem.Spec PyProof.Rows L2
/-! ### x = {k: v for ..} -/
section
variable {X : Cx}
theorem ps_setDc {i : Nat} {y : Str} {py : Pos} {kx vx tg iter : Expr} {ifs : List Expr} {scope : Scope} {own : List (Str × Nat)} {pos spos : Pos} {wi : TI} {g : TG} {tt : TT} {tk tv : TE} (hc : X.calm = true) (hN : X.N.Nodup) (hy : X.N[i]? = some y) (hyl : X.env.scope.names.lookup y = some .local)
    (hsw : swapsWith (.DictComp kx vx [⟨tg, iter, ifs, 0⟩] scope pos) (some (.Name y py)) spos.line X.env = pure true) (hi : PI X tg iter wi) (ok : BlkOk X.N X.env.scope scope own)
    (hg : ∀ (s : Shared) (H : Hp) (C : Addr) (cl : List (Str × Addr)) (fp : List Addr), PG (X.blk s H scope (compEnvC scope cl C X.env) fp) tg g) (ht : ∀ (s : Shared) (H : Hp) (C : Addr) (cl : List (Str × Addr)) (fp : List Addr), PTs (X.blk s H scope (compEnvC scope cl C X.env) fp) ifs tt)
    (hk : ∀ (s : Shared) (H : Hp) (C : Addr) (cl : List (Str × Addr)) (fp : List Addr), PE (X.blk s H scope (compEnvC scope cl C X.env) fp) kx tk)
    (he : ∀ (s : Shared) (H : Hp) (C : Addr) (cl : List (Str × Addr)) (fp : List Addr), PE (X.blk s H scope (compEnvC scope cl C X.env) fp) vx tv) (hs : ∀ x, foldedSetIterable iter X.env x = pure x := by intro _; rfl) :
    PS X (.Assign [.Name y py] (.DictComp kx vx [⟨tg, iter, ifs, 0⟩] scope pos) spos) (tAsg (tDc wi g tt tk tv (own.map (·.2))) (gName i)) := by
  refine ⟨fun pins s σ H D I h => ?_⟩
  rw [exec_Assign_Name_used _ _ _ _ hsw]
  refine wpAny_bind (wpAny_standAt (wpAny_bind ?_))
  show wpAny _ X.A (do let _ ← comprehension (.DictComp kx vx [⟨tg, iter, ifs, 0⟩] scope pos) scope X.env (firstIterPos [⟨tg, iter, ifs, 0⟩] pos) newDict false (eval iter X.env) (some (assign (.Name y py) X.env))) _ _ s
  have h : tDc wi g tt tk tv (own.map (·.2)) σ H (fun x H1 => gName i x σ H1 D.nx) := h
  refine wpAny_bind (thn (dc_core (Qf := fun _ s' => SP X pins D .next s') hc hN I hi ok hg ht hk he hs h fun L C s' m H' I' q hn f => ?_) fun _ s' hq => wpAny_pure (wpAny_pure hq))
  show wpAny _ _ (assign (.Name y py) X.env (.ref L)) _ _ _
  refine wpAny_assign_Name (store_ok2 (v := V.ref L) I' hN hy (.inl hyl) rfl (fun s2 I2 ⟨a, sb, ha⟩ => ?_) (.inr hyl))
  obtain ⟨f0, f1, f2, f3, f4, f5⟩ := f
  have haC : C ≠ a := by
    rcases ha with z | z
    · rw [z]; exact f1
    · exact fun e => f4 y a z e.symm
  refine ⟨m, hn.sameBut sb haC, fun h3 sb3 => ?_⟩
  exact ⟨_, H', I2.turned (t' := s2.toks) (fun b o hb e => (sb3.2 b hb).trans e) f0 f1 f3 f4 f5, q⟩
theorem sw_trueD {kx vx : Expr} {gs : List Comprehension} {scope : Scope} {pos py : Pos} {y : Str} {l : Nat} {env : Env} (hk : env.scope.kind = .function) (hy : env.scope.names.lookup y = some .local) (hl : (py.line == pos.line) = true)
    (ha : (scope.names.any fun (n, k) => n == y && (k == .local || k == .cell)) = false) : swapsWith (.DictComp kx vx gs scope pos) (some (.Name y py)) l env = pure true := by
  have ky : env.kindOf y = some .local := hy
  have hb : env.blockKind = .function := by unfold Env.blockKind; rw [hk]; rfl
  unfold swapsWith
  simp only [hb, ky, ha, Expr.pos, hl]
  rfl
end
section
variable {X : Cx} {K : PySem.W.Frag} {Ex : L2.St → XK} {pos py spos : Pos} {tg : Expr} {g : TG} {ug : DTG}
theorem s_setDc (i : Nat) {y : Str} {kx vx iter : Expr} {ifs : List Expr} {scope : Scope} (own : List (Str × Nat)) {wi : TI} {uw : DTI} {tt : TT} {ut : DTT} {tk tv : TE} {uk uv : DTE} (hN : X.N.Nodup) (hi : ID X K Ex tg iter wi uw) (ok : BlkOk X.N X.env.scope scope own)
    (hg : ∀ (s : Shared) (H : Hp) (C : Addr) (cl : List (Str × Addr)) (fp : List Addr), GD (X.blk s H scope (compEnvC scope cl C X.env) fp) K X0 tg g ug) (ht : ∀ (s : Shared) (H : Hp) (C : Addr) (cl : List (Str × Addr)) (fp : List Addr), TsD (X.blk s H scope (compEnvC scope cl C X.env) fp) K X0 ifs tt ut)
    (hk : ∀ (s : Shared) (H : Hp) (C : Addr) (cl : List (Str × Addr)) (fp : List Addr), PD (X.blk s H scope (compEnvC scope cl C X.env) fp) K X0 kx tk uk) (he : ∀ (s : Shared) (H : Hp) (C : Addr) (cl : List (Str × Addr)) (fp : List Addr), PD (X.blk s H scope (compEnvC scope cl C X.env) fp) K X0 vx tv uv)
    (wp : Wip g (own.map (·.2))) (mn : Mono g) (hsw : swapsWith (.DictComp kx vx [⟨tg, iter, ifs, 0⟩] scope pos) (some (.Name y py)) spos.line X.env = pure true)
    (hyl : X.env.scope.names.lookup y = some .local := by rfl) (hy : X.N[i]? = some y := by rfl) (hc : X.calm = true := by rfl) (hs : ∀ x, foldedSetIterable iter X.env x = pure x := by intro _; rfl) :
    SD X K Ex (.Assign [.Name y py] (.DictComp kx vx [⟨tg, iter, ifs, 0⟩] scope pos) spos) (tAsg (tDc wi g tt tk tv (own.map (·.2))) (gName i)) (uAsg (uDc uw ug ut uk uv (own.map (·.2))) (uGName i)) :=
  ⟨ps_setDc hc hN hy hyl hsw hi.pe ok (fun s H C cl fp => (hg s H C cl fp).pe) (fun s H C cl fp => (ht s H C cl fp).pe) (fun s H C cl fp => (hk s H C cl fp).pe) (fun s H C cl fp => (he s H C cl fp).pe) hs,
    sim_asg (sim_dc hi.sim (hg X.s_0 (fun _ => none) 0 [] []).sim (ht X.s_0 (fun _ => none) 0 [] []).sim (hk X.s_0 (fun _ => none) 0 [] []).sim (he X.s_0 (fun _ => none) 0 [] []).sim wp mn) (sim_gName i)⟩
end
end DX
set_option Elab.async false
set_option linter.all false
set_option maxRecDepth 100000
namespace Toy
open PySem PySem.Spec PyProof.Rows L2
def topS (i : Nat) : Stmt := PySem.Challenge.pw_trustedpages_k61_whole_no_cleanings_save.main.body.getD i (.Pass ⟨0, 0, 0, 0⟩)
abbrev s_wall : Stmt := topS 0
theorem sc_wall : FnScope ["k"] ["k"] (defScope s_wall) := ⟨rfl, rfl, rfl, by decide +kernel, rfl, by decide +kernel, by decide +kernel⟩
abbrev s_BadBytes_init : Stmt := inClass (topS 3) 0
theorem sc_BadBytes_init : FnScope ["self", "at"] ["self", "at"] (defScope s_BadBytes_init) := ⟨rfl, rfl, rfl, by decide +kernel, rfl, by decide +kernel, by decide +kernel⟩
abbrev s_BadMarks_init : Stmt := inClass (topS 4) 0
theorem sc_BadMarks_init : FnScope ["self", "at"] ["self", "at"] (defScope s_BadMarks_init) := ⟨rfl, rfl, rfl, by decide +kernel, rfl, by decide +kernel, by decide +kernel⟩
abbrev s_BadDeed_init : Stmt := inClass (topS 5) 0
theorem sc_BadDeed_init : FnScope ["self", "index"] ["self", "index"] (defScope s_BadDeed_init) := ⟨rfl, rfl, rfl, by decide +kernel, rfl, by decide +kernel, by decide +kernel⟩
abbrev s_is_whole : Stmt := topS 7
theorem sc_is_whole : FnScope ["value"] ["value"] (defScope s_is_whole) := ⟨rfl, rfl, rfl, by decide +kernel, rfl, by decide +kernel, by decide +kernel⟩
abbrev s_is_between : Stmt := topS 8
theorem sc_is_between : FnScope ["value", "low", "high"] ["value", "low", "high"] (defScope s_is_between) := ⟨rfl, rfl, rfl, by decide +kernel, rfl, by decide +kernel, by decide +kernel⟩
abbrev s_is_one_of : Stmt := topS 9
theorem sc_is_one_of : FnScope ["value", "known"] ["value", "known"] (defScope s_is_one_of) := ⟨rfl, rfl, rfl, by decide +kernel, rfl, by decide +kernel, by decide +kernel⟩
abbrev s_is_page : Stmt := topS 12
theorem sc_is_page : FnScope ["marks", "value"] ["marks", "value"] (defScope s_is_page) := ⟨rfl, rfl, rfl, by decide +kernel, rfl, by decide +kernel, by decide +kernel⟩
abbrev s_check_deeds : Stmt := topS 13
theorem sc_check_deeds : FnScope ["deeds", "marks", "index", "deed"] ["deeds", "marks"] (defScope s_check_deeds) := ⟨rfl, rfl, rfl, by decide +kernel, rfl, by decide +kernel, by decide +kernel⟩
abbrev s_is_cleaning : Stmt := topS 14
theorem sc_is_cleaning : FnScope ["deeds", "marks", "value"] ["deeds", "marks", "value"] (defScope s_is_cleaning) := ⟨rfl, rfl, rfl, by decide +kernel, rfl, by decide +kernel, by decide +kernel⟩
abbrev s_looks : Stmt := topS 15
theorem sc_looks : FnScope ["deeds", "marks", "cleanings", "now", "number", "index", "word", "page", "gap", "cleaned", "cleaning"] ["deeds", "marks", "cleanings"] (defScope s_looks) := ⟨rfl, rfl, rfl, by decide +kernel, rfl, by decide +kernel, by decide +kernel⟩
abbrev s_bursts : Stmt := topS 16
theorem sc_bursts : FnScope ["deeds", "marks", "bursts", "latest", "page", "bare", "index", "word"] ["deeds", "marks"] (defScope s_bursts) := ⟨rfl, rfl, rfl, by decide +kernel, rfl, by decide +kernel, by decide +kernel⟩
abbrev s_descending : Stmt := topS 17
theorem sc_descending : FnScope ["bursts", "burst"] ["bursts"] (defScope s_descending) := ⟨rfl, rfl, rfl, by decide +kernel, rfl, by decide +kernel, by decide +kernel⟩
abbrev s_least_looks : Stmt := topS 18
theorem sc_least_looks : FnScope ["deeds", "marks", "many", "bursts", "numbers", "spared", "cleanings", "gap", "page", "number"] ["deeds", "marks", "many"] (defScope s_least_looks) := ⟨rfl, rfl, rfl, by decide +kernel, rfl, by decide +kernel, by decide +kernel⟩
abbrev s_saved : Stmt := topS 19
theorem sc_saved : FnScope ["deeds", "marks", "numbers", "many"] ["deeds", "marks"] (defScope s_saved) := ⟨rfl, rfl, rfl, by decide +kernel, rfl, by decide +kernel, by decide +kernel⟩
abbrev s_Made_init : Stmt := inClass (topS 22) 0
theorem sc_Made_init : FnScope ["self", "flags"] ["self", "flags"] (defScope s_Made_init) := ⟨rfl, rfl, rfl, by decide +kernel, rfl, by decide +kernel, by decide +kernel⟩
abbrev s_pairs : Stmt := topS 23
theorem sc_pairs : FnScope ["one", "other", "k"] ["one", "other"] (defScope s_pairs) := ⟨rfl, rfl, rfl, by decide +kernel, rfl, by decide +kernel, by decide +kernel⟩
abbrev s_either : Stmt := topS 24
theorem sc_either : FnScope ["one", "other", "a", "b"] ["one", "other"] (defScope s_either) := ⟨rfl, rfl, rfl, by decide +kernel, rfl, by decide +kernel, by decide +kernel⟩
abbrev s_both : Stmt := topS 25
theorem sc_both : FnScope ["one", "other", "a", "b"] ["one", "other"] (defScope s_both) := ⟨rfl, rfl, rfl, by decide +kernel, rfl, by decide +kernel, by decide +kernel⟩
abbrev s_Marks_init : Stmt := inClass (topS 26) 0
theorem sc_Marks_init : FnScope ["self", "many"] ["self", "many"] (defScope s_Marks_init) := ⟨rfl, rfl, rfl, by decide +kernel, rfl, by decide +kernel, by decide +kernel⟩
abbrev s_Marks_read : Stmt := inClass (topS 26) 1
theorem sc_Marks_read : FnScope ["many", "data", "marks", "number", "k"] ["many", "data"] (defScope s_Marks_read) := ⟨rfl, rfl, rfl, by decide +kernel, rfl, by decide +kernel, by decide +kernel⟩
abbrev s_Marks_raw : Stmt := inClass (topS 26) 2
theorem sc_Marks_raw : FnScope ["self"] ["self"] (defScope s_Marks_raw) := ⟨rfl, rfl, rfl, by decide +kernel, rfl, by decide +kernel, by decide +kernel⟩
abbrev s_Marks_pages : Stmt := inClass (topS 26) 3
theorem sc_Marks_pages : FnScope ["self", "k", "flag"] ["self"] (defScope s_Marks_pages) := ⟨rfl, rfl, rfl, by decide +kernel, rfl, by decide +kernel, by decide +kernel⟩
abbrev s_Marks_twin : Stmt := inClass (topS 26) 4
theorem sc_Marks_twin : FnScope ["self"] ["self"] (defScope s_Marks_twin) := ⟨rfl, rfl, rfl, by decide +kernel, rfl, by decide +kernel, by decide +kernel⟩
abbrev s_Marks_len : Stmt := inClass (topS 26) 5
theorem sc_Marks_len : FnScope ["self"] ["self"] (defScope s_Marks_len) := ⟨rfl, rfl, rfl, by decide +kernel, rfl, by decide +kernel, by decide +kernel⟩
abbrev s_Marks_iter : Stmt := inClass (topS 26) 6
theorem sc_Marks_iter : FnScope ["self"] ["self"] (defScope s_Marks_iter) := ⟨rfl, rfl, rfl, by decide +kernel, rfl, by decide +kernel, by decide +kernel⟩
abbrev s_Marks_getitem : Stmt := inClass (topS 26) 7
theorem sc_Marks_getitem : FnScope ["self", "at"] ["self", "at"] (defScope s_Marks_getitem) := ⟨rfl, rfl, rfl, by decide +kernel, rfl, by decide +kernel, by decide +kernel⟩
abbrev s_Marks_setitem : Stmt := inClass (topS 26) 8
theorem sc_Marks_setitem : FnScope ["self", "at", "value"] ["self", "at", "value"] (defScope s_Marks_setitem) := ⟨rfl, rfl, rfl, by decide +kernel, rfl, by decide +kernel, by decide +kernel⟩
abbrev s_Marks_or : Stmt := inClass (topS 26) 9
theorem sc_Marks_or : FnScope ["self", "other"] ["self", "other"] (defScope s_Marks_or) := ⟨rfl, rfl, rfl, by decide +kernel, rfl, by decide +kernel, by decide +kernel⟩
abbrev s_Marks_and : Stmt := inClass (topS 26) 10
theorem sc_Marks_and : FnScope ["self", "other"] ["self", "other"] (defScope s_Marks_and) := ⟨rfl, rfl, rfl, by decide +kernel, rfl, by decide +kernel, by decide +kernel⟩
abbrev s_Marks_ior : Stmt := inClass (topS 26) 11
theorem sc_Marks_ior : FnScope ["self", "other"] ["self", "other"] (defScope s_Marks_ior) := ⟨rfl, rfl, rfl, by decide +kernel, rfl, by decide +kernel, by decide +kernel⟩
abbrev s_Marks_iand : Stmt := inClass (topS 26) 12
theorem sc_Marks_iand : FnScope ["self", "other"] ["self", "other"] (defScope s_Marks_iand) := ⟨rfl, rfl, rfl, by decide +kernel, rfl, by decide +kernel, by decide +kernel⟩
abbrev s_Marks_eq : Stmt := inClass (topS 26) 13
theorem sc_Marks_eq : FnScope ["self", "other"] ["self", "other"] (defScope s_Marks_eq) := ⟨rfl, rfl, rfl, by decide +kernel, rfl, by decide +kernel, by decide +kernel⟩
abbrev s_Marks_le : Stmt := inClass (topS 26) 14
theorem sc_Marks_le : FnScope ["self", "other", "a", "b"] ["self", "other"] (defScope s_Marks_le) := ⟨rfl, rfl, rfl, by decide +kernel, rfl, by decide +kernel, by decide +kernel⟩
abbrev s_law_pool : Stmt := topS 28
theorem sc_law_pool : FnScope ["script", "k", "cell", "seed"] ["script", "k"] (defScope s_law_pool) := ⟨rfl, rfl, rfl, by decide +kernel, rfl, by decide +kernel, by decide +kernel⟩
abbrev s_law_take : Stmt := topS 29
theorem sc_law_take : FnScope ["pool", "many", "digit"] ["pool", "many"] (defScope s_law_take) := ⟨rfl, rfl, rfl, by decide +kernel, rfl, by decide +kernel, by decide +kernel⟩
abbrev s_law_deeds : Stmt := topS 30
theorem sc_law_deeds : FnScope ["pool", "many", "marks", "kept", "page", "deeds", "k"] ["pool"] (defScope s_law_deeds) := ⟨rfl, rfl, rfl, by decide +kernel, rfl, by decide +kernel, by decide +kernel⟩
abbrev s_law_worths : Stmt := topS 31
theorem sc_law_worths : FnScope ["deeds", "kept", "found", "page", "many", "is_set", "deed"] ["deeds", "kept"] (defScope s_law_worths) := ⟨rfl, rfl, rfl, by decide +kernel, rfl, by decide +kernel, by decide +kernel⟩
abbrev s_law_right : Stmt := topS 32
theorem sc_law_right : FnScope ["pool", "deeds", "marks", "kept", "handed", "found", "worths_here", "many", "one", "two", "writes", "at", "turn", "cleanings", "page", "k"] ["pool", "deeds", "marks", "kept"] (defScope s_law_right) := ⟨rfl, rfl, rfl, by decide +kernel, rfl, by decide +kernel, by decide +kernel⟩
abbrev s_law : Stmt := topS 33
theorem sc_law : FnScope ["script", "k", "pool", "deeds", "marks", "kept"] ["script"] (defScope s_law) := ⟨rfl, rfl, rfl, by decide +kernel, rfl, by decide +kernel, by decide +kernel⟩
end Toy
set_option Elab.async false
set_option linter.all false
set_option maxRecDepth 100000
set_option maxHeartbeats 4000000
namespace Toy
open PySem PySem.Spec PyProof.Rows L2 DX
abbrev spLaw := DX.spLaw
structure Wd (P : Program) (w : World) (K : PySem.W.Frag) (mg : Str → Option Value) (base : Heap) where
  C_Made : Addr
  c_Made : ClsF K mg "Made" C_Made
  C_Marks : Addr
  c_Marks : ClsF K mg "Marks" C_Marks
  f_is_whole : Addr
  fd_is_whole : FuncData
  t_is_whole : TopF K mg "is_whole" "is_whole" s_is_whole f_is_whole fd_is_whole ["value"]
  f_is_between : Addr
  fd_is_between : FuncData
  t_is_between : TopF K mg "is_between" "is_between" s_is_between f_is_between fd_is_between ["value", "low", "high"]
  f_is_one_of : Addr
  fd_is_one_of : FuncData
  t_is_one_of : TopF K mg "is_one_of" "is_one_of" s_is_one_of f_is_one_of fd_is_one_of ["value", "known"]
  f_Marks_len : Addr
  fd_Marks_len : FuncData
  t_Marks_len : MetF K C_Marks "__len__" "Marks.__len__" s_Marks_len f_Marks_len fd_Marks_len ["self"]
  f_is_page : Addr
  fd_is_page : FuncData
  t_is_page : TopF K mg "_is_page" "_is_page" s_is_page f_is_page fd_is_page ["marks", "value"]
  f_check_deeds : Addr
  fd_check_deeds : FuncData
  t_check_deeds : TopF K mg "_check_deeds" "_check_deeds" s_check_deeds f_check_deeds fd_check_deeds ["deeds", "marks"]
  f_is_cleaning : Addr
  fd_is_cleaning : FuncData
  t_is_cleaning : TopF K mg "_is_cleaning" "_is_cleaning" s_is_cleaning f_is_cleaning fd_is_cleaning ["deeds", "marks", "value"]
  f_Made_init : Addr
  fd_Made_init : FuncData
  t_Made_init : MetF K C_Made "__init__" "Made.__init__" s_Made_init f_Made_init fd_Made_init ["self", "flags"]
  f_Marks_init : Addr
  fd_Marks_init : FuncData
  t_Marks_init : MetF K C_Marks "__init__" "Marks.__init__" s_Marks_init f_Marks_init fd_Marks_init ["self", "many"]
  f_Marks_twin : Addr
  fd_Marks_twin : FuncData
  t_Marks_twin : MetF K C_Marks "twin" "Marks.twin" s_Marks_twin f_Marks_twin fd_Marks_twin ["self"]
  f_Marks_getitem : Addr
  fd_Marks_getitem : FuncData
  t_Marks_getitem : MetF K C_Marks "__getitem__" "Marks.__getitem__" s_Marks_getitem f_Marks_getitem fd_Marks_getitem ["self", "at"]
  f_Marks_setitem : Addr
  fd_Marks_setitem : FuncData
  t_Marks_setitem : MetF K C_Marks "__setitem__" "Marks.__setitem__" s_Marks_setitem f_Marks_setitem fd_Marks_setitem ["self", "at", "value"]
  f_looks : Addr
  fd_looks : FuncData
  t_looks : TopF K mg "looks" "looks" s_looks f_looks fd_looks ["deeds", "marks", "cleanings"]
  f_bursts : Addr
  fd_bursts : FuncData
  t_bursts : TopF K mg "_bursts" "_bursts" s_bursts f_bursts fd_bursts ["deeds", "marks"]
  f_descending : Addr
  fd_descending : FuncData
  t_descending : TopF K mg "_descending" "_descending" s_descending f_descending fd_descending ["bursts"]
  f_least_looks : Addr
  fd_least_looks : FuncData
  t_least_looks : TopF K mg "least_looks" "least_looks" s_least_looks f_least_looks fd_least_looks ["deeds", "marks", "many"]
  f_saved : Addr
  fd_saved : FuncData
  t_saved : TopF K mg "saved" "saved" s_saved f_saved fd_saved ["deeds", "marks"]
  f_law_pool : Addr
  fd_law_pool : FuncData
  t_law_pool : TopF K mg "_law_pool" "_law_pool" s_law_pool f_law_pool fd_law_pool ["script", "k"]
  f_law_take : Addr
  fd_law_take : FuncData
  t_law_take : TopF K mg "_law_take" "_law_take" s_law_take f_law_take fd_law_take ["pool", "many"]
  f_law_deeds : Addr
  fd_law_deeds : FuncData
  t_law_deeds : TopF K mg "_law_deeds" "_law_deeds" s_law_deeds f_law_deeds fd_law_deeds ["pool"]
  f_law_worths : Addr
  fd_law_worths : FuncData
  t_law_worths : TopF K mg "_law_worths" "_law_worths" s_law_worths f_law_worths fd_law_worths ["deeds", "kept"]
  f_law_right : Addr
  fd_law_right : FuncData
  t_law_right : TopF K mg "_law_right" "_law_right" s_law_right f_law_right fd_law_right ["pool", "deeds", "marks", "kept"]
  f_law : Addr
  fd_law : FuncData
  t_law : TopF K mg "law" "law" s_law f_law fd_law ["script"]
  n_Made_flags : NoAttr K C_Made "flags"
  n_Marks_flags : NoAttr K C_Marks "_flags"
  gi_Marks : GetI K C_Marks f_Marks_getitem
  g_MOST_PAGES : GlobC K mg "MOST_PAGES" (V.int 64) (D.int 64)
  T_WORDS : Addr
  g_WORDS : GlobC K mg "WORDS" (V.ref T_WORDS) (D.kt [.str (Str.ofString "write"), .str (Str.ofString "read")])
  z_all : mg "all" = none
  z_bool : mg "bool" = none
  z_enumerate : mg "enumerate" = none
  z_int : mg "int" = none
  z_isinstance : mg "isinstance" = none
  z_len : mg "len" = none
  z_list : mg "list" = none
  z_max : mg "max" = none
  z_min : mg "min" = none
  z_range : mg "range" = none
  z_sorted : mg "sorted" = none
  z_str : mg "str" = none
  z_sum : mg "sum" = none
  z_tuple : mg "tuple" = none
  ln_Marks : LenI K C_Marks f_Marks_len
  mk_Made : Mk K C_Made f_Made_init
  mk_Marks : Mk K C_Marks f_Marks_init
  si_Marks : SetI K C_Marks f_Marks_setitem
  X_BadDeed : Addr
  fi_BadDeed : Addr
  fdi_BadDeed : FuncData
  e_BadDeed : ErrD P w K mg base "BadDeed" "index" X_BadDeed fi_BadDeed fdi_BadDeed
  X_BadMarks : Addr
  fi_BadMarks : Addr
  fdi_BadMarks : FuncData
  e_BadMarks : ErrD P w K mg base "BadMarks" "at" X_BadMarks fi_BadMarks fdi_BadMarks

section
variable {P : Program} {w : World} {K : PySem.W.Frag} {mg : Str → Option Value} {base : Heap}
variable (W : Wd P w K mg base)
def wholeB (μ : Mem) (x : D) : Option Bool := match tyOf μ x with
  | some (.own _) => none
  | some t => some (tyIs t .int && !tyIs t .bl)
  | none => none
theorem whole_cases {μ : Mem} {x : D} {b : Bool} (h : wholeB μ x = some b) : ∃ t, tyOf μ x = some t ∧ (∀ C, t ≠ .own C) ∧ b = (tyIs t .int && !tyIs t .bl) := by
  unfold wholeB at h
  cases e : tyOf μ x with
  | none => rw [e] at h; cases h
  | some t =>
    rw [e] at h
    cases t with
    | own C => cases h
    | _ => cases h; exact ⟨_, rfl, (by intro C z; cases z), rfl⟩

def S_is_whole (_ : Wd P w K mg base) : DSp := fun ds μ Q _ => match ds with
  | [x] => ∃ b, wholeB μ x = some b ∧ Q (.bl b) μ
  | _ => False

theorem ok_is_whole (W : Wd P w K mg base) : FnD P w K mg base 2 W.f_is_whole (S_is_whole W) := by
  refine (okB W.t_is_whole.d sc_is_whole (by (intro ds μ Q E h; unfold S_is_whole at h; split at h <;> first | rfl | exact h.elim)) _ (fun cdv A outer s H E' g hr => ⟨_, (b_one (s_ret (d_and (d_isB .int (by intro _ z; cases z) rfl W.z_isinstance W.z_int (d_var 0)) (d_one (d_not (d_isB .bl (by intro _ z; cases z) rfl W.z_isinstance W.z_bool (d_var 0)))))))⟩) (fun ds μ Q E h => ?_)).fn0 W.t_is_whole.b
  unfold S_is_whole at h
  split at h
  · rename_i x
    obtain ⟨b, hb, q⟩ := h
    obtain ⟨t, ht, ho, rfl⟩ := whole_cases hb
    rw [show startD ["value"] [x] = [some x] from rfl]
    simp (maxSteps := 4000000) only [DX.at_r0, DX.set_r0, DX.putD_nil, DX.putD_hd, DX.look_hd, DX.atI_nat, DX.at0, DX.at1, DX.at2, DX.at3, DX.eqok_int, DX.eqok_str, DX.eqok_bl, DX.deqv_int, DX.deqv_str, DX.deqv_bl, DX.uMakeM, DX.uMakeF, DX.uMakeSF, DX.uProp, DX.uGName, DX.uGNil, DX.uGCons, DX.uGTup, DX.uGSet, DX.uAsg, DX.uDrop, DX.uRet, DX.uRetN, DX.uNext, DX.uBreak, DX.uCont, DX.uNever, DX.uSeq, DX.uIfS, DX.uCut, DX.uAug, DX.uSetF, DX.uISeq, DX.uIRng1, DX.uIRng2, DX.uFor, DX.uWhile, DX.uLc, DX.uYes, DX.uRaise, DX.uTry, DX.uXf, DX.uIsX, DX.uGet, DX.uGSetO, DX.uSMeth, DX.uIEnum, DX.uIZip, DX.uGUn, DX.uPar, DX.uVar, DX.uC, DX.uNil, DX.uCons, DX.uTup, DX.uLst, DX.uLstM, DX.uOp, DX.dI, DX.dIC, DX.dEq, DX.dNe, DX.dAdd, DX.uUn, DX.uIsN, DX.dTru, DX.uTru, DX.uTest, DX.uAndB, DX.uOrB, DX.uNotB, DX.uAnd, DX.uOr, DX.uNot, DX.uIf, DX.uChain, DX.dIx, DX.uNoPart, DX.uPart, DX.uSl, DX.dIn, DX.uFld, DX.uCB, DX.one, DX.dLen, DX.dIsB, DX.uIs, DX.dIsO, DX.dInt, DX.dList, DX.dTuple, DX.uBM, DX.dAppend, DX.dExtend, DX.dIndex, DX.uM1, DX.uCall, DX.uMeth, DX.dTwo, DX.dRep, DX.dLenO, DX.dCmpO, DX.dNeO, DX.dInO, DX.dMakeM, DX.dMakeF, DX.isC, DX.insAt, List.getElem?_cons_zero, List.getElem?_cons_succ, List.getElem?_nil, List.set_cons_zero, List.set_cons_succ, List.length_cons, List.length_nil, DX.wipeD, DX.tyIs, DX.v_non, DX.vT_non, DX.ty_non, DX.v_bl, DX.vT_bl, DX.ty_bl, DX.v_int, DX.vT_int, DX.ty_int, DX.v_str, DX.vT_str, DX.ty_str, DX.v_byt, DX.vT_byt, DX.ty_byt, DX.v_lst, DX.vT_lst, DX.ty_lst, DX.v_tup, DX.vT_tup, DX.ty_tup, DX.v_kt, DX.vT_kt, DX.ty_kt, DX.v_kl, DX.vT_kl, DX.ty_kl, DX.v_ins, DX.vT_ins, DX.ty_ins, DX.v_val, DX.vT_val, DX.ty_val, if_true, if_false, Bool.false_eq_true, reduceIte, Bool.not_true, Bool.not_false, true_and, and_true, List.isEmpty_cons, List.isEmpty_nil, Nat.reduceAdd]
    rw [ht]
    cases t <;> first | exact absurd rfl (ho _) | exact .inl q
  · exact h.elim

def betB (μ : Mem) (x : D) (lo hi : Int) : Option Bool := match x with
  | .int i => some (decide (lo ≤ i) && decide (i ≤ hi))
  | x => match wholeB μ x with
    | some false => some false
    | _ => none
def S_is_between (_ : Wd P w K mg base) : DSp := fun ds μ Q _ => match ds with
  | [x, .int lo, .int hi] => ∃ b, betB μ x lo hi = some b ∧ Q (.bl b) μ
  | _ => False
theorem bet_cases {μ : Mem} {x : D} {lo hi : Int} {b : Bool} (h : betB μ x lo hi = some b) : (∃ i, x = .int i ∧ b = (decide (lo ≤ i) && decide (i ≤ hi))) ∨ (wholeB μ x = some false ∧ b = false) := by
  unfold betB at h
  split at h
  · cases h; exact .inl ⟨_, rfl, rfl⟩
  · split at h
    · rename_i e
      cases h; exact .inr ⟨e, rfl⟩
    · cases h

theorem ok_is_between (W : Wd P w K mg base) : FnD P w K mg base 3 W.f_is_between (S_is_between W) := by
  refine (okB W.t_is_between.d sc_is_between (by (intro ds μ Q E h; unfold S_is_between at h; split at h <;> first | rfl | exact h.elim)) _ (fun cdv A outer s H E' g hr => ⟨_, (b_one (s_ret (d_and (d_call (ok_is_whole W) W.t_is_whole.a W.t_is_whole.d.kp g hr (takes_of rfl rfl rfl rfl) (a_cons (d_var 0) a_nil)) (d_one (d_chain op_le sim_le op_le sim_le (d_var 1) (d_var 0) (d_var 2))))))⟩) (fun ds μ Q E h => ?_)).fn0 W.t_is_between.b
  unfold S_is_between at h
  split at h
  · rename_i x lo hi
    obtain ⟨b, hb, q⟩ := h
    rw [show startD ["value", "low", "high"] [x, .int lo, .int hi] = [some x, some (.int lo), some (.int hi)] from rfl]
    simp (maxSteps := 4000000) only [DX.at_r0, DX.set_r0, DX.putD_nil, DX.putD_hd, DX.look_hd, DX.atI_nat, DX.at0, DX.at1, DX.at2, DX.at3, DX.eqok_int, DX.eqok_str, DX.eqok_bl, DX.deqv_int, DX.deqv_str, DX.deqv_bl, DX.uMakeM, DX.uMakeF, DX.uMakeSF, DX.uProp, DX.uGName, DX.uGNil, DX.uGCons, DX.uGTup, DX.uGSet, DX.uAsg, DX.uDrop, DX.uRet, DX.uRetN, DX.uNext, DX.uBreak, DX.uCont, DX.uNever, DX.uSeq, DX.uIfS, DX.uCut, DX.uAug, DX.uSetF, DX.uISeq, DX.uIRng1, DX.uIRng2, DX.uFor, DX.uWhile, DX.uLc, DX.uYes, DX.uRaise, DX.uTry, DX.uXf, DX.uIsX, DX.uGet, DX.uGSetO, DX.uSMeth, DX.uIEnum, DX.uIZip, DX.uGUn, DX.uPar, DX.uVar, DX.uC, DX.uNil, DX.uCons, DX.uTup, DX.uLst, DX.uLstM, DX.uOp, DX.dI, DX.dIC, DX.dEq, DX.dNe, DX.dAdd, DX.uUn, DX.uIsN, DX.dTru, DX.uTru, DX.uTest, DX.uAndB, DX.uOrB, DX.uNotB, DX.uAnd, DX.uOr, DX.uNot, DX.uIf, DX.uChain, DX.dIx, DX.uNoPart, DX.uPart, DX.uSl, DX.dIn, DX.uFld, DX.uCB, DX.one, DX.dLen, DX.dIsB, DX.uIs, DX.dIsO, DX.dInt, DX.dList, DX.dTuple, DX.uBM, DX.dAppend, DX.dExtend, DX.dIndex, DX.uM1, DX.uCall, DX.uMeth, DX.dTwo, DX.dRep, DX.dLenO, DX.dCmpO, DX.dNeO, DX.dInO, DX.dMakeM, DX.dMakeF, DX.isC, DX.insAt, List.getElem?_cons_zero, List.getElem?_cons_succ, List.getElem?_nil, List.set_cons_zero, List.set_cons_succ, List.length_cons, List.length_nil, DX.wipeD, DX.tyIs, DX.v_non, DX.vT_non, DX.ty_non, DX.v_bl, DX.vT_bl, DX.ty_bl, DX.v_int, DX.vT_int, DX.ty_int, DX.v_str, DX.vT_str, DX.ty_str, DX.v_byt, DX.vT_byt, DX.ty_byt, DX.v_lst, DX.vT_lst, DX.ty_lst, DX.v_tup, DX.vT_tup, DX.ty_tup, DX.v_kt, DX.vT_kt, DX.ty_kt, DX.v_kl, DX.vT_kl, DX.ty_kl, DX.v_ins, DX.vT_ins, DX.ty_ins, DX.v_val, DX.vT_val, DX.ty_val, if_true, if_false, Bool.false_eq_true, reduceIte, Bool.not_true, Bool.not_false, true_and, and_true, List.isEmpty_cons, List.isEmpty_nil, Nat.reduceAdd]
    unfold S_is_whole
    rcases bet_cases hb with ⟨i, rfl, rfl⟩ | ⟨e, rfl⟩
    · refine ⟨true, rfl, ?_⟩
      simp (maxSteps := 4000000) only [DX.at_r0, DX.set_r0, DX.putD_nil, DX.putD_hd, DX.look_hd, DX.atI_nat, DX.at0, DX.at1, DX.at2, DX.at3, DX.eqok_int, DX.eqok_str, DX.eqok_bl, DX.deqv_int, DX.deqv_str, DX.deqv_bl, DX.uMakeM, DX.uMakeF, DX.uMakeSF, DX.uProp, DX.uGName, DX.uGNil, DX.uGCons, DX.uGTup, DX.uGSet, DX.uAsg, DX.uDrop, DX.uRet, DX.uRetN, DX.uNext, DX.uBreak, DX.uCont, DX.uNever, DX.uSeq, DX.uIfS, DX.uCut, DX.uAug, DX.uSetF, DX.uISeq, DX.uIRng1, DX.uIRng2, DX.uFor, DX.uWhile, DX.uLc, DX.uYes, DX.uRaise, DX.uTry, DX.uXf, DX.uIsX, DX.uGet, DX.uGSetO, DX.uSMeth, DX.uIEnum, DX.uIZip, DX.uGUn, DX.uPar, DX.uVar, DX.uC, DX.uNil, DX.uCons, DX.uTup, DX.uLst, DX.uLstM, DX.uOp, DX.dI, DX.dIC, DX.dEq, DX.dNe, DX.dAdd, DX.uUn, DX.uIsN, DX.dTru, DX.uTru, DX.uTest, DX.uAndB, DX.uOrB, DX.uNotB, DX.uAnd, DX.uOr, DX.uNot, DX.uIf, DX.uChain, DX.dIx, DX.uNoPart, DX.uPart, DX.uSl, DX.dIn, DX.uFld, DX.uCB, DX.one, DX.dLen, DX.dIsB, DX.uIs, DX.dIsO, DX.dInt, DX.dList, DX.dTuple, DX.uBM, DX.dAppend, DX.dExtend, DX.dIndex, DX.uM1, DX.uCall, DX.uMeth, DX.dTwo, DX.dRep, DX.dLenO, DX.dCmpO, DX.dNeO, DX.dInO, DX.dMakeM, DX.dMakeF, DX.isC, DX.insAt, List.getElem?_cons_zero, List.getElem?_cons_succ, List.getElem?_nil, List.set_cons_zero, List.set_cons_succ, List.length_cons, List.length_nil, DX.wipeD, DX.tyIs, DX.v_non, DX.vT_non, DX.ty_non, DX.v_bl, DX.vT_bl, DX.ty_bl, DX.v_int, DX.vT_int, DX.ty_int, DX.v_str, DX.vT_str, DX.ty_str, DX.v_byt, DX.vT_byt, DX.ty_byt, DX.v_lst, DX.vT_lst, DX.ty_lst, DX.v_tup, DX.vT_tup, DX.ty_tup, DX.v_kt, DX.vT_kt, DX.ty_kt, DX.v_kl, DX.vT_kl, DX.ty_kl, DX.v_ins, DX.vT_ins, DX.ty_ins, DX.v_val, DX.vT_val, DX.ty_val, if_true, if_false, Bool.false_eq_true, reduceIte, Bool.not_true, Bool.not_false, true_and, and_true, List.isEmpty_cons, List.isEmpty_nil, Nat.reduceAdd]
      by_cases h1 : lo ≤ i
      · by_cases h2 : i ≤ hi
        · simp only [h1, h2, decide_true, if_true] at q ⊢; exact .inl q
        · simp only [h1, h2, decide_true, decide_false, if_true, Bool.and_false, Bool.true_and] at q ⊢; exact .inl q
      · simp only [h1, decide_false, Bool.false_and] at q ⊢; exact .inl q
    · exact ⟨false, e, .inl q⟩
  · exact h.elim

end
end Toy
set_option Elab.async false
set_option linter.all false
set_option maxRecDepth 100000
set_option maxHeartbeats 4000000
namespace Toy
open PySem PySem.Spec PyProof.Rows L2 DX
section
variable {P : Program} {w : World} {K : PySem.W.Frag} {mg : Str → Option Value} {base : Heap}
def words : List D := [.str (Str.ofString "write"), .str (Str.ofString "read")]
def isWord (s : Str) : Bool := words.any fun e => deqv e (.str s)
def S_is_one_of (_ : Wd P w K mg base) : DSp := fun ds μ Q _ => match ds with
  | [.str s, y] => y = .kt words ∧ Q (.bl (isWord s)) μ
  | _ => False

theorem ok_is_one_of (W : Wd P w K mg base) : FnD P w K mg base 2 W.f_is_one_of (S_is_one_of W) := by
  refine (okB W.t_is_one_of.d sc_is_one_of (by (intro ds μ Q E h; unfold S_is_one_of at h; split at h <;> first | rfl | exact h.elim)) _ (fun cdv A outer s H E' g hr => ⟨_, (b_one (s_ret (d_and (d_isB .str (by intro _ z; cases z) rfl W.z_isinstance W.z_str (d_var 0)) (d_one (d_cmp (op_inA hr.units rfl) (sim_in false) (d_var 0) (d_var 1) (by rfl))))))⟩) (fun ds μ Q E h => ?_)).fn0 W.t_is_one_of.b
  unfold S_is_one_of at h
  split at h
  · rename_i s y
    obtain ⟨rfl, q⟩ := h
    rw [show startD ["value", "known"] [.str s, .kt words] = [some (.str s), some (.kt words)] from rfl]
    simp (maxSteps := 4000000) only [DX.at_r0, DX.set_r0, DX.putD_nil, DX.putD_hd, DX.look_hd, DX.atI_nat, DX.at0, DX.at1, DX.at2, DX.at3, DX.eqok_int, DX.eqok_str, DX.eqok_bl, DX.deqv_int, DX.deqv_str, DX.deqv_bl, DX.uMakeM, DX.uMakeF, DX.uMakeSF, DX.uProp, DX.uGName, DX.uGNil, DX.uGCons, DX.uGTup, DX.uGSet, DX.uAsg, DX.uDrop, DX.uRet, DX.uRetN, DX.uNext, DX.uBreak, DX.uCont, DX.uNever, DX.uSeq, DX.uIfS, DX.uCut, DX.uAug, DX.uSetF, DX.uISeq, DX.uIRng1, DX.uIRng2, DX.uFor, DX.uWhile, DX.uLc, DX.uYes, DX.uRaise, DX.uTry, DX.uXf, DX.uIsX, DX.uGet, DX.uGSetO, DX.uSMeth, DX.uIEnum, DX.uIZip, DX.uGUn, DX.uPar, DX.uVar, DX.uC, DX.uNil, DX.uCons, DX.uTup, DX.uLst, DX.uLstM, DX.uOp, DX.dI, DX.dIC, DX.dEq, DX.dNe, DX.dAdd, DX.uUn, DX.uIsN, DX.dTru, DX.uTru, DX.uTest, DX.uAndB, DX.uOrB, DX.uNotB, DX.uAnd, DX.uOr, DX.uNot, DX.uIf, DX.uChain, DX.dIx, DX.uNoPart, DX.uPart, DX.uSl, DX.dIn, DX.uFld, DX.uCB, DX.one, DX.dLen, DX.dIsB, DX.uIs, DX.dIsO, DX.dInt, DX.dList, DX.dTuple, DX.uBM, DX.dAppend, DX.dExtend, DX.dIndex, DX.uM1, DX.uCall, DX.uMeth, DX.dTwo, DX.dRep, DX.dLenO, DX.dCmpO, DX.dNeO, DX.dInO, DX.dMakeM, DX.dMakeF, DX.isC, DX.insAt, List.getElem?_cons_zero, List.getElem?_cons_succ, List.getElem?_nil, List.set_cons_zero, List.set_cons_succ, List.length_cons, List.length_nil, DX.wipeD, DX.tyIs, DX.v_non, DX.vT_non, DX.ty_non, DX.v_bl, DX.vT_bl, DX.ty_bl, DX.v_int, DX.vT_int, DX.ty_int, DX.v_str, DX.vT_str, DX.ty_str, DX.v_byt, DX.vT_byt, DX.ty_byt, DX.v_lst, DX.vT_lst, DX.ty_lst, DX.v_tup, DX.vT_tup, DX.ty_tup, DX.v_kt, DX.vT_kt, DX.ty_kt, DX.v_kl, DX.vT_kl, DX.ty_kl, DX.v_ins, DX.vT_ins, DX.ty_ins, DX.v_val, DX.vT_val, DX.ty_val, if_true, if_false, Bool.false_eq_true, reduceIte, Bool.not_true, Bool.not_false, true_and, and_true, List.isEmpty_cons, List.isEmpty_nil, Nat.reduceAdd]
    exact ⟨rfl, .inl q⟩
  · exact h.elim

def Mkv (W : Wd P w K mg base) (μ : Mem) (x d : D) (bs : List Bool) : Prop := view μ x = .ins W.C_Marks [("_flags", d)] ∧ view μ d = .lst (bs.map .bl)

def S_Marks_len (W : Wd P w K mg base) : DSp := fun ds μ Q _ => match ds with
  | [x] => ∃ d bs, Mkv W μ x d bs ∧ Q (.int bs.length) μ
  | _ => False

theorem ok_Marks_len (W : Wd P w K mg base) : FnD P w K mg base 2 W.f_Marks_len (S_Marks_len W) := by
  refine (okB W.t_Marks_len.d sc_Marks_len (by (intro ds μ Q E h; unfold S_Marks_len at h; split at h <;> first | rfl | exact h.elim)) _ (fun cdv A outer s H E' g hr => ⟨_, (b_one (s_ret (d_callB (call_lenA rfl) sim_len W.z_len (a_cons (d_fld W.c_Marks.cl W.n_Marks_flags (d_var 0)) a_nil))))⟩) (fun ds μ Q E h => ?_)).fn0 W.t_Marks_len.b
  unfold S_Marks_len at h
  split at h
  · rename_i x
    obtain ⟨d, bs, ⟨h1, h2⟩, q⟩ := h
    rw [show startD ["self"] [x] = [some x] from rfl]
    simp (maxSteps := 4000000) only [DX.at_r0, DX.set_r0, DX.putD_nil, DX.putD_hd, DX.look_hd, DX.atI_nat, DX.at0, DX.at1, DX.at2, DX.at3, DX.eqok_int, DX.eqok_str, DX.eqok_bl, DX.deqv_int, DX.deqv_str, DX.deqv_bl, DX.uMakeM, DX.uMakeF, DX.uMakeSF, DX.uProp, DX.uGName, DX.uGNil, DX.uGCons, DX.uGTup, DX.uGSet, DX.uAsg, DX.uDrop, DX.uRet, DX.uRetN, DX.uNext, DX.uBreak, DX.uCont, DX.uNever, DX.uSeq, DX.uIfS, DX.uCut, DX.uAug, DX.uSetF, DX.uISeq, DX.uIRng1, DX.uIRng2, DX.uFor, DX.uWhile, DX.uLc, DX.uYes, DX.uRaise, DX.uTry, DX.uXf, DX.uIsX, DX.uGet, DX.uGSetO, DX.uSMeth, DX.uIEnum, DX.uIZip, DX.uGUn, DX.uPar, DX.uVar, DX.uC, DX.uNil, DX.uCons, DX.uTup, DX.uLst, DX.uLstM, DX.uOp, DX.dI, DX.dIC, DX.dEq, DX.dNe, DX.dAdd, DX.uUn, DX.uIsN, DX.dTru, DX.uTru, DX.uTest, DX.uAndB, DX.uOrB, DX.uNotB, DX.uAnd, DX.uOr, DX.uNot, DX.uIf, DX.uChain, DX.dIx, DX.uNoPart, DX.uPart, DX.uSl, DX.dIn, DX.uFld, DX.uCB, DX.one, DX.dLen, DX.dIsB, DX.uIs, DX.dIsO, DX.dInt, DX.dList, DX.dTuple, DX.uBM, DX.dAppend, DX.dExtend, DX.dIndex, DX.uM1, DX.uCall, DX.uMeth, DX.dTwo, DX.dRep, DX.dLenO, DX.dCmpO, DX.dNeO, DX.dInO, DX.dMakeM, DX.dMakeF, DX.isC, DX.insAt, List.getElem?_cons_zero, List.getElem?_cons_succ, List.getElem?_nil, List.set_cons_zero, List.set_cons_succ, List.length_cons, List.length_nil, DX.wipeD, DX.tyIs, DX.v_non, DX.vT_non, DX.ty_non, DX.v_bl, DX.vT_bl, DX.ty_bl, DX.v_int, DX.vT_int, DX.ty_int, DX.v_str, DX.vT_str, DX.ty_str, DX.v_byt, DX.vT_byt, DX.ty_byt, DX.v_lst, DX.vT_lst, DX.ty_lst, DX.v_tup, DX.vT_tup, DX.ty_tup, DX.v_kt, DX.vT_kt, DX.ty_kt, DX.v_kl, DX.vT_kl, DX.ty_kl, DX.v_ins, DX.vT_ins, DX.ty_ins, DX.v_val, DX.vT_val, DX.ty_val, if_true, if_false, Bool.false_eq_true, reduceIte, Bool.not_true, Bool.not_false, true_and, and_true, List.isEmpty_cons, List.isEmpty_nil, Nat.reduceAdd]
    simp (maxSteps := 4000000) only [h1, h2, List.length_map, DX.at_r0, DX.set_r0, DX.putD_nil, DX.putD_hd, DX.look_hd, DX.atI_nat, DX.at0, DX.at1, DX.at2, DX.at3, DX.eqok_int, DX.eqok_str, DX.eqok_bl, DX.deqv_int, DX.deqv_str, DX.deqv_bl, DX.uMakeM, DX.uMakeF, DX.uMakeSF, DX.uProp, DX.uGName, DX.uGNil, DX.uGCons, DX.uGTup, DX.uGSet, DX.uAsg, DX.uDrop, DX.uRet, DX.uRetN, DX.uNext, DX.uBreak, DX.uCont, DX.uNever, DX.uSeq, DX.uIfS, DX.uCut, DX.uAug, DX.uSetF, DX.uISeq, DX.uIRng1, DX.uIRng2, DX.uFor, DX.uWhile, DX.uLc, DX.uYes, DX.uRaise, DX.uTry, DX.uXf, DX.uIsX, DX.uGet, DX.uGSetO, DX.uSMeth, DX.uIEnum, DX.uIZip, DX.uGUn, DX.uPar, DX.uVar, DX.uC, DX.uNil, DX.uCons, DX.uTup, DX.uLst, DX.uLstM, DX.uOp, DX.dI, DX.dIC, DX.dEq, DX.dNe, DX.dAdd, DX.uUn, DX.uIsN, DX.dTru, DX.uTru, DX.uTest, DX.uAndB, DX.uOrB, DX.uNotB, DX.uAnd, DX.uOr, DX.uNot, DX.uIf, DX.uChain, DX.dIx, DX.uNoPart, DX.uPart, DX.uSl, DX.dIn, DX.uFld, DX.uCB, DX.one, DX.dLen, DX.dIsB, DX.uIs, DX.dIsO, DX.dInt, DX.dList, DX.dTuple, DX.uBM, DX.dAppend, DX.dExtend, DX.dIndex, DX.uM1, DX.uCall, DX.uMeth, DX.dTwo, DX.dRep, DX.dLenO, DX.dCmpO, DX.dNeO, DX.dInO, DX.dMakeM, DX.dMakeF, DX.isC, DX.insAt, List.getElem?_cons_zero, List.getElem?_cons_succ, List.getElem?_nil, List.set_cons_zero, List.set_cons_succ, List.length_cons, List.length_nil, DX.wipeD, DX.tyIs, DX.v_non, DX.vT_non, DX.ty_non, DX.v_bl, DX.vT_bl, DX.ty_bl, DX.v_int, DX.vT_int, DX.ty_int, DX.v_str, DX.vT_str, DX.ty_str, DX.v_byt, DX.vT_byt, DX.ty_byt, DX.v_lst, DX.vT_lst, DX.ty_lst, DX.v_tup, DX.vT_tup, DX.ty_tup, DX.v_kt, DX.vT_kt, DX.ty_kt, DX.v_kl, DX.vT_kl, DX.ty_kl, DX.v_ins, DX.vT_ins, DX.ty_ins, DX.v_val, DX.vT_val, DX.ty_val, if_true, if_false, Bool.false_eq_true, reduceIte, Bool.not_true, Bool.not_false, true_and, and_true, List.isEmpty_cons, List.isEmpty_nil, Nat.reduceAdd]
    exact .inl q
  · exact h.elim

def S_is_page (W : Wd P w K mg base) : DSp := fun ds μ Q _ => match ds with
  | [m, x] => ∃ d bs b, Mkv W μ m d bs ∧ bs.length < 1000 ∧ betB μ x 0 ((bs.length : Int) - 1) = some b ∧ Q (.bl b) μ
  | _ => False

theorem ok_is_page (W : Wd P w K mg base) : FnD P w K mg base 4 W.f_is_page (S_is_page W) := by
  refine (okB W.t_is_page.d sc_is_page (by (intro ds μ Q E h; unfold S_is_page at h; split at h <;> first | rfl | exact h.elim)) _ (fun cdv A outer s H E' g hr => ⟨_, (b_one (s_ret (d_call (ok_is_between W) W.t_is_between.a W.t_is_between.d.kp g hr (takes_of rfl rfl rfl rfl) (a_cons (d_var 1) (a_cons d_int (a_cons (d_op op_sub sim_sub (d_callB (call_lenO W.ln_Marks (ok_Marks_len W) g hr rfl) sim_lenO W.z_len (a_cons (d_var 0) a_nil)) d_int) a_nil))))))⟩) (fun ds μ Q E h => ?_)).fn0 W.t_is_page.b
  unfold S_is_page at h
  split at h
  · rename_i m x
    obtain ⟨d, bs, b, hm, hl, hb, q⟩ := h
    rw [show startD ["marks", "value"] [m, x] = [some m, some x] from rfl]
    simp (maxSteps := 4000000) only [DX.at_r0, DX.set_r0, DX.putD_nil, DX.putD_hd, DX.look_hd, DX.atI_nat, DX.at0, DX.at1, DX.at2, DX.at3, DX.eqok_int, DX.eqok_str, DX.eqok_bl, DX.deqv_int, DX.deqv_str, DX.deqv_bl, DX.uMakeM, DX.uMakeF, DX.uMakeSF, DX.uProp, DX.uGName, DX.uGNil, DX.uGCons, DX.uGTup, DX.uGSet, DX.uAsg, DX.uDrop, DX.uRet, DX.uRetN, DX.uNext, DX.uBreak, DX.uCont, DX.uNever, DX.uSeq, DX.uIfS, DX.uCut, DX.uAug, DX.uSetF, DX.uISeq, DX.uIRng1, DX.uIRng2, DX.uFor, DX.uWhile, DX.uLc, DX.uYes, DX.uRaise, DX.uTry, DX.uXf, DX.uIsX, DX.uGet, DX.uGSetO, DX.uSMeth, DX.uIEnum, DX.uIZip, DX.uGUn, DX.uPar, DX.uVar, DX.uC, DX.uNil, DX.uCons, DX.uTup, DX.uLst, DX.uLstM, DX.uOp, DX.dI, DX.dIC, DX.dEq, DX.dNe, DX.dAdd, DX.uUn, DX.uIsN, DX.dTru, DX.uTru, DX.uTest, DX.uAndB, DX.uOrB, DX.uNotB, DX.uAnd, DX.uOr, DX.uNot, DX.uIf, DX.uChain, DX.dIx, DX.uNoPart, DX.uPart, DX.uSl, DX.dIn, DX.uFld, DX.uCB, DX.one, DX.dLen, DX.dIsB, DX.uIs, DX.dIsO, DX.dInt, DX.dList, DX.dTuple, DX.uBM, DX.dAppend, DX.dExtend, DX.dIndex, DX.uM1, DX.uCall, DX.uMeth, DX.dTwo, DX.dRep, DX.dLenO, DX.dCmpO, DX.dNeO, DX.dInO, DX.dMakeM, DX.dMakeF, DX.isC, DX.insAt, List.getElem?_cons_zero, List.getElem?_cons_succ, List.getElem?_nil, List.set_cons_zero, List.set_cons_succ, List.length_cons, List.length_nil, DX.wipeD, DX.tyIs, DX.v_non, DX.vT_non, DX.ty_non, DX.v_bl, DX.vT_bl, DX.ty_bl, DX.v_int, DX.vT_int, DX.ty_int, DX.v_str, DX.vT_str, DX.ty_str, DX.v_byt, DX.vT_byt, DX.ty_byt, DX.v_lst, DX.vT_lst, DX.ty_lst, DX.v_tup, DX.vT_tup, DX.ty_tup, DX.v_kt, DX.vT_kt, DX.ty_kt, DX.v_kl, DX.vT_kl, DX.ty_kl, DX.v_ins, DX.vT_ins, DX.ty_ins, DX.v_val, DX.vT_val, DX.ty_val, if_true, if_false, Bool.false_eq_true, reduceIte, Bool.not_true, Bool.not_false, true_and, and_true, List.isEmpty_cons, List.isEmpty_nil, Nat.reduceAdd]
    rw [hm.1]
    refine ⟨rfl, d, bs, hm, bs.length, rfl, by omega, ?_⟩
    exact ⟨b, hb, .inl q⟩
  · exact h.elim

end
end Toy
set_option Elab.async false
set_option linter.all false
set_option maxRecDepth 100000
set_option maxHeartbeats 4000000
namespace Toy
open PySem PySem.Spec PyProof.Rows L2 DX
section
variable {P : Program} {w : World} {K : PySem.W.Frag} {mg : Str → Option Value} {base : Heap}
def deedB (μ : Mem) (n : Nat) (d : D) : Option Bool := match d with
  | .tup [.str s, y] => if isWord s = true then betB μ y 0 ((n : Int) - 1) else some false
  | .tup ys => if ys.length = 2 then none else some false
  | .non => some false
  | .int _ => some false
  | .str _ => some false
  | .lst _ => some false
  | _ => none
theorem deed_cases {μ : Mem} {n : Nat} {x : D} {b : Bool} (h : deedB μ n x = some b) : (∃ s y, x = .tup [.str s, y] ∧ ((isWord s = true ∧ betB μ y 0 ((n : Int) - 1) = some b) ∨ (isWord s = false ∧ b = false))) ∨ (∃ ys, x = .tup ys ∧ ys.length ≠ 2 ∧ b = false) ∨ ((∃ t, tyOf μ x = some t ∧ (∀ C, t ≠ .own C) ∧ tyIs t .tup = false) ∧ b = false) := by
  unfold deedB at h
  split at h
  · rename_i s y
    cases e : isWord s with
    | true => rw [e, if_pos rfl] at h; exact .inl ⟨s, y, rfl, .inl ⟨e, h⟩⟩
    | false => rw [e, if_neg Bool.false_ne_true] at h; cases h; exact .inl ⟨s, y, rfl, .inr ⟨e, rfl⟩⟩
  · rename_i ys _
    split at h
    · cases h
    · rename_i z
      cases h
      exact .inr (.inl ⟨ys, rfl, z, rfl⟩)
  · cases h; exact .inr (.inr ⟨⟨.non, rfl, (by intro C z; cases z), rfl⟩, rfl⟩)
  · cases h; exact .inr (.inr ⟨⟨.int, rfl, (by intro C z; cases z), rfl⟩, rfl⟩)
  · cases h; exact .inr (.inr ⟨⟨.str, rfl, (by intro C z; cases z), rfl⟩, rfl⟩)
  · cases h; exact .inr (.inr ⟨⟨.lst, rfl, (by intro C z; cases z), rfl⟩, rfl⟩)
  · cases h
/-- what looks over the deeds: the first that is none, if there is one -/
def chkD (W : Wd P w K mg base) (μ : Mem) (n : Nat) (L : List D) (q : Prop) (e : Nat → Prop) : Prop :=
  (∃ i x, L[i]? = some x ∧ deedB μ n x = some false ∧ (∀ j y, j < i → L[j]? = some y → deedB μ n y = some true) ∧ e i) ∨ ((∀ y ∈ L, deedB μ n y = some true) ∧ q)

def S_check_deeds (W : Wd P w K mg base) : DSp := fun ds μ Q E => match ds with
  | [xs, m] => ∃ L d bs, view μ xs = .lst L ∧ Mkv W μ m d bs ∧ bs.length < 1000 ∧ chkD W μ bs.length L (Q .non μ) (fun i => E W.X_BadDeed [("index", .int i)] μ)
  | _ => False

theorem ok_check_deeds (W : Wd P w K mg base) : FnD P w K mg base 5 W.f_check_deeds (S_check_deeds W) := by
  refine (okB W.t_check_deeds.d sc_check_deeds (by (intro ds μ Q E h; unfold S_check_deeds at h; split at h <;> first | rfl | exact h.elim)) _ (fun cdv A outer s H E' g hr => ⟨_, (b_one (s_for (passes_of rfl) (i_enum W.z_enumerate (a_cons (d_var 0) a_nil)) (g_un 2 (gs_cons (g_name 2 sc_check_deeds.nd) (gs_cons (g_name 3 sc_check_deeds.nd) gs_nil)))
      (b_cons (s_if (WD.td (w_or (t_not (t_tru (d_isB .tup (by intro _ z; cases z) rfl W.z_isinstance W.z_tuple (d_var 3)))) (w_or1 (t_cmp (op_neA hr.units rfl) sim_ne (d_callB (call_lenA rfl) sim_len W.z_len (a_cons (d_var 3) a_nil)) d_int (nomark _))))) (b_one (s_raise W.e_BadDeed (hr.mono (by decide)) (takes_of rfl rfl rfl rfl) (a_cons (d_var 2) a_nil))) b_nil)
      (b_one (s_if (WD.td (w_or (t_not (t_tru (d_call (ok_is_one_of W) W.t_is_one_of.a W.t_is_one_of.d.kp g (hr.mono (by decide)) (takes_of rfl rfl rfl rfl) (a_cons (d_ix (d_var 3) d_int) (a_cons (d_glob W.g_WORDS.m W.g_WORDS.r W.g_WORDS.p) a_nil))))) (w_or1 (t_not (t_tru (d_call (ok_is_page W) W.t_is_page.a W.t_is_page.d.kp g hr (takes_of rfl rfl rfl rfl) (a_cons (d_var 1) (a_cons (d_ix (d_var 3) d_int) a_nil)))))))) (b_one (s_raise W.e_BadDeed (hr.mono (by decide)) (takes_of rfl rfl rfl rfl) (a_cons (d_var 2) a_nil))) b_nil)))))⟩) (fun ds μ Q E h => ?_)).fn0 W.t_check_deeds.b
  unfold S_check_deeds at h
  split at h
  · rename_i xs m
    obtain ⟨L, d, bs, hL, hm, hl, hc⟩ := h
    rw [show startD ["deeds", "marks", "index", "deed"] [xs, m] = [some xs, some m, none, none] from rfl]
    simp (maxSteps := 4000000) only [hL, DX.at_r0, DX.set_r0, DX.putD_nil, DX.putD_hd, DX.look_hd, DX.atI_nat, DX.at0, DX.at1, DX.at2, DX.at3, DX.eqok_int, DX.eqok_str, DX.eqok_bl, DX.deqv_int, DX.deqv_str, DX.deqv_bl, DX.uMakeM, DX.uMakeF, DX.uMakeSF, DX.uProp, DX.uGName, DX.uGNil, DX.uGCons, DX.uGTup, DX.uGSet, DX.uAsg, DX.uDrop, DX.uRet, DX.uRetN, DX.uNext, DX.uBreak, DX.uCont, DX.uNever, DX.uSeq, DX.uIfS, DX.uCut, DX.uAug, DX.uSetF, DX.uISeq, DX.uIRng1, DX.uIRng2, DX.uFor, DX.uWhile, DX.uLc, DX.uYes, DX.uRaise, DX.uTry, DX.uXf, DX.uIsX, DX.uGet, DX.uGSetO, DX.uSMeth, DX.uIEnum, DX.uIZip, DX.uGUn, DX.uPar, DX.uVar, DX.uC, DX.uNil, DX.uCons, DX.uTup, DX.uLst, DX.uLstM, DX.uOp, DX.dI, DX.dIC, DX.dEq, DX.dNe, DX.dAdd, DX.uUn, DX.uIsN, DX.dTru, DX.uTru, DX.uTest, DX.uAndB, DX.uOrB, DX.uNotB, DX.uAnd, DX.uOr, DX.uNot, DX.uIf, DX.uChain, DX.dIx, DX.uNoPart, DX.uPart, DX.uSl, DX.dIn, DX.uFld, DX.uCB, DX.one, DX.dLen, DX.dIsB, DX.uIs, DX.dIsO, DX.dInt, DX.dList, DX.dTuple, DX.uBM, DX.dAppend, DX.dExtend, DX.dIndex, DX.uM1, DX.uCall, DX.uMeth, DX.dTwo, DX.dRep, DX.dLenO, DX.dCmpO, DX.dNeO, DX.dInO, DX.dMakeM, DX.dMakeF, DX.isC, DX.insAt, List.getElem?_cons_zero, List.getElem?_cons_succ, List.getElem?_nil, List.set_cons_zero, List.set_cons_succ, List.length_cons, List.length_nil, DX.wipeD, DX.tyIs, DX.v_non, DX.vT_non, DX.ty_non, DX.v_bl, DX.vT_bl, DX.ty_bl, DX.v_int, DX.vT_int, DX.ty_int, DX.v_str, DX.vT_str, DX.ty_str, DX.v_byt, DX.vT_byt, DX.ty_byt, DX.v_lst, DX.vT_lst, DX.ty_lst, DX.v_tup, DX.vT_tup, DX.ty_tup, DX.v_kt, DX.vT_kt, DX.ty_kt, DX.v_kl, DX.vT_kl, DX.ty_kl, DX.v_ins, DX.vT_ins, DX.ty_ins, DX.v_val, DX.vT_val, DX.ty_val, if_true, if_false, Bool.false_eq_true, reduceIte, Bool.not_true, Bool.not_false, true_and, and_true, List.isEmpty_cons, List.isEmpty_nil, Nat.reduceAdd]
    refine for_map (fun n ρ μ' => μ' = μ ∧ (∃ o2 o3, ρ = [some xs, some m, o2, o3]) ∧ ∀ j y, j < n → L[j]? = some y → deedB μ bs.length y = some true) ⟨rfl, ⟨_, _, rfl⟩, fun _ _ z => absurd z (Nat.not_lt_zero _)⟩ ?_ ?_ ?_
    · rintro n ρ μ' ⟨rfl, _⟩; exact hL
    · rintro ρ μ' ⟨rfl, _, hj⟩
      rw [denum_len] at hj
      rcases hc with ⟨i, x, hx, hb, _, _⟩ | ⟨_, q⟩
      · have := hj i x (lt_of_at hx) hx
        rw [hb] at this; cases this
      · exact .inl q
    · rintro n e ρ μ' go he ⟨rfl, ⟨o2, o3, rfl⟩, hj⟩ k
      obtain ⟨x, hx, rfl⟩ := denum_get he
      rw [Nat.zero_add]
      simp (maxSteps := 4000000) only [DX.at_r0, DX.set_r0, DX.putD_nil, DX.putD_hd, DX.look_hd, DX.atI_nat, DX.at0, DX.at1, DX.at2, DX.at3, DX.eqok_int, DX.eqok_str, DX.eqok_bl, DX.deqv_int, DX.deqv_str, DX.deqv_bl, DX.uMakeM, DX.uMakeF, DX.uMakeSF, DX.uProp, DX.uGName, DX.uGNil, DX.uGCons, DX.uGTup, DX.uGSet, DX.uAsg, DX.uDrop, DX.uRet, DX.uRetN, DX.uNext, DX.uBreak, DX.uCont, DX.uNever, DX.uSeq, DX.uIfS, DX.uCut, DX.uAug, DX.uSetF, DX.uISeq, DX.uIRng1, DX.uIRng2, DX.uFor, DX.uWhile, DX.uLc, DX.uYes, DX.uRaise, DX.uTry, DX.uXf, DX.uIsX, DX.uGet, DX.uGSetO, DX.uSMeth, DX.uIEnum, DX.uIZip, DX.uGUn, DX.uPar, DX.uVar, DX.uC, DX.uNil, DX.uCons, DX.uTup, DX.uLst, DX.uLstM, DX.uOp, DX.dI, DX.dIC, DX.dEq, DX.dNe, DX.dAdd, DX.uUn, DX.uIsN, DX.dTru, DX.uTru, DX.uTest, DX.uAndB, DX.uOrB, DX.uNotB, DX.uAnd, DX.uOr, DX.uNot, DX.uIf, DX.uChain, DX.dIx, DX.uNoPart, DX.uPart, DX.uSl, DX.dIn, DX.uFld, DX.uCB, DX.one, DX.dLen, DX.dIsB, DX.uIs, DX.dIsO, DX.dInt, DX.dList, DX.dTuple, DX.uBM, DX.dAppend, DX.dExtend, DX.dIndex, DX.uM1, DX.uCall, DX.uMeth, DX.dTwo, DX.dRep, DX.dLenO, DX.dCmpO, DX.dNeO, DX.dInO, DX.dMakeM, DX.dMakeF, DX.isC, DX.insAt, List.getElem?_cons_zero, List.getElem?_cons_succ, List.getElem?_nil, List.set_cons_zero, List.set_cons_succ, List.length_cons, List.length_nil, DX.wipeD, DX.tyIs, DX.v_non, DX.vT_non, DX.ty_non, DX.v_bl, DX.vT_bl, DX.ty_bl, DX.v_int, DX.vT_int, DX.ty_int, DX.v_str, DX.vT_str, DX.ty_str, DX.v_byt, DX.vT_byt, DX.ty_byt, DX.v_lst, DX.vT_lst, DX.ty_lst, DX.v_tup, DX.vT_tup, DX.ty_tup, DX.v_kt, DX.vT_kt, DX.ty_kt, DX.v_kl, DX.vT_kl, DX.ty_kl, DX.v_ins, DX.vT_ins, DX.ty_ins, DX.v_val, DX.vT_val, DX.ty_val, if_true, if_false, Bool.false_eq_true, reduceIte, Bool.not_true, Bool.not_false, true_and, and_true, List.isEmpty_cons, List.isEmpty_nil, Nat.reduceAdd]
      have hh : deedB μ' bs.length x = some true ∨ (deedB μ' bs.length x = some false ∧ E W.X_BadDeed [("index", .int n)] μ') := by
        rcases hc with ⟨i, y, hy, hb, hg, q⟩ | ⟨hg, q⟩
        · rcases Nat.lt_trichotomy n i with z | z | z
          · exact .inl (hg n x z hx)
          · subst z; rw [hx] at hy; cases hy; exact .inr ⟨hb, q⟩
          · have := hj i y z hy
            rw [hb] at this; cases this
        · exact .inl (hg x (List.mem_of_getElem? hx))
      have next : deedB μ' bs.length x = some true → go [some xs, some m, some (.int n), some x] μ' := fun hg => k _ _ ⟨rfl, ⟨_, _, rfl⟩, fun j y hj' hy => by
        rcases Nat.lt_succ_iff_lt_or_eq.mp hj' with z | z
        · exact hj j y z hy
        · subst z; rw [hx] at hy; cases hy; exact hg⟩
      have bad : deedB μ' bs.length x = some false → FZE μ' E [some xs, some m, some (.int n), some x] W.X_BadDeed [("index", .int n)] μ' := fun hb => by
        rcases hh with z | ⟨_, q⟩
        · rw [hb] at z; cases z
        · exact .inl q
      have hs : ∃ b, deedB μ' bs.length x = some b := hh.elim (fun z => ⟨_, z⟩) fun z => ⟨_, z.1⟩
      obtain ⟨b, hb⟩ := hs
      rcases deed_cases hb with ⟨s, y, rfl, hy⟩ | ⟨ys, rfl, hne, rfl⟩ | ⟨⟨t, ht, ho, hn⟩, rfl⟩
      · simp (maxSteps := 4000000) only [S_is_one_of, S_is_page, DX.at_r0, DX.set_r0, DX.putD_nil, DX.putD_hd, DX.look_hd, DX.atI_nat, DX.at0, DX.at1, DX.at2, DX.at3, DX.eqok_int, DX.eqok_str, DX.eqok_bl, DX.deqv_int, DX.deqv_str, DX.deqv_bl, DX.uMakeM, DX.uMakeF, DX.uMakeSF, DX.uProp, DX.uGName, DX.uGNil, DX.uGCons, DX.uGTup, DX.uGSet, DX.uAsg, DX.uDrop, DX.uRet, DX.uRetN, DX.uNext, DX.uBreak, DX.uCont, DX.uNever, DX.uSeq, DX.uIfS, DX.uCut, DX.uAug, DX.uSetF, DX.uISeq, DX.uIRng1, DX.uIRng2, DX.uFor, DX.uWhile, DX.uLc, DX.uYes, DX.uRaise, DX.uTry, DX.uXf, DX.uIsX, DX.uGet, DX.uGSetO, DX.uSMeth, DX.uIEnum, DX.uIZip, DX.uGUn, DX.uPar, DX.uVar, DX.uC, DX.uNil, DX.uCons, DX.uTup, DX.uLst, DX.uLstM, DX.uOp, DX.dI, DX.dIC, DX.dEq, DX.dNe, DX.dAdd, DX.uUn, DX.uIsN, DX.dTru, DX.uTru, DX.uTest, DX.uAndB, DX.uOrB, DX.uNotB, DX.uAnd, DX.uOr, DX.uNot, DX.uIf, DX.uChain, DX.dIx, DX.uNoPart, DX.uPart, DX.uSl, DX.dIn, DX.uFld, DX.uCB, DX.one, DX.dLen, DX.dIsB, DX.uIs, DX.dIsO, DX.dInt, DX.dList, DX.dTuple, DX.uBM, DX.dAppend, DX.dExtend, DX.dIndex, DX.uM1, DX.uCall, DX.uMeth, DX.dTwo, DX.dRep, DX.dLenO, DX.dCmpO, DX.dNeO, DX.dInO, DX.dMakeM, DX.dMakeF, DX.isC, DX.insAt, List.getElem?_cons_zero, List.getElem?_cons_succ, List.getElem?_nil, List.set_cons_zero, List.set_cons_succ, List.length_cons, List.length_nil, DX.wipeD, DX.tyIs, DX.v_non, DX.vT_non, DX.ty_non, DX.v_bl, DX.vT_bl, DX.ty_bl, DX.v_int, DX.vT_int, DX.ty_int, DX.v_str, DX.vT_str, DX.ty_str, DX.v_byt, DX.vT_byt, DX.ty_byt, DX.v_lst, DX.vT_lst, DX.ty_lst, DX.v_tup, DX.vT_tup, DX.ty_tup, DX.v_kt, DX.vT_kt, DX.ty_kt, DX.v_kl, DX.vT_kl, DX.ty_kl, DX.v_ins, DX.vT_ins, DX.ty_ins, DX.v_val, DX.vT_val, DX.ty_val, if_true, if_false, Bool.false_eq_true, reduceIte, Bool.not_true, Bool.not_false, true_and, and_true, List.isEmpty_cons, List.isEmpty_nil, Nat.reduceAdd]
        rcases hy with ⟨hw, hbet⟩ | ⟨hw, rfl⟩
        · rw [hw]
          refine ⟨rfl, d, bs, b, hm, hl, hbet, ?_⟩
          cases b with
          | true => exact next hb
          | false => exact bad hb
        · rw [hw]
          exact ⟨rfl, bad hb⟩
      · simp (maxSteps := 4000000) only [DX.at_r0, DX.set_r0, DX.putD_nil, DX.putD_hd, DX.look_hd, DX.atI_nat, DX.at0, DX.at1, DX.at2, DX.at3, DX.eqok_int, DX.eqok_str, DX.eqok_bl, DX.deqv_int, DX.deqv_str, DX.deqv_bl, DX.uMakeM, DX.uMakeF, DX.uMakeSF, DX.uProp, DX.uGName, DX.uGNil, DX.uGCons, DX.uGTup, DX.uGSet, DX.uAsg, DX.uDrop, DX.uRet, DX.uRetN, DX.uNext, DX.uBreak, DX.uCont, DX.uNever, DX.uSeq, DX.uIfS, DX.uCut, DX.uAug, DX.uSetF, DX.uISeq, DX.uIRng1, DX.uIRng2, DX.uFor, DX.uWhile, DX.uLc, DX.uYes, DX.uRaise, DX.uTry, DX.uXf, DX.uIsX, DX.uGet, DX.uGSetO, DX.uSMeth, DX.uIEnum, DX.uIZip, DX.uGUn, DX.uPar, DX.uVar, DX.uC, DX.uNil, DX.uCons, DX.uTup, DX.uLst, DX.uLstM, DX.uOp, DX.dI, DX.dIC, DX.dEq, DX.dNe, DX.dAdd, DX.uUn, DX.uIsN, DX.dTru, DX.uTru, DX.uTest, DX.uAndB, DX.uOrB, DX.uNotB, DX.uAnd, DX.uOr, DX.uNot, DX.uIf, DX.uChain, DX.dIx, DX.uNoPart, DX.uPart, DX.uSl, DX.dIn, DX.uFld, DX.uCB, DX.one, DX.dLen, DX.dIsB, DX.uIs, DX.dIsO, DX.dInt, DX.dList, DX.dTuple, DX.uBM, DX.dAppend, DX.dExtend, DX.dIndex, DX.uM1, DX.uCall, DX.uMeth, DX.dTwo, DX.dRep, DX.dLenO, DX.dCmpO, DX.dNeO, DX.dInO, DX.dMakeM, DX.dMakeF, DX.isC, DX.insAt, List.getElem?_cons_zero, List.getElem?_cons_succ, List.getElem?_nil, List.set_cons_zero, List.set_cons_succ, List.length_cons, List.length_nil, DX.wipeD, DX.tyIs, DX.v_non, DX.vT_non, DX.ty_non, DX.v_bl, DX.vT_bl, DX.ty_bl, DX.v_int, DX.vT_int, DX.ty_int, DX.v_str, DX.vT_str, DX.ty_str, DX.v_byt, DX.vT_byt, DX.ty_byt, DX.v_lst, DX.vT_lst, DX.ty_lst, DX.v_tup, DX.vT_tup, DX.ty_tup, DX.v_kt, DX.vT_kt, DX.ty_kt, DX.v_kl, DX.vT_kl, DX.ty_kl, DX.v_ins, DX.vT_ins, DX.ty_ins, DX.v_val, DX.vT_val, DX.ty_val, if_true, if_false, Bool.false_eq_true, reduceIte, Bool.not_true, Bool.not_false, true_and, and_true, List.isEmpty_cons, List.isEmpty_nil, Nat.reduceAdd]
        rw [if_pos (by simpa using fun z => hne (by omega))]
        exact bad hb
      · simp (maxSteps := 4000000) only [ht, DX.at_r0, DX.set_r0, DX.putD_nil, DX.putD_hd, DX.look_hd, DX.atI_nat, DX.at0, DX.at1, DX.at2, DX.at3, DX.eqok_int, DX.eqok_str, DX.eqok_bl, DX.deqv_int, DX.deqv_str, DX.deqv_bl, DX.uMakeM, DX.uMakeF, DX.uMakeSF, DX.uProp, DX.uGName, DX.uGNil, DX.uGCons, DX.uGTup, DX.uGSet, DX.uAsg, DX.uDrop, DX.uRet, DX.uRetN, DX.uNext, DX.uBreak, DX.uCont, DX.uNever, DX.uSeq, DX.uIfS, DX.uCut, DX.uAug, DX.uSetF, DX.uISeq, DX.uIRng1, DX.uIRng2, DX.uFor, DX.uWhile, DX.uLc, DX.uYes, DX.uRaise, DX.uTry, DX.uXf, DX.uIsX, DX.uGet, DX.uGSetO, DX.uSMeth, DX.uIEnum, DX.uIZip, DX.uGUn, DX.uPar, DX.uVar, DX.uC, DX.uNil, DX.uCons, DX.uTup, DX.uLst, DX.uLstM, DX.uOp, DX.dI, DX.dIC, DX.dEq, DX.dNe, DX.dAdd, DX.uUn, DX.uIsN, DX.dTru, DX.uTru, DX.uTest, DX.uAndB, DX.uOrB, DX.uNotB, DX.uAnd, DX.uOr, DX.uNot, DX.uIf, DX.uChain, DX.dIx, DX.uNoPart, DX.uPart, DX.uSl, DX.dIn, DX.uFld, DX.uCB, DX.one, DX.dLen, DX.dIsB, DX.uIs, DX.dIsO, DX.dInt, DX.dList, DX.dTuple, DX.uBM, DX.dAppend, DX.dExtend, DX.dIndex, DX.uM1, DX.uCall, DX.uMeth, DX.dTwo, DX.dRep, DX.dLenO, DX.dCmpO, DX.dNeO, DX.dInO, DX.dMakeM, DX.dMakeF, DX.isC, DX.insAt, List.getElem?_cons_zero, List.getElem?_cons_succ, List.getElem?_nil, List.set_cons_zero, List.set_cons_succ, List.length_cons, List.length_nil, DX.wipeD, DX.tyIs, DX.v_non, DX.vT_non, DX.ty_non, DX.v_bl, DX.vT_bl, DX.ty_bl, DX.v_int, DX.vT_int, DX.ty_int, DX.v_str, DX.vT_str, DX.ty_str, DX.v_byt, DX.vT_byt, DX.ty_byt, DX.v_lst, DX.vT_lst, DX.ty_lst, DX.v_tup, DX.vT_tup, DX.ty_tup, DX.v_kt, DX.vT_kt, DX.ty_kt, DX.v_kl, DX.vT_kl, DX.ty_kl, DX.v_ins, DX.vT_ins, DX.ty_ins, DX.v_val, DX.vT_val, DX.ty_val, if_true, if_false, Bool.false_eq_true, reduceIte, Bool.not_true, Bool.not_false, true_and, and_true, List.isEmpty_cons, List.isEmpty_nil, Nat.reduceAdd]
        cases t <;> first | exact absurd rfl (ho _) | (cases hn; done) | exact bad hb
  · exact h.elim

end
end Toy
set_option Elab.async false
set_option linter.all false
set_option maxRecDepth 100000
set_option maxHeartbeats 4000000
namespace Toy
open PySem PySem.Spec PyProof.Rows L2 DX
section
variable {P : Program} {w : World} {K : PySem.W.Frag} {mg : Str → Option Value} {base : Heap}
def cleanB (μ : Mem) (len n : Nat) (d : D) : Option Bool := match d with
  | .tup [a, b] => match betB μ a 0 len with
    | some true => betB μ b 0 ((n : Int) - 1)
    | some false => some false
    | none => none
  | .tup ys => if ys.length = 2 then none else some false
  | .non => some false
  | .int _ => some false
  | .str _ => some false
  | .lst _ => some false
  | _ => none
theorem clean_cases {μ : Mem} {len n : Nat} {x : D} {b : Bool} (h : cleanB μ len n x = some b) : (∃ y z c, x = .tup [y, z] ∧ betB μ y 0 len = some c ∧ ((c = true ∧ betB μ z 0 ((n : Int) - 1) = some b) ∨ (c = false ∧ b = false))) ∨ (∃ ys, x = .tup ys ∧ ys.length ≠ 2 ∧ b = false) ∨ ((∃ t, tyOf μ x = some t ∧ (∀ C, t ≠ .own C) ∧ tyIs t .tup = false) ∧ b = false) := by
  unfold cleanB at h
  split at h
  · rename_i y z
    split at h
    · rename_i e; exact .inl ⟨y, z, _, rfl, e, .inl ⟨rfl, h⟩⟩
    · rename_i e; cases h; exact .inl ⟨y, z, _, rfl, e, .inr ⟨rfl, rfl⟩⟩
    · cases h
  · rename_i ys _
    split at h
    · cases h
    · rename_i z
      cases h
      exact .inr (.inl ⟨ys, rfl, z, rfl⟩)
  · cases h; exact .inr (.inr ⟨⟨.non, rfl, (by intro C z; cases z), rfl⟩, rfl⟩)
  · cases h; exact .inr (.inr ⟨⟨.int, rfl, (by intro C z; cases z), rfl⟩, rfl⟩)
  · cases h; exact .inr (.inr ⟨⟨.str, rfl, (by intro C z; cases z), rfl⟩, rfl⟩)
  · cases h; exact .inr (.inr ⟨⟨.lst, rfl, (by intro C z; cases z), rfl⟩, rfl⟩)
  · cases h

def S_is_cleaning (W : Wd P w K mg base) : DSp := fun ds μ Q _ => match ds with
  | [xs, m, x] => ∃ L d bs b, view μ xs = .lst L ∧ Mkv W μ m d bs ∧ bs.length < 1000 ∧ cleanB μ L.length bs.length x = some b ∧ Q (.bl b) μ
  | _ => False

theorem ok_is_cleaning (W : Wd P w K mg base) : FnD P w K mg base 5 W.f_is_cleaning (S_is_cleaning W) := by
  refine (okB W.t_is_cleaning.d sc_is_cleaning (by (intro ds μ Q E h; unfold S_is_cleaning at h; split at h <;> first | rfl | exact h.elim)) _ (fun cdv A outer s H E' g hr => ⟨_, (b_cons (s_if (WD.td (w_or (t_not (t_tru (d_isB .tup (by intro _ z; cases z) rfl W.z_isinstance W.z_tuple (d_var 2)))) (w_or1 (t_cmp (op_neA hr.units rfl) sim_ne (d_callB (call_lenA rfl) sim_len W.z_len (a_cons (d_var 2) a_nil)) d_int (nomark _))))) (b_one (s_ret d_bl)) b_nil)
      (b_one (s_ret (d_and (d_call (ok_is_between W) W.t_is_between.a W.t_is_between.d.kp g (hr.mono (by decide)) (takes_of rfl rfl rfl rfl) (a_cons (d_ix (d_var 2) d_int) (a_cons d_int (a_cons (d_callB (call_lenA rfl) sim_len W.z_len (a_cons (d_var 0) a_nil)) a_nil)))) (d_one (d_call (ok_is_page W) W.t_is_page.a W.t_is_page.d.kp g hr (takes_of rfl rfl rfl rfl) (a_cons (d_var 1) (a_cons (d_ix (d_var 2) d_int) a_nil))))))))⟩) (fun ds μ Q E h => ?_)).fn0 W.t_is_cleaning.b
  unfold S_is_cleaning at h
  split at h
  · rename_i xs m x
    obtain ⟨L, d, bs, b, hL, hm, hl, hb, q⟩ := h
    rw [show startD ["deeds", "marks", "value"] [xs, m, x] = [some xs, some m, some x] from rfl]
    simp (maxSteps := 4000000) only [hL, DX.at_r0, DX.set_r0, DX.putD_nil, DX.putD_hd, DX.look_hd, DX.atI_nat, DX.at0, DX.at1, DX.at2, DX.at3, DX.eqok_int, DX.eqok_str, DX.eqok_bl, DX.deqv_int, DX.deqv_str, DX.deqv_bl, DX.uMakeM, DX.uMakeF, DX.uMakeSF, DX.uProp, DX.uGName, DX.uGNil, DX.uGCons, DX.uGTup, DX.uGSet, DX.uAsg, DX.uDrop, DX.uRet, DX.uRetN, DX.uNext, DX.uBreak, DX.uCont, DX.uNever, DX.uSeq, DX.uIfS, DX.uCut, DX.uAug, DX.uSetF, DX.uISeq, DX.uIRng1, DX.uIRng2, DX.uFor, DX.uWhile, DX.uLc, DX.uYes, DX.uRaise, DX.uTry, DX.uXf, DX.uIsX, DX.uGet, DX.uGSetO, DX.uSMeth, DX.uIEnum, DX.uIZip, DX.uGUn, DX.uPar, DX.uVar, DX.uC, DX.uNil, DX.uCons, DX.uTup, DX.uLst, DX.uLstM, DX.uOp, DX.dI, DX.dIC, DX.dEq, DX.dNe, DX.dAdd, DX.uUn, DX.uIsN, DX.dTru, DX.uTru, DX.uTest, DX.uAndB, DX.uOrB, DX.uNotB, DX.uAnd, DX.uOr, DX.uNot, DX.uIf, DX.uChain, DX.dIx, DX.uNoPart, DX.uPart, DX.uSl, DX.dIn, DX.uFld, DX.uCB, DX.one, DX.dLen, DX.dIsB, DX.uIs, DX.dIsO, DX.dInt, DX.dList, DX.dTuple, DX.uBM, DX.dAppend, DX.dExtend, DX.dIndex, DX.uM1, DX.uCall, DX.uMeth, DX.dTwo, DX.dRep, DX.dLenO, DX.dCmpO, DX.dNeO, DX.dInO, DX.dMakeM, DX.dMakeF, DX.isC, DX.insAt, List.getElem?_cons_zero, List.getElem?_cons_succ, List.getElem?_nil, List.set_cons_zero, List.set_cons_succ, List.length_cons, List.length_nil, DX.wipeD, DX.tyIs, DX.v_non, DX.vT_non, DX.ty_non, DX.v_bl, DX.vT_bl, DX.ty_bl, DX.v_int, DX.vT_int, DX.ty_int, DX.v_str, DX.vT_str, DX.ty_str, DX.v_byt, DX.vT_byt, DX.ty_byt, DX.v_lst, DX.vT_lst, DX.ty_lst, DX.v_tup, DX.vT_tup, DX.ty_tup, DX.v_kt, DX.vT_kt, DX.ty_kt, DX.v_kl, DX.vT_kl, DX.ty_kl, DX.v_ins, DX.vT_ins, DX.ty_ins, DX.v_val, DX.vT_val, DX.ty_val, if_true, if_false, Bool.false_eq_true, reduceIte, Bool.not_true, Bool.not_false, true_and, and_true, List.isEmpty_cons, List.isEmpty_nil, Nat.reduceAdd]
    rcases clean_cases hb with ⟨y, z, c, rfl, hc, hy⟩ | ⟨ys, rfl, hne, rfl⟩ | ⟨⟨t, ht, ho, hn⟩, rfl⟩
    · simp (maxSteps := 4000000) only [S_is_between, S_is_page, DX.at_r0, DX.set_r0, DX.putD_nil, DX.putD_hd, DX.look_hd, DX.atI_nat, DX.at0, DX.at1, DX.at2, DX.at3, DX.eqok_int, DX.eqok_str, DX.eqok_bl, DX.deqv_int, DX.deqv_str, DX.deqv_bl, DX.uMakeM, DX.uMakeF, DX.uMakeSF, DX.uProp, DX.uGName, DX.uGNil, DX.uGCons, DX.uGTup, DX.uGSet, DX.uAsg, DX.uDrop, DX.uRet, DX.uRetN, DX.uNext, DX.uBreak, DX.uCont, DX.uNever, DX.uSeq, DX.uIfS, DX.uCut, DX.uAug, DX.uSetF, DX.uISeq, DX.uIRng1, DX.uIRng2, DX.uFor, DX.uWhile, DX.uLc, DX.uYes, DX.uRaise, DX.uTry, DX.uXf, DX.uIsX, DX.uGet, DX.uGSetO, DX.uSMeth, DX.uIEnum, DX.uIZip, DX.uGUn, DX.uPar, DX.uVar, DX.uC, DX.uNil, DX.uCons, DX.uTup, DX.uLst, DX.uLstM, DX.uOp, DX.dI, DX.dIC, DX.dEq, DX.dNe, DX.dAdd, DX.uUn, DX.uIsN, DX.dTru, DX.uTru, DX.uTest, DX.uAndB, DX.uOrB, DX.uNotB, DX.uAnd, DX.uOr, DX.uNot, DX.uIf, DX.uChain, DX.dIx, DX.uNoPart, DX.uPart, DX.uSl, DX.dIn, DX.uFld, DX.uCB, DX.one, DX.dLen, DX.dIsB, DX.uIs, DX.dIsO, DX.dInt, DX.dList, DX.dTuple, DX.uBM, DX.dAppend, DX.dExtend, DX.dIndex, DX.uM1, DX.uCall, DX.uMeth, DX.dTwo, DX.dRep, DX.dLenO, DX.dCmpO, DX.dNeO, DX.dInO, DX.dMakeM, DX.dMakeF, DX.isC, DX.insAt, List.getElem?_cons_zero, List.getElem?_cons_succ, List.getElem?_nil, List.set_cons_zero, List.set_cons_succ, List.length_cons, List.length_nil, DX.wipeD, DX.tyIs, DX.v_non, DX.vT_non, DX.ty_non, DX.v_bl, DX.vT_bl, DX.ty_bl, DX.v_int, DX.vT_int, DX.ty_int, DX.v_str, DX.vT_str, DX.ty_str, DX.v_byt, DX.vT_byt, DX.ty_byt, DX.v_lst, DX.vT_lst, DX.ty_lst, DX.v_tup, DX.vT_tup, DX.ty_tup, DX.v_kt, DX.vT_kt, DX.ty_kt, DX.v_kl, DX.vT_kl, DX.ty_kl, DX.v_ins, DX.vT_ins, DX.ty_ins, DX.v_val, DX.vT_val, DX.ty_val, if_true, if_false, Bool.false_eq_true, reduceIte, Bool.not_true, Bool.not_false, true_and, and_true, List.isEmpty_cons, List.isEmpty_nil, Nat.reduceAdd]
      refine ⟨c, hc, ?_⟩
      rcases hy with ⟨rfl, hz⟩ | ⟨rfl, rfl⟩
      · exact ⟨d, bs, b, hm, hl, hz, .inl q⟩
      · exact .inl q
    · simp (maxSteps := 4000000) only [DX.at_r0, DX.set_r0, DX.putD_nil, DX.putD_hd, DX.look_hd, DX.atI_nat, DX.at0, DX.at1, DX.at2, DX.at3, DX.eqok_int, DX.eqok_str, DX.eqok_bl, DX.deqv_int, DX.deqv_str, DX.deqv_bl, DX.uMakeM, DX.uMakeF, DX.uMakeSF, DX.uProp, DX.uGName, DX.uGNil, DX.uGCons, DX.uGTup, DX.uGSet, DX.uAsg, DX.uDrop, DX.uRet, DX.uRetN, DX.uNext, DX.uBreak, DX.uCont, DX.uNever, DX.uSeq, DX.uIfS, DX.uCut, DX.uAug, DX.uSetF, DX.uISeq, DX.uIRng1, DX.uIRng2, DX.uFor, DX.uWhile, DX.uLc, DX.uYes, DX.uRaise, DX.uTry, DX.uXf, DX.uIsX, DX.uGet, DX.uGSetO, DX.uSMeth, DX.uIEnum, DX.uIZip, DX.uGUn, DX.uPar, DX.uVar, DX.uC, DX.uNil, DX.uCons, DX.uTup, DX.uLst, DX.uLstM, DX.uOp, DX.dI, DX.dIC, DX.dEq, DX.dNe, DX.dAdd, DX.uUn, DX.uIsN, DX.dTru, DX.uTru, DX.uTest, DX.uAndB, DX.uOrB, DX.uNotB, DX.uAnd, DX.uOr, DX.uNot, DX.uIf, DX.uChain, DX.dIx, DX.uNoPart, DX.uPart, DX.uSl, DX.dIn, DX.uFld, DX.uCB, DX.one, DX.dLen, DX.dIsB, DX.uIs, DX.dIsO, DX.dInt, DX.dList, DX.dTuple, DX.uBM, DX.dAppend, DX.dExtend, DX.dIndex, DX.uM1, DX.uCall, DX.uMeth, DX.dTwo, DX.dRep, DX.dLenO, DX.dCmpO, DX.dNeO, DX.dInO, DX.dMakeM, DX.dMakeF, DX.isC, DX.insAt, List.getElem?_cons_zero, List.getElem?_cons_succ, List.getElem?_nil, List.set_cons_zero, List.set_cons_succ, List.length_cons, List.length_nil, DX.wipeD, DX.tyIs, DX.v_non, DX.vT_non, DX.ty_non, DX.v_bl, DX.vT_bl, DX.ty_bl, DX.v_int, DX.vT_int, DX.ty_int, DX.v_str, DX.vT_str, DX.ty_str, DX.v_byt, DX.vT_byt, DX.ty_byt, DX.v_lst, DX.vT_lst, DX.ty_lst, DX.v_tup, DX.vT_tup, DX.ty_tup, DX.v_kt, DX.vT_kt, DX.ty_kt, DX.v_kl, DX.vT_kl, DX.ty_kl, DX.v_ins, DX.vT_ins, DX.ty_ins, DX.v_val, DX.vT_val, DX.ty_val, if_true, if_false, Bool.false_eq_true, reduceIte, Bool.not_true, Bool.not_false, true_and, and_true, List.isEmpty_cons, List.isEmpty_nil, Nat.reduceAdd]
      rw [if_pos (by simpa using fun z => hne (by omega))]
      exact .inl q
    · simp (maxSteps := 4000000) only [ht, DX.at_r0, DX.set_r0, DX.putD_nil, DX.putD_hd, DX.look_hd, DX.atI_nat, DX.at0, DX.at1, DX.at2, DX.at3, DX.eqok_int, DX.eqok_str, DX.eqok_bl, DX.deqv_int, DX.deqv_str, DX.deqv_bl, DX.uMakeM, DX.uMakeF, DX.uMakeSF, DX.uProp, DX.uGName, DX.uGNil, DX.uGCons, DX.uGTup, DX.uGSet, DX.uAsg, DX.uDrop, DX.uRet, DX.uRetN, DX.uNext, DX.uBreak, DX.uCont, DX.uNever, DX.uSeq, DX.uIfS, DX.uCut, DX.uAug, DX.uSetF, DX.uISeq, DX.uIRng1, DX.uIRng2, DX.uFor, DX.uWhile, DX.uLc, DX.uYes, DX.uRaise, DX.uTry, DX.uXf, DX.uIsX, DX.uGet, DX.uGSetO, DX.uSMeth, DX.uIEnum, DX.uIZip, DX.uGUn, DX.uPar, DX.uVar, DX.uC, DX.uNil, DX.uCons, DX.uTup, DX.uLst, DX.uLstM, DX.uOp, DX.dI, DX.dIC, DX.dEq, DX.dNe, DX.dAdd, DX.uUn, DX.uIsN, DX.dTru, DX.uTru, DX.uTest, DX.uAndB, DX.uOrB, DX.uNotB, DX.uAnd, DX.uOr, DX.uNot, DX.uIf, DX.uChain, DX.dIx, DX.uNoPart, DX.uPart, DX.uSl, DX.dIn, DX.uFld, DX.uCB, DX.one, DX.dLen, DX.dIsB, DX.uIs, DX.dIsO, DX.dInt, DX.dList, DX.dTuple, DX.uBM, DX.dAppend, DX.dExtend, DX.dIndex, DX.uM1, DX.uCall, DX.uMeth, DX.dTwo, DX.dRep, DX.dLenO, DX.dCmpO, DX.dNeO, DX.dInO, DX.dMakeM, DX.dMakeF, DX.isC, DX.insAt, List.getElem?_cons_zero, List.getElem?_cons_succ, List.getElem?_nil, List.set_cons_zero, List.set_cons_succ, List.length_cons, List.length_nil, DX.wipeD, DX.tyIs, DX.v_non, DX.vT_non, DX.ty_non, DX.v_bl, DX.vT_bl, DX.ty_bl, DX.v_int, DX.vT_int, DX.ty_int, DX.v_str, DX.vT_str, DX.ty_str, DX.v_byt, DX.vT_byt, DX.ty_byt, DX.v_lst, DX.vT_lst, DX.ty_lst, DX.v_tup, DX.vT_tup, DX.ty_tup, DX.v_kt, DX.vT_kt, DX.ty_kt, DX.v_kl, DX.vT_kl, DX.ty_kl, DX.v_ins, DX.vT_ins, DX.ty_ins, DX.v_val, DX.vT_val, DX.ty_val, if_true, if_false, Bool.false_eq_true, reduceIte, Bool.not_true, Bool.not_false, true_and, and_true, List.isEmpty_cons, List.isEmpty_nil, Nat.reduceAdd]
      cases t <;> first | exact absurd rfl (ho _) | (cases hn; done) | exact .inl q
  · exact h.elim

def S_Made_init (W : Wd P w K mg base) : DSp := fun ds μ Q _ => match ds with
  | [.ob k, d] => μ[k]? = some (.ins W.C_Made []) ∧ Q .non (μ.set k (.ins W.C_Made [("flags", d)]))
  | _ => False

theorem ok_Made_init (W : Wd P w K mg base) : FnD P w K mg base 2 W.f_Made_init (S_Made_init W) := by
  refine (okB W.t_Made_init.d sc_Made_init (by (intro ds μ Q E h; unfold S_Made_init at h; split at h <;> first | rfl | exact h.elim)) _ (fun cdv A outer s H E' g hr => ⟨_, (b_one (s_fld W.c_Made.cl W.n_Made_flags (d_var 0) (d_var 1)))⟩) (fun ds μ Q E h => ?_)).fn0 W.t_Made_init.b
  unfold S_Made_init at h
  split at h
  · rename_i k d
    obtain ⟨hk, q⟩ := h
    rw [show startD ["self", "flags"] [.ob k, d] = [some (.ob k), some d] from rfl]
    simp (maxSteps := 4000000) only [hk, DX.at_r0, DX.set_r0, DX.putD_nil, DX.putD_hd, DX.look_hd, DX.atI_nat, DX.at0, DX.at1, DX.at2, DX.at3, DX.eqok_int, DX.eqok_str, DX.eqok_bl, DX.deqv_int, DX.deqv_str, DX.deqv_bl, DX.uMakeM, DX.uMakeF, DX.uMakeSF, DX.uProp, DX.uGName, DX.uGNil, DX.uGCons, DX.uGTup, DX.uGSet, DX.uAsg, DX.uDrop, DX.uRet, DX.uRetN, DX.uNext, DX.uBreak, DX.uCont, DX.uNever, DX.uSeq, DX.uIfS, DX.uCut, DX.uAug, DX.uSetF, DX.uISeq, DX.uIRng1, DX.uIRng2, DX.uFor, DX.uWhile, DX.uLc, DX.uYes, DX.uRaise, DX.uTry, DX.uXf, DX.uIsX, DX.uGet, DX.uGSetO, DX.uSMeth, DX.uIEnum, DX.uIZip, DX.uGUn, DX.uPar, DX.uVar, DX.uC, DX.uNil, DX.uCons, DX.uTup, DX.uLst, DX.uLstM, DX.uOp, DX.dI, DX.dIC, DX.dEq, DX.dNe, DX.dAdd, DX.uUn, DX.uIsN, DX.dTru, DX.uTru, DX.uTest, DX.uAndB, DX.uOrB, DX.uNotB, DX.uAnd, DX.uOr, DX.uNot, DX.uIf, DX.uChain, DX.dIx, DX.uNoPart, DX.uPart, DX.uSl, DX.dIn, DX.uFld, DX.uCB, DX.one, DX.dLen, DX.dIsB, DX.uIs, DX.dIsO, DX.dInt, DX.dList, DX.dTuple, DX.uBM, DX.dAppend, DX.dExtend, DX.dIndex, DX.uM1, DX.uCall, DX.uMeth, DX.dTwo, DX.dRep, DX.dLenO, DX.dCmpO, DX.dNeO, DX.dInO, DX.dMakeM, DX.dMakeF, DX.isC, DX.insAt, List.getElem?_cons_zero, List.getElem?_cons_succ, List.getElem?_nil, List.set_cons_zero, List.set_cons_succ, List.length_cons, List.length_nil, DX.wipeD, DX.tyIs, DX.v_non, DX.vT_non, DX.ty_non, DX.v_bl, DX.vT_bl, DX.ty_bl, DX.v_int, DX.vT_int, DX.ty_int, DX.v_str, DX.vT_str, DX.ty_str, DX.v_byt, DX.vT_byt, DX.ty_byt, DX.v_lst, DX.vT_lst, DX.ty_lst, DX.v_tup, DX.vT_tup, DX.ty_tup, DX.v_kt, DX.vT_kt, DX.ty_kt, DX.v_kl, DX.vT_kl, DX.ty_kl, DX.v_ins, DX.vT_ins, DX.ty_ins, DX.v_val, DX.vT_val, DX.ty_val, if_true, if_false, Bool.false_eq_true, reduceIte, Bool.not_true, Bool.not_false, true_and, and_true, List.isEmpty_cons, List.isEmpty_nil, Nat.reduceAdd]
    exact ⟨by decide, .inl q⟩
  · exact h.elim

def S_Marks_init (W : Wd P w K mg base) : DSp := fun ds μ Q _ => match ds with
  | [.ob k, x] => μ[k]? = some (.ins W.C_Marks []) ∧ ((∃ d, view μ x = .ins W.C_Made [("flags", d)] ∧ Q .non (μ.set k (.ins W.C_Marks [("_flags", d)]))) ∨
    ∃ i : Nat, x = .int i ∧ 1 ≤ i ∧ i ≤ 64 ∧ Q .non (μ.set k (.ins W.C_Marks [("_flags", .ob μ.length)]) ++ [.lst (List.replicate i (.bl false))]))
  | _ => False

theorem ok_Marks_init (W : Wd P w K mg base) : FnD P w K mg base 4 W.f_Marks_init (S_Marks_init W) := by
  refine (okB W.t_Marks_init.d sc_Marks_init (by (intro ds μ Q E h; unfold S_Marks_init at h; split at h <;> first | rfl | exact h.elim)) _ (fun cdv A outer s H E' g hr => ⟨_, (b_one (s_if (t_tru (d_isO W.c_Made.k W.z_isinstance W.c_Made.a (d_var 1))) (b_one (s_fld W.c_Marks.cl W.n_Marks_flags (d_var 0) (d_fld W.c_Made.cl W.n_Made_flags (d_var 1)))) (b_one (s_if (t_tru (d_call (ok_is_between W) W.t_is_between.a W.t_is_between.d.kp g hr (takes_of rfl rfl rfl rfl) (a_cons (d_var 1) (a_cons d_int (a_cons (d_glob W.g_MOST_PAGES.m W.g_MOST_PAGES.r W.g_MOST_PAGES.p) a_nil))))) (b_one (s_fld W.c_Marks.cl W.n_Marks_flags (d_var 0) (d_op op_rep (sim_rep true) (d_lst (a_cons d_bl a_nil)) (d_var 1)))) (b_one (s_raise W.e_BadMarks (hr.mono (by decide)) (takes_of rfl rfl rfl rfl) (a_cons (d_var 1) a_nil)))))))⟩) (fun ds μ Q E h => ?_)).fn0 W.t_Marks_init.b
  unfold S_Marks_init at h
  split at h
  · rename_i k x
    obtain ⟨hk, hx⟩ := h
    rw [show startD ["self", "many"] [.ob k, x] = [some (.ob k), some x] from rfl]
    rcases hx with ⟨d, hx, q⟩ | ⟨i, rfl, h1, h2, q⟩
    · simp (maxSteps := 4000000) only [hk, ty_view hx, hx, DX.at_r0, DX.set_r0, DX.putD_nil, DX.putD_hd, DX.look_hd, DX.atI_nat, DX.at0, DX.at1, DX.at2, DX.at3, DX.eqok_int, DX.eqok_str, DX.eqok_bl, DX.deqv_int, DX.deqv_str, DX.deqv_bl, DX.uMakeM, DX.uMakeF, DX.uMakeSF, DX.uProp, DX.uGName, DX.uGNil, DX.uGCons, DX.uGTup, DX.uGSet, DX.uAsg, DX.uDrop, DX.uRet, DX.uRetN, DX.uNext, DX.uBreak, DX.uCont, DX.uNever, DX.uSeq, DX.uIfS, DX.uCut, DX.uAug, DX.uSetF, DX.uISeq, DX.uIRng1, DX.uIRng2, DX.uFor, DX.uWhile, DX.uLc, DX.uYes, DX.uRaise, DX.uTry, DX.uXf, DX.uIsX, DX.uGet, DX.uGSetO, DX.uSMeth, DX.uIEnum, DX.uIZip, DX.uGUn, DX.uPar, DX.uVar, DX.uC, DX.uNil, DX.uCons, DX.uTup, DX.uLst, DX.uLstM, DX.uOp, DX.dI, DX.dIC, DX.dEq, DX.dNe, DX.dAdd, DX.uUn, DX.uIsN, DX.dTru, DX.uTru, DX.uTest, DX.uAndB, DX.uOrB, DX.uNotB, DX.uAnd, DX.uOr, DX.uNot, DX.uIf, DX.uChain, DX.dIx, DX.uNoPart, DX.uPart, DX.uSl, DX.dIn, DX.uFld, DX.uCB, DX.one, DX.dLen, DX.dIsB, DX.uIs, DX.dIsO, DX.dInt, DX.dList, DX.dTuple, DX.uBM, DX.dAppend, DX.dExtend, DX.dIndex, DX.uM1, DX.uCall, DX.uMeth, DX.dTwo, DX.dRep, DX.dLenO, DX.dCmpO, DX.dNeO, DX.dInO, DX.dMakeM, DX.dMakeF, DX.isC, DX.insAt, List.getElem?_cons_zero, List.getElem?_cons_succ, List.getElem?_nil, List.set_cons_zero, List.set_cons_succ, List.length_cons, List.length_nil, DX.wipeD, DX.tyIs, DX.v_non, DX.vT_non, DX.ty_non, DX.v_bl, DX.vT_bl, DX.ty_bl, DX.v_int, DX.vT_int, DX.ty_int, DX.v_str, DX.vT_str, DX.ty_str, DX.v_byt, DX.vT_byt, DX.ty_byt, DX.v_lst, DX.vT_lst, DX.ty_lst, DX.v_tup, DX.vT_tup, DX.ty_tup, DX.v_kt, DX.vT_kt, DX.ty_kt, DX.v_kl, DX.vT_kl, DX.ty_kl, DX.v_ins, DX.vT_ins, DX.ty_ins, DX.v_val, DX.vT_val, DX.ty_val, if_true, if_false, Bool.false_eq_true, reduceIte, Bool.not_true, Bool.not_false, true_and, and_true, List.isEmpty_cons, List.isEmpty_nil, Nat.reduceAdd]
      refine ⟨W.c_Made.o, true, W.c_Made.s, ?_⟩
      simp (maxSteps := 4000000) only [DX.at_r0, DX.set_r0, DX.putD_nil, DX.putD_hd, DX.look_hd, DX.atI_nat, DX.at0, DX.at1, DX.at2, DX.at3, DX.eqok_int, DX.eqok_str, DX.eqok_bl, DX.deqv_int, DX.deqv_str, DX.deqv_bl, DX.uMakeM, DX.uMakeF, DX.uMakeSF, DX.uProp, DX.uGName, DX.uGNil, DX.uGCons, DX.uGTup, DX.uGSet, DX.uAsg, DX.uDrop, DX.uRet, DX.uRetN, DX.uNext, DX.uBreak, DX.uCont, DX.uNever, DX.uSeq, DX.uIfS, DX.uCut, DX.uAug, DX.uSetF, DX.uISeq, DX.uIRng1, DX.uIRng2, DX.uFor, DX.uWhile, DX.uLc, DX.uYes, DX.uRaise, DX.uTry, DX.uXf, DX.uIsX, DX.uGet, DX.uGSetO, DX.uSMeth, DX.uIEnum, DX.uIZip, DX.uGUn, DX.uPar, DX.uVar, DX.uC, DX.uNil, DX.uCons, DX.uTup, DX.uLst, DX.uLstM, DX.uOp, DX.dI, DX.dIC, DX.dEq, DX.dNe, DX.dAdd, DX.uUn, DX.uIsN, DX.dTru, DX.uTru, DX.uTest, DX.uAndB, DX.uOrB, DX.uNotB, DX.uAnd, DX.uOr, DX.uNot, DX.uIf, DX.uChain, DX.dIx, DX.uNoPart, DX.uPart, DX.uSl, DX.dIn, DX.uFld, DX.uCB, DX.one, DX.dLen, DX.dIsB, DX.uIs, DX.dIsO, DX.dInt, DX.dList, DX.dTuple, DX.uBM, DX.dAppend, DX.dExtend, DX.dIndex, DX.uM1, DX.uCall, DX.uMeth, DX.dTwo, DX.dRep, DX.dLenO, DX.dCmpO, DX.dNeO, DX.dInO, DX.dMakeM, DX.dMakeF, DX.isC, DX.insAt, List.getElem?_cons_zero, List.getElem?_cons_succ, List.getElem?_nil, List.set_cons_zero, List.set_cons_succ, List.length_cons, List.length_nil, DX.wipeD, DX.tyIs, DX.v_non, DX.vT_non, DX.ty_non, DX.v_bl, DX.vT_bl, DX.ty_bl, DX.v_int, DX.vT_int, DX.ty_int, DX.v_str, DX.vT_str, DX.ty_str, DX.v_byt, DX.vT_byt, DX.ty_byt, DX.v_lst, DX.vT_lst, DX.ty_lst, DX.v_tup, DX.vT_tup, DX.ty_tup, DX.v_kt, DX.vT_kt, DX.ty_kt, DX.v_kl, DX.vT_kl, DX.ty_kl, DX.v_ins, DX.vT_ins, DX.ty_ins, DX.v_val, DX.vT_val, DX.ty_val, if_true, if_false, Bool.false_eq_true, reduceIte, Bool.not_true, Bool.not_false, true_and, and_true, List.isEmpty_cons, List.isEmpty_nil, Nat.reduceAdd]
      exact ⟨by decide, .inl q⟩
    · simp (maxSteps := 4000000) only [hk, at_l (lt_of_at hk), set_l (lt_of_at hk), S_is_between, DX.at_r0, DX.set_r0, DX.putD_nil, DX.putD_hd, DX.look_hd, DX.atI_nat, DX.at0, DX.at1, DX.at2, DX.at3, DX.eqok_int, DX.eqok_str, DX.eqok_bl, DX.deqv_int, DX.deqv_str, DX.deqv_bl, DX.uMakeM, DX.uMakeF, DX.uMakeSF, DX.uProp, DX.uGName, DX.uGNil, DX.uGCons, DX.uGTup, DX.uGSet, DX.uAsg, DX.uDrop, DX.uRet, DX.uRetN, DX.uNext, DX.uBreak, DX.uCont, DX.uNever, DX.uSeq, DX.uIfS, DX.uCut, DX.uAug, DX.uSetF, DX.uISeq, DX.uIRng1, DX.uIRng2, DX.uFor, DX.uWhile, DX.uLc, DX.uYes, DX.uRaise, DX.uTry, DX.uXf, DX.uIsX, DX.uGet, DX.uGSetO, DX.uSMeth, DX.uIEnum, DX.uIZip, DX.uGUn, DX.uPar, DX.uVar, DX.uC, DX.uNil, DX.uCons, DX.uTup, DX.uLst, DX.uLstM, DX.uOp, DX.dI, DX.dIC, DX.dEq, DX.dNe, DX.dAdd, DX.uUn, DX.uIsN, DX.dTru, DX.uTru, DX.uTest, DX.uAndB, DX.uOrB, DX.uNotB, DX.uAnd, DX.uOr, DX.uNot, DX.uIf, DX.uChain, DX.dIx, DX.uNoPart, DX.uPart, DX.uSl, DX.dIn, DX.uFld, DX.uCB, DX.one, DX.dLen, DX.dIsB, DX.uIs, DX.dIsO, DX.dInt, DX.dList, DX.dTuple, DX.uBM, DX.dAppend, DX.dExtend, DX.dIndex, DX.uM1, DX.uCall, DX.uMeth, DX.dTwo, DX.dRep, DX.dLenO, DX.dCmpO, DX.dNeO, DX.dInO, DX.dMakeM, DX.dMakeF, DX.isC, DX.insAt, List.getElem?_cons_zero, List.getElem?_cons_succ, List.getElem?_nil, List.set_cons_zero, List.set_cons_succ, List.length_cons, List.length_nil, DX.wipeD, DX.tyIs, DX.v_non, DX.vT_non, DX.ty_non, DX.v_bl, DX.vT_bl, DX.ty_bl, DX.v_int, DX.vT_int, DX.ty_int, DX.v_str, DX.vT_str, DX.ty_str, DX.v_byt, DX.vT_byt, DX.ty_byt, DX.v_lst, DX.vT_lst, DX.ty_lst, DX.v_tup, DX.vT_tup, DX.ty_tup, DX.v_kt, DX.vT_kt, DX.ty_kt, DX.v_kl, DX.vT_kl, DX.ty_kl, DX.v_ins, DX.vT_ins, DX.ty_ins, DX.v_val, DX.vT_val, DX.ty_val, if_true, if_false, Bool.false_eq_true, reduceIte, Bool.not_true, Bool.not_false, true_and, and_true, List.isEmpty_cons, List.isEmpty_nil, Nat.reduceAdd]
      refine ⟨true, by unfold betB; simp; omega, ?_⟩
      simp (maxSteps := 4000000) only [DX.at_r0, DX.set_r0, DX.putD_nil, DX.putD_hd, DX.look_hd, DX.atI_nat, DX.at0, DX.at1, DX.at2, DX.at3, DX.eqok_int, DX.eqok_str, DX.eqok_bl, DX.deqv_int, DX.deqv_str, DX.deqv_bl, DX.uMakeM, DX.uMakeF, DX.uMakeSF, DX.uProp, DX.uGName, DX.uGNil, DX.uGCons, DX.uGTup, DX.uGSet, DX.uAsg, DX.uDrop, DX.uRet, DX.uRetN, DX.uNext, DX.uBreak, DX.uCont, DX.uNever, DX.uSeq, DX.uIfS, DX.uCut, DX.uAug, DX.uSetF, DX.uISeq, DX.uIRng1, DX.uIRng2, DX.uFor, DX.uWhile, DX.uLc, DX.uYes, DX.uRaise, DX.uTry, DX.uXf, DX.uIsX, DX.uGet, DX.uGSetO, DX.uSMeth, DX.uIEnum, DX.uIZip, DX.uGUn, DX.uPar, DX.uVar, DX.uC, DX.uNil, DX.uCons, DX.uTup, DX.uLst, DX.uLstM, DX.uOp, DX.dI, DX.dIC, DX.dEq, DX.dNe, DX.dAdd, DX.uUn, DX.uIsN, DX.dTru, DX.uTru, DX.uTest, DX.uAndB, DX.uOrB, DX.uNotB, DX.uAnd, DX.uOr, DX.uNot, DX.uIf, DX.uChain, DX.dIx, DX.uNoPart, DX.uPart, DX.uSl, DX.dIn, DX.uFld, DX.uCB, DX.one, DX.dLen, DX.dIsB, DX.uIs, DX.dIsO, DX.dInt, DX.dList, DX.dTuple, DX.uBM, DX.dAppend, DX.dExtend, DX.dIndex, DX.uM1, DX.uCall, DX.uMeth, DX.dTwo, DX.dRep, DX.dLenO, DX.dCmpO, DX.dNeO, DX.dInO, DX.dMakeM, DX.dMakeF, DX.isC, DX.insAt, List.getElem?_cons_zero, List.getElem?_cons_succ, List.getElem?_nil, List.set_cons_zero, List.set_cons_succ, List.length_cons, List.length_nil, DX.wipeD, DX.tyIs, DX.v_non, DX.vT_non, DX.ty_non, DX.v_bl, DX.vT_bl, DX.ty_bl, DX.v_int, DX.vT_int, DX.ty_int, DX.v_str, DX.vT_str, DX.ty_str, DX.v_byt, DX.vT_byt, DX.ty_byt, DX.v_lst, DX.vT_lst, DX.ty_lst, DX.v_tup, DX.vT_tup, DX.ty_tup, DX.v_kt, DX.vT_kt, DX.ty_kt, DX.v_kl, DX.vT_kl, DX.ty_kl, DX.v_ins, DX.vT_ins, DX.ty_ins, DX.v_val, DX.vT_val, DX.ty_val, if_true, if_false, Bool.false_eq_true, reduceIte, Bool.not_true, Bool.not_false, true_and, and_true, List.isEmpty_cons, List.isEmpty_nil, Nat.reduceAdd]
      have z : i ≤ sizeLine := Nat.le_trans h2 (by decide)
      refine ⟨by decide, ⟨by omega, by omega, by simpa using z⟩, by decide, .inl ?_⟩
      have e : (List.replicate i [D.bl false]).flatten = List.replicate i (D.bl false) := by
        induction i with
        | zero => rfl
        | succ n _ => simp
      simpa [e] using q
  · exact h.elim

def S_Marks_twin (W : Wd P w K mg base) : DSp := fun ds μ Q _ => match ds with
  | [x] => ∃ d bs, Mkv W μ x d bs ∧ Q (.ob (μ.length + 1)) (μ ++ [.lst (bs.map .bl), .ins W.C_Marks [("_flags", .ob μ.length)]])
  | _ => False

theorem ok_Marks_twin (W : Wd P w K mg base) : FnD P w K mg base 6 W.f_Marks_twin (S_Marks_twin W) := by
  refine (okB W.t_Marks_twin.d sc_Marks_twin (by (intro ds μ Q E h; unfold S_Marks_twin at h; split at h <;> first | rfl | exact h.elim)) _ (fun cdv A outer s H E' g hr => ⟨_, (b_one (s_ret (d_makeM W.mk_Marks (ok_Marks_init W) W.c_Marks.a g hr (takes_of rfl rfl rfl rfl) (a_cons (d_makeF W.mk_Made (ok_Made_init W) W.c_Made.a g (hr.mono (by decide)) (takes_of rfl rfl rfl rfl) (a_cons (d_callTy (call_listA rfl) (sim_list true) W.z_list (a_cons (d_fld W.c_Marks.cl W.n_Marks_flags (d_var 0)) a_nil)) a_nil)) a_nil))))⟩) (fun ds μ Q E h => ?_)).fn0 W.t_Marks_twin.b
  unfold S_Marks_twin at h
  split at h
  · rename_i x
    obtain ⟨d, bs, ⟨h1, h2⟩, q⟩ := h
    rw [show startD ["self"] [x] = [some x] from rfl]
    simp (maxSteps := 4000000) only [h1, h2, S_Made_init, S_Marks_init, DX.at_r0, DX.set_r0, DX.putD_nil, DX.putD_hd, DX.look_hd, DX.atI_nat, DX.at0, DX.at1, DX.at2, DX.at3, DX.eqok_int, DX.eqok_str, DX.eqok_bl, DX.deqv_int, DX.deqv_str, DX.deqv_bl, DX.uMakeM, DX.uMakeF, DX.uMakeSF, DX.uProp, DX.uGName, DX.uGNil, DX.uGCons, DX.uGTup, DX.uGSet, DX.uAsg, DX.uDrop, DX.uRet, DX.uRetN, DX.uNext, DX.uBreak, DX.uCont, DX.uNever, DX.uSeq, DX.uIfS, DX.uCut, DX.uAug, DX.uSetF, DX.uISeq, DX.uIRng1, DX.uIRng2, DX.uFor, DX.uWhile, DX.uLc, DX.uYes, DX.uRaise, DX.uTry, DX.uXf, DX.uIsX, DX.uGet, DX.uGSetO, DX.uSMeth, DX.uIEnum, DX.uIZip, DX.uGUn, DX.uPar, DX.uVar, DX.uC, DX.uNil, DX.uCons, DX.uTup, DX.uLst, DX.uLstM, DX.uOp, DX.dI, DX.dIC, DX.dEq, DX.dNe, DX.dAdd, DX.uUn, DX.uIsN, DX.dTru, DX.uTru, DX.uTest, DX.uAndB, DX.uOrB, DX.uNotB, DX.uAnd, DX.uOr, DX.uNot, DX.uIf, DX.uChain, DX.dIx, DX.uNoPart, DX.uPart, DX.uSl, DX.dIn, DX.uFld, DX.uCB, DX.one, DX.dLen, DX.dIsB, DX.uIs, DX.dIsO, DX.dInt, DX.dList, DX.dTuple, DX.uBM, DX.dAppend, DX.dExtend, DX.dIndex, DX.uM1, DX.uCall, DX.uMeth, DX.dTwo, DX.dRep, DX.dLenO, DX.dCmpO, DX.dNeO, DX.dInO, DX.dMakeM, DX.dMakeF, DX.isC, DX.insAt, List.getElem?_cons_zero, List.getElem?_cons_succ, List.getElem?_nil, List.set_cons_zero, List.set_cons_succ, List.length_cons, List.length_nil, DX.wipeD, DX.tyIs, DX.v_non, DX.vT_non, DX.ty_non, DX.v_bl, DX.vT_bl, DX.ty_bl, DX.v_int, DX.vT_int, DX.ty_int, DX.v_str, DX.vT_str, DX.ty_str, DX.v_byt, DX.vT_byt, DX.ty_byt, DX.v_lst, DX.vT_lst, DX.ty_lst, DX.v_tup, DX.vT_tup, DX.ty_tup, DX.v_kt, DX.vT_kt, DX.ty_kt, DX.v_kl, DX.vT_kl, DX.ty_kl, DX.v_ins, DX.vT_ins, DX.ty_ins, DX.v_val, DX.vT_val, DX.ty_val, if_true, if_false, Bool.false_eq_true, reduceIte, Bool.not_true, Bool.not_false, true_and, and_true, List.isEmpty_cons, List.isEmpty_nil, Nat.reduceAdd]
    refine ⟨[("flags", .ob μ.length)], rfl, by simp [cldF, cld], .inl ⟨_, rfl, .inl ?_⟩⟩
    simpa using q
  · exact h.elim

end
end Toy
set_option Elab.async false
set_option linter.all false
set_option maxRecDepth 100000
set_option maxHeartbeats 4000000
namespace Toy
open PySem PySem.Spec PyProof.Rows L2 DX
section
variable {P : Program} {w : World} {K : PySem.W.Frag} {mg : Str → Option Value} {base : Heap}
theorem betT {μ : Mem} {n k : Nat} (h : n < k) : betB μ (.int n) 0 ((k : Int) - 1) = some true := by
  unfold betB; simp; omega
def S_Marks_getitem (W : Wd P w K mg base) : DSp := fun ds μ Q _ => match ds with
  | [x, .int i] => ∃ d bs n b, Mkv W μ x d bs ∧ i = (n : Nat) ∧ bs[n]? = some b ∧ Q (.bl b) μ
  | _ => False

theorem ok_Marks_getitem (W : Wd P w K mg base) : FnD P w K mg base 4 W.f_Marks_getitem (S_Marks_getitem W) := by
  refine (okB W.t_Marks_getitem.d sc_Marks_getitem (by (intro ds μ Q E h; unfold S_Marks_getitem at h; split at h <;> first | rfl | exact h.elim)) _ (fun cdv A outer s H E' g hr => ⟨_, (b_cons (s_if (t_not (t_tru (d_call (ok_is_between W) W.t_is_between.a W.t_is_between.d.kp g hr (takes_of rfl rfl rfl rfl) (a_cons (d_var 1) (a_cons d_int (a_cons (d_op op_sub sim_sub (d_callB (call_lenA rfl) sim_len W.z_len (a_cons (d_fld W.c_Marks.cl W.n_Marks_flags (d_var 0)) a_nil)) d_int) a_nil)))))) (b_one (s_raise W.e_BadMarks (hr.mono (by decide)) (takes_of rfl rfl rfl rfl) (a_cons (d_var 1) a_nil))) b_nil)
      (b_one (s_ret (d_ix (d_fld W.c_Marks.cl W.n_Marks_flags (d_var 0)) (d_var 1)))))⟩) (fun ds μ Q E h => ?_)).fn0 W.t_Marks_getitem.b
  unfold S_Marks_getitem at h
  split at h
  · rename_i x i
    obtain ⟨d, bs, n, b, ⟨h1, h2⟩, rfl, hb, q⟩ := h
    rw [show startD ["self", "at"] [x, .int (n : Nat)] = [some x, some (.int (n : Nat))] from rfl]
    simp (maxSteps := 4000000) only [h1, h2, S_is_between, List.length_map, List.getElem?_map, hb, Option.map_some, DX.at_r0, DX.set_r0, DX.putD_nil, DX.putD_hd, DX.look_hd, DX.atI_nat, DX.at0, DX.at1, DX.at2, DX.at3, DX.eqok_int, DX.eqok_str, DX.eqok_bl, DX.deqv_int, DX.deqv_str, DX.deqv_bl, DX.uMakeM, DX.uMakeF, DX.uMakeSF, DX.uProp, DX.uGName, DX.uGNil, DX.uGCons, DX.uGTup, DX.uGSet, DX.uAsg, DX.uDrop, DX.uRet, DX.uRetN, DX.uNext, DX.uBreak, DX.uCont, DX.uNever, DX.uSeq, DX.uIfS, DX.uCut, DX.uAug, DX.uSetF, DX.uISeq, DX.uIRng1, DX.uIRng2, DX.uFor, DX.uWhile, DX.uLc, DX.uYes, DX.uRaise, DX.uTry, DX.uXf, DX.uIsX, DX.uGet, DX.uGSetO, DX.uSMeth, DX.uIEnum, DX.uIZip, DX.uGUn, DX.uPar, DX.uVar, DX.uC, DX.uNil, DX.uCons, DX.uTup, DX.uLst, DX.uLstM, DX.uOp, DX.dI, DX.dIC, DX.dEq, DX.dNe, DX.dAdd, DX.uUn, DX.uIsN, DX.dTru, DX.uTru, DX.uTest, DX.uAndB, DX.uOrB, DX.uNotB, DX.uAnd, DX.uOr, DX.uNot, DX.uIf, DX.uChain, DX.dIx, DX.uNoPart, DX.uPart, DX.uSl, DX.dIn, DX.uFld, DX.uCB, DX.one, DX.dLen, DX.dIsB, DX.uIs, DX.dIsO, DX.dInt, DX.dList, DX.dTuple, DX.uBM, DX.dAppend, DX.dExtend, DX.dIndex, DX.uM1, DX.uCall, DX.uMeth, DX.dTwo, DX.dRep, DX.dLenO, DX.dCmpO, DX.dNeO, DX.dInO, DX.dMakeM, DX.dMakeF, DX.isC, DX.insAt, List.getElem?_cons_zero, List.getElem?_cons_succ, List.getElem?_nil, List.set_cons_zero, List.set_cons_succ, List.length_cons, List.length_nil, DX.wipeD, DX.tyIs, DX.v_non, DX.vT_non, DX.ty_non, DX.v_bl, DX.vT_bl, DX.ty_bl, DX.v_int, DX.vT_int, DX.ty_int, DX.v_str, DX.vT_str, DX.ty_str, DX.v_byt, DX.vT_byt, DX.ty_byt, DX.v_lst, DX.vT_lst, DX.ty_lst, DX.v_tup, DX.vT_tup, DX.ty_tup, DX.v_kt, DX.vT_kt, DX.ty_kt, DX.v_kl, DX.vT_kl, DX.ty_kl, DX.v_ins, DX.vT_ins, DX.ty_ins, DX.v_val, DX.vT_val, DX.ty_val, if_true, if_false, Bool.false_eq_true, reduceIte, Bool.not_true, Bool.not_false, true_and, and_true, List.isEmpty_cons, List.isEmpty_nil, Nat.reduceAdd]
    refine ⟨true, betT (lt_of_at hb), ?_⟩
    simp (maxSteps := 4000000) only [DX.at_r0, DX.set_r0, DX.putD_nil, DX.putD_hd, DX.look_hd, DX.atI_nat, DX.at0, DX.at1, DX.at2, DX.at3, DX.eqok_int, DX.eqok_str, DX.eqok_bl, DX.deqv_int, DX.deqv_str, DX.deqv_bl, DX.uMakeM, DX.uMakeF, DX.uMakeSF, DX.uProp, DX.uGName, DX.uGNil, DX.uGCons, DX.uGTup, DX.uGSet, DX.uAsg, DX.uDrop, DX.uRet, DX.uRetN, DX.uNext, DX.uBreak, DX.uCont, DX.uNever, DX.uSeq, DX.uIfS, DX.uCut, DX.uAug, DX.uSetF, DX.uISeq, DX.uIRng1, DX.uIRng2, DX.uFor, DX.uWhile, DX.uLc, DX.uYes, DX.uRaise, DX.uTry, DX.uXf, DX.uIsX, DX.uGet, DX.uGSetO, DX.uSMeth, DX.uIEnum, DX.uIZip, DX.uGUn, DX.uPar, DX.uVar, DX.uC, DX.uNil, DX.uCons, DX.uTup, DX.uLst, DX.uLstM, DX.uOp, DX.dI, DX.dIC, DX.dEq, DX.dNe, DX.dAdd, DX.uUn, DX.uIsN, DX.dTru, DX.uTru, DX.uTest, DX.uAndB, DX.uOrB, DX.uNotB, DX.uAnd, DX.uOr, DX.uNot, DX.uIf, DX.uChain, DX.dIx, DX.uNoPart, DX.uPart, DX.uSl, DX.dIn, DX.uFld, DX.uCB, DX.one, DX.dLen, DX.dIsB, DX.uIs, DX.dIsO, DX.dInt, DX.dList, DX.dTuple, DX.uBM, DX.dAppend, DX.dExtend, DX.dIndex, DX.uM1, DX.uCall, DX.uMeth, DX.dTwo, DX.dRep, DX.dLenO, DX.dCmpO, DX.dNeO, DX.dInO, DX.dMakeM, DX.dMakeF, DX.isC, DX.insAt, List.getElem?_cons_zero, List.getElem?_cons_succ, List.getElem?_nil, List.set_cons_zero, List.set_cons_succ, List.length_cons, List.length_nil, DX.wipeD, DX.tyIs, DX.v_non, DX.vT_non, DX.ty_non, DX.v_bl, DX.vT_bl, DX.ty_bl, DX.v_int, DX.vT_int, DX.ty_int, DX.v_str, DX.vT_str, DX.ty_str, DX.v_byt, DX.vT_byt, DX.ty_byt, DX.v_lst, DX.vT_lst, DX.ty_lst, DX.v_tup, DX.vT_tup, DX.ty_tup, DX.v_kt, DX.vT_kt, DX.ty_kt, DX.v_kl, DX.vT_kl, DX.ty_kl, DX.v_ins, DX.vT_ins, DX.ty_ins, DX.v_val, DX.vT_val, DX.ty_val, if_true, if_false, Bool.false_eq_true, reduceIte, Bool.not_true, Bool.not_false, true_and, and_true, List.isEmpty_cons, List.isEmpty_nil, Nat.reduceAdd]
    exact .inl q
  · exact h.elim

def S_Marks_setitem (W : Wd P w K mg base) : DSp := fun ds μ Q _ => match ds with
  | [x, .int i, .bl v] => ∃ (j : Nat) (bs : List Bool) (n : Nat), view μ x = .ins W.C_Marks [("_flags", .ob j)] ∧ μ[j]? = some (.lst (bs.map .bl)) ∧ i = (n : Nat) ∧ n < bs.length ∧ Q .non (μ.set j (.lst ((bs.set n v).map .bl)))
  | _ => False

theorem ok_Marks_setitem (W : Wd P w K mg base) : FnD P w K mg base 4 W.f_Marks_setitem (S_Marks_setitem W) := by
  refine (okB W.t_Marks_setitem.d sc_Marks_setitem (by (intro ds μ Q E h; unfold S_Marks_setitem at h; split at h <;> first | rfl | exact h.elim)) _ (fun cdv A outer s H E' g hr => ⟨_, (b_cons (s_if (t_not (t_tru (d_call (ok_is_between W) W.t_is_between.a W.t_is_between.d.kp g hr (takes_of rfl rfl rfl rfl) (a_cons (d_var 1) (a_cons d_int (a_cons (d_op op_sub sim_sub (d_callB (call_lenA rfl) sim_len W.z_len (a_cons (d_fld W.c_Marks.cl W.n_Marks_flags (d_var 0)) a_nil)) d_int) a_nil)))))) (b_one (s_raise W.e_BadMarks (hr.mono (by decide)) (takes_of rfl rfl rfl rfl) (a_cons (d_var 1) a_nil))) b_nil)
      (b_cons (s_if (t_not (t_tru (d_isB .bl (by intro _ z; cases z) rfl W.z_isinstance W.z_bool (d_var 2)))) (b_one (s_raise W.e_BadMarks (hr.mono (by decide)) (takes_of rfl rfl rfl rfl) (a_cons d_non a_nil))) b_nil)
      (b_one (s_asg (d_var 2) (g_set (d_fld W.c_Marks.cl W.n_Marks_flags (d_var 0)) (d_var 1))))))⟩) (fun ds μ Q E h => ?_)).fn0 W.t_Marks_setitem.b
  unfold S_Marks_setitem at h
  split at h
  · rename_i x i v
    obtain ⟨j, bs, n, h1, h2, rfl, hn, q⟩ := h
    rw [show startD ["self", "at", "value"] [x, .int (n : Nat), .bl v] = [some x, some (.int (n : Nat)), some (.bl v)] from rfl]
    simp (maxSteps := 4000000) only [h1, h2, v_obL h2, S_is_between, List.length_map, ixN_nat (show n < (bs.map D.bl).length by rw [List.length_map]; exact hn), ixN_nat hn, DX.at_r0, DX.set_r0, DX.putD_nil, DX.putD_hd, DX.look_hd, DX.atI_nat, DX.at0, DX.at1, DX.at2, DX.at3, DX.eqok_int, DX.eqok_str, DX.eqok_bl, DX.deqv_int, DX.deqv_str, DX.deqv_bl, DX.uMakeM, DX.uMakeF, DX.uMakeSF, DX.uProp, DX.uGName, DX.uGNil, DX.uGCons, DX.uGTup, DX.uGSet, DX.uAsg, DX.uDrop, DX.uRet, DX.uRetN, DX.uNext, DX.uBreak, DX.uCont, DX.uNever, DX.uSeq, DX.uIfS, DX.uCut, DX.uAug, DX.uSetF, DX.uISeq, DX.uIRng1, DX.uIRng2, DX.uFor, DX.uWhile, DX.uLc, DX.uYes, DX.uRaise, DX.uTry, DX.uXf, DX.uIsX, DX.uGet, DX.uGSetO, DX.uSMeth, DX.uIEnum, DX.uIZip, DX.uGUn, DX.uPar, DX.uVar, DX.uC, DX.uNil, DX.uCons, DX.uTup, DX.uLst, DX.uLstM, DX.uOp, DX.dI, DX.dIC, DX.dEq, DX.dNe, DX.dAdd, DX.uUn, DX.uIsN, DX.dTru, DX.uTru, DX.uTest, DX.uAndB, DX.uOrB, DX.uNotB, DX.uAnd, DX.uOr, DX.uNot, DX.uIf, DX.uChain, DX.dIx, DX.uNoPart, DX.uPart, DX.uSl, DX.dIn, DX.uFld, DX.uCB, DX.one, DX.dLen, DX.dIsB, DX.uIs, DX.dIsO, DX.dInt, DX.dList, DX.dTuple, DX.uBM, DX.dAppend, DX.dExtend, DX.dIndex, DX.uM1, DX.uCall, DX.uMeth, DX.dTwo, DX.dRep, DX.dLenO, DX.dCmpO, DX.dNeO, DX.dInO, DX.dMakeM, DX.dMakeF, DX.isC, DX.insAt, List.getElem?_cons_zero, List.getElem?_cons_succ, List.getElem?_nil, List.set_cons_zero, List.set_cons_succ, List.length_cons, List.length_nil, DX.wipeD, DX.tyIs, DX.v_non, DX.vT_non, DX.ty_non, DX.v_bl, DX.vT_bl, DX.ty_bl, DX.v_int, DX.vT_int, DX.ty_int, DX.v_str, DX.vT_str, DX.ty_str, DX.v_byt, DX.vT_byt, DX.ty_byt, DX.v_lst, DX.vT_lst, DX.ty_lst, DX.v_tup, DX.vT_tup, DX.ty_tup, DX.v_kt, DX.vT_kt, DX.ty_kt, DX.v_kl, DX.vT_kl, DX.ty_kl, DX.v_ins, DX.vT_ins, DX.ty_ins, DX.v_val, DX.vT_val, DX.ty_val, if_true, if_false, Bool.false_eq_true, reduceIte, Bool.not_true, Bool.not_false, true_and, and_true, List.isEmpty_cons, List.isEmpty_nil, Nat.reduceAdd]
    refine ⟨true, betT hn, ?_⟩
    simp (maxSteps := 4000000) only [DX.at_r0, DX.set_r0, DX.putD_nil, DX.putD_hd, DX.look_hd, DX.atI_nat, DX.at0, DX.at1, DX.at2, DX.at3, DX.eqok_int, DX.eqok_str, DX.eqok_bl, DX.deqv_int, DX.deqv_str, DX.deqv_bl, DX.uMakeM, DX.uMakeF, DX.uMakeSF, DX.uProp, DX.uGName, DX.uGNil, DX.uGCons, DX.uGTup, DX.uGSet, DX.uAsg, DX.uDrop, DX.uRet, DX.uRetN, DX.uNext, DX.uBreak, DX.uCont, DX.uNever, DX.uSeq, DX.uIfS, DX.uCut, DX.uAug, DX.uSetF, DX.uISeq, DX.uIRng1, DX.uIRng2, DX.uFor, DX.uWhile, DX.uLc, DX.uYes, DX.uRaise, DX.uTry, DX.uXf, DX.uIsX, DX.uGet, DX.uGSetO, DX.uSMeth, DX.uIEnum, DX.uIZip, DX.uGUn, DX.uPar, DX.uVar, DX.uC, DX.uNil, DX.uCons, DX.uTup, DX.uLst, DX.uLstM, DX.uOp, DX.dI, DX.dIC, DX.dEq, DX.dNe, DX.dAdd, DX.uUn, DX.uIsN, DX.dTru, DX.uTru, DX.uTest, DX.uAndB, DX.uOrB, DX.uNotB, DX.uAnd, DX.uOr, DX.uNot, DX.uIf, DX.uChain, DX.dIx, DX.uNoPart, DX.uPart, DX.uSl, DX.dIn, DX.uFld, DX.uCB, DX.one, DX.dLen, DX.dIsB, DX.uIs, DX.dIsO, DX.dInt, DX.dList, DX.dTuple, DX.uBM, DX.dAppend, DX.dExtend, DX.dIndex, DX.uM1, DX.uCall, DX.uMeth, DX.dTwo, DX.dRep, DX.dLenO, DX.dCmpO, DX.dNeO, DX.dInO, DX.dMakeM, DX.dMakeF, DX.isC, DX.insAt, List.getElem?_cons_zero, List.getElem?_cons_succ, List.getElem?_nil, List.set_cons_zero, List.set_cons_succ, List.length_cons, List.length_nil, DX.wipeD, DX.tyIs, DX.v_non, DX.vT_non, DX.ty_non, DX.v_bl, DX.vT_bl, DX.ty_bl, DX.v_int, DX.vT_int, DX.ty_int, DX.v_str, DX.vT_str, DX.ty_str, DX.v_byt, DX.vT_byt, DX.ty_byt, DX.v_lst, DX.vT_lst, DX.ty_lst, DX.v_tup, DX.vT_tup, DX.ty_tup, DX.v_kt, DX.vT_kt, DX.ty_kt, DX.v_kl, DX.vT_kl, DX.ty_kl, DX.v_ins, DX.vT_ins, DX.ty_ins, DX.v_val, DX.vT_val, DX.ty_val, if_true, if_false, Bool.false_eq_true, reduceIte, Bool.not_true, Bool.not_false, true_and, and_true, List.isEmpty_cons, List.isEmpty_nil, Nat.reduceAdd]
    rw [List.map_set] at q
    exact .inl q
  · exact h.elim

end
end Toy
set_option Elab.async false
set_option linter.all false
set_option maxRecDepth 100000
set_option maxHeartbeats 4000000
namespace Toy
open PySem PySem.Spec PyProof.Rows L2 DX
section
variable {P : Program} {w : World} {K : PySem.W.Frag} {mg : Str → Option Value} {base : Heap}
def dd (p : Bool × Nat) : D := .tup [.str (if p.1 then "write" else "read"), .int p.2]
def cc (p : Nat × Nat) : D := .tup [.int p.1, .int p.2]
def clr (i : Nat) : List (Nat × Nat) → List Bool → List Bool
  | [], now => now
  | (g, p) :: r, now => clr i r (if g = i then now.set p true else now)
def lstep (cl : List (Nat × Nat)) (i : Nat) (s : List Bool × Nat) (d : Bool × Nat) : List Bool × Nat :=
  if d.1 then ((clr i cl s.1).set d.2 false, s.2) else if (clr i cl s.1)[d.2]? = some true then (clr i cl s.1, s.2) else (clr i cl s.1, s.2 + 1)
def lrun (cl : List (Nat × Nat)) (i : Nat) : List (Bool × Nat) → List Bool × Nat → List Bool × Nat
  | [], s => s
  | d :: r, s => lrun cl (i + 1) r (lstep cl i s d)
theorem clr_len (i : Nat) : ∀ (cl : List (Nat × Nat)) (now : List Bool), (clr i cl now).length = now.length
  | [], _ => rfl
  | (g, p) :: r, now => by
    show (clr i r (if g = i then now.set p true else now)).length = now.length
    rw [clr_len i r]
    split <;> simp
theorem lrun_len (cl : List (Nat × Nat)) : ∀ (i : Nat) (ps : List (Bool × Nat)) (s : List Bool × Nat), (lrun cl i ps s).1.length = s.1.length
  | _, [], _ => rfl
  | i, d :: r, s => by
    show (lrun cl (i + 1) r (lstep cl i s d)).1.length = s.1.length
    rw [lrun_len cl (i + 1) r]
    unfold lstep
    split
    · rw [List.length_set, clr_len]
    · split <;> exact clr_len _ _ _
theorem clr_snoc (i : Nat) : ∀ (cl : List (Nat × Nat)) (c : Nat × Nat) (now : List Bool), clr i (cl ++ [c]) now = if c.1 = i then (clr i cl now).set c.2 true else clr i cl now
  | [], c, now => rfl
  | (g, p) :: r, c, now => clr_snoc i r c _
theorem lrun_snoc (cl : List (Nat × Nat)) : ∀ (i : Nat) (ps : List (Bool × Nat)) (d : Bool × Nat) (s : List Bool × Nat), lrun cl i (ps ++ [d]) s = lstep cl (i + ps.length) (lrun cl i ps s) d
  | _, [], _, _ => rfl
  | i, e :: r, d, s => by
    show lrun cl (i + 1) (r ++ [d]) (lstep cl i s e) = _
    rw [lrun_snoc cl (i + 1) r d]
    show _ = lstep cl (i + (r.length + 1)) (lrun cl (i + 1) r (lstep cl i s e)) d
    rw [show i + 1 + r.length = i + (r.length + 1) by omega]
theorem take_snoc {α : Type} {xs : List α} {n : Nat} {x : α} (h : xs[n]? = some x) : xs.take (n + 1) = xs.take n ++ [x] := by
  rw [List.take_succ, h]; rfl
/-- deeds, cleanings: right or wrong; what looks gives -/
def looksR (W : Wd P w K mg base) (μ : Mem) (bs : List Bool) (L CL : List D) (q : Nat → Prop) (e : D → Prop) : Prop :=
  chkD W μ bs.length L ((∃ fl : List Bool, CL.map (cleanB μ L.length bs.length) = fl.map some ∧ fl.all id = false ∧ e .non) ∨
    ∃ ps cl, L = ps.map dd ∧ CL = cl.map cc ∧ (∀ p ∈ ps, p.2 < bs.length) ∧ (∀ c ∈ cl, c.1 ≤ ps.length ∧ c.2 < bs.length) ∧ q (lrun cl 0 ps (bs, 0)).2) (fun i => e (.int i))

def S_looks (W : Wd P w K mg base) : DSp := fun ds μ Q E => match ds with
  | [xs, m, cs] => ∃ L CL d bs, view μ xs = .lst L ∧ view μ cs = .lst CL ∧ CL.length < 1000000 ∧ Mkv W μ m d bs ∧ bs.length < 1000 ∧ looksR W μ bs L CL (fun n => Q (.int n) μ) (fun x => E W.X_BadDeed [("index", x)] μ)
  | _ => False

theorem ok_looks (W : Wd P w K mg base) : FnD P w K mg base 7 W.f_looks (S_looks W) := by
  refine (okB W.t_looks.d sc_looks (by (intro ds μ Q E h; unfold S_looks at h; split at h <;> first | rfl | exact h.elim)) _ (fun cdv A outer s H E' g hr => ⟨_, (b_cons (s_expr (d_call (ok_check_deeds W) W.t_check_deeds.a W.t_check_deeds.d.kp g (hr.mono (by decide)) (takes_of rfl rfl rfl rfl) (a_cons (d_var 0) (a_cons (d_var 1) a_nil))))
      (b_cons (s_if (t_not (t_tru (d_callB (call_allA rfl rfl) sim_all W.z_all (a_cons (d_lc false [("cleaning", 10)] sc_looks.nd (i_seq (d_var 2)) (blkOk_by (own := [("cleaning", 10)]) (N := ["deeds", "marks", "cleanings", "now", "number", "index", "word", "page", "gap", "cleaned", "cleaning"]) (sc := defScope s_looks) (by decide +kernel)) (fun _ _ _ _ _ => (g_name 10 sc_looks.nd)) (fun _ _ _ _ _ => ts_nil) (fun _ _ _ _ _ => (d_call (ok_is_cleaning W) W.t_is_cleaning.a W.t_is_cleaning.d.kp g (hr.mono (by decide)) takes0 (a_cons (d_var 0) (a_cons (d_var 1) (a_cons (d_var 10) a_nil))))) (wip_name (by decide)) mono_name) a_nil)))) (b_one (s_raise W.e_BadDeed (hr.mono (by decide)) (takes_of rfl rfl rfl rfl) (a_cons d_non a_nil))) b_nil)
      (b_cons (s_set 3 sc_looks.nd (d_meth0 W.c_Marks.cl W.t_Marks_twin.m (ok_Marks_twin W) g hr (takes_of rfl rfl rfl rfl) (d_var 1)))
      (b_cons (s_set 4 sc_looks.nd d_int)
      (b_cons (s_for (passes_of rfl) (i_enum W.z_enumerate (a_cons (d_var 0) a_nil)) (g_un 2 (gs_cons (g_name 5 sc_looks.nd) (gs_cons (g_un 2 (gs_cons (g_name 6 sc_looks.nd) (gs_cons (g_name 7 sc_looks.nd) gs_nil))) gs_nil)))
      (b_cons (s_for (passes_of rfl) (i_seq (d_var 2)) (g_un 2 (gs_cons (g_name 8 sc_looks.nd) (gs_cons (g_name 9 sc_looks.nd) gs_nil)))
      (b_one (s_if (t_cmp (op_eqA hr.units rfl) sim_eq (d_var 8) (d_var 5) (nomark _)) (b_one (s_asg d_bl (g_setO W.si_Marks (ok_Marks_setitem W) g (hr.mono (by decide)) (takes_of rfl rfl rfl rfl) (d_var 3) (d_var 9)))) b_nil)))
      (b_one (s_if (t_cmp (op_eqA hr.units rfl) sim_eq (d_var 6) d_str (nomark _)) (b_one (s_asg d_bl (g_setO W.si_Marks (ok_Marks_setitem W) g (hr.mono (by decide)) (takes_of rfl rfl rfl rfl) (d_var 3) (d_var 7)))) (b_one (s_if (t_not (t_tru (d_getO W.gi_Marks (ok_Marks_getitem W) g (hr.mono (by decide)) (takes_of rfl rfl rfl rfl) (d_var 3) (d_var 7)))) (b_one (s_aug (i := 4) sc_looks.nd rfl d_int ip_add sim_ipI)) b_nil))))))
      (b_one (s_ret (d_var 4))))))))⟩) (fun ds μ Q E h => ?_)).fn0 W.t_looks.b
  unfold S_looks at h
  split at h
  · rename_i xs m cs
    obtain ⟨L, CL, d, bs, hL, hC, hCl, hm, hl, hc⟩ := h
    rw [show startD ["deeds", "marks", "cleanings", "now", "number", "index", "word", "page", "gap", "cleaned", "cleaning"] [xs, m, cs] = [some xs, some m, some cs, none, none, none, none, none, none, none, none] from rfl]
    simp (maxSteps := 4000000) only [hC, DX.at_r0, DX.set_r0, DX.putD_nil, DX.putD_hd, DX.look_hd, DX.atI_nat, DX.at0, DX.at1, DX.at2, DX.at3, DX.eqok_int, DX.eqok_str, DX.eqok_bl, DX.deqv_int, DX.deqv_str, DX.deqv_bl, DX.uMakeM, DX.uMakeF, DX.uMakeSF, DX.uProp, DX.uGName, DX.uGNil, DX.uGCons, DX.uGTup, DX.uGSet, DX.uAsg, DX.uDrop, DX.uRet, DX.uRetN, DX.uNext, DX.uBreak, DX.uCont, DX.uNever, DX.uSeq, DX.uIfS, DX.uCut, DX.uAug, DX.uSetF, DX.uISeq, DX.uIRng1, DX.uIRng2, DX.uFor, DX.uWhile, DX.uLc, DX.uYes, DX.uRaise, DX.uTry, DX.uXf, DX.uIsX, DX.uGet, DX.uGSetO, DX.uSMeth, DX.uIEnum, DX.uIZip, DX.uGUn, DX.uPar, DX.uVar, DX.uC, DX.uNil, DX.uCons, DX.uTup, DX.uLst, DX.uLstM, DX.uOp, DX.dI, DX.dIC, DX.dEq, DX.dNe, DX.dAdd, DX.uUn, DX.uIsN, DX.dTru, DX.uTru, DX.uTest, DX.uAndB, DX.uOrB, DX.uNotB, DX.uAnd, DX.uOr, DX.uNot, DX.uIf, DX.uChain, DX.dIx, DX.uNoPart, DX.uPart, DX.uSl, DX.dIn, DX.uFld, DX.uCB, DX.one, DX.dLen, DX.dIsB, DX.uIs, DX.dIsO, DX.dInt, DX.dList, DX.dTuple, DX.uBM, DX.dAppend, DX.dExtend, DX.dIndex, DX.uM1, DX.uCall, DX.uMeth, DX.dTwo, DX.dRep, DX.dLenO, DX.dCmpO, DX.dNeO, DX.dInO, DX.dMakeM, DX.dMakeF, DX.isC, DX.insAt, List.getElem?_cons_zero, List.getElem?_cons_succ, List.getElem?_nil, List.set_cons_zero, List.set_cons_succ, List.length_cons, List.length_nil, DX.wipeD, DX.tyIs, DX.v_non, DX.vT_non, DX.ty_non, DX.v_bl, DX.vT_bl, DX.ty_bl, DX.v_int, DX.vT_int, DX.ty_int, DX.v_str, DX.vT_str, DX.ty_str, DX.v_byt, DX.vT_byt, DX.ty_byt, DX.v_lst, DX.vT_lst, DX.ty_lst, DX.v_tup, DX.vT_tup, DX.ty_tup, DX.v_kt, DX.vT_kt, DX.ty_kt, DX.v_kl, DX.vT_kl, DX.ty_kl, DX.v_ins, DX.vT_ins, DX.ty_ins, DX.v_val, DX.vT_val, DX.ty_val, if_true, if_false, Bool.false_eq_true, reduceIte, Bool.not_true, Bool.not_false, true_and, and_true, List.isEmpty_cons, List.isEmpty_nil, Nat.reduceAdd]
    refine ⟨L, d, bs, hL, hm, hl, ?_⟩
    rcases hc with ⟨i, x, h1, h2, h3, q⟩ | ⟨hg, hc⟩
    · exact .inl ⟨i, x, h1, h2, h3, Or.inl q⟩
    · refine .inr ⟨hg, ?_⟩
      simp (maxSteps := 4000000) only [hC, DX.at_r0, DX.set_r0, DX.putD_nil, DX.putD_hd, DX.look_hd, DX.atI_nat, DX.at0, DX.at1, DX.at2, DX.at3, DX.eqok_int, DX.eqok_str, DX.eqok_bl, DX.deqv_int, DX.deqv_str, DX.deqv_bl, DX.uMakeM, DX.uMakeF, DX.uMakeSF, DX.uProp, DX.uGName, DX.uGNil, DX.uGCons, DX.uGTup, DX.uGSet, DX.uAsg, DX.uDrop, DX.uRet, DX.uRetN, DX.uNext, DX.uBreak, DX.uCont, DX.uNever, DX.uSeq, DX.uIfS, DX.uCut, DX.uAug, DX.uSetF, DX.uISeq, DX.uIRng1, DX.uIRng2, DX.uFor, DX.uWhile, DX.uLc, DX.uYes, DX.uRaise, DX.uTry, DX.uXf, DX.uIsX, DX.uGet, DX.uGSetO, DX.uSMeth, DX.uIEnum, DX.uIZip, DX.uGUn, DX.uPar, DX.uVar, DX.uC, DX.uNil, DX.uCons, DX.uTup, DX.uLst, DX.uLstM, DX.uOp, DX.dI, DX.dIC, DX.dEq, DX.dNe, DX.dAdd, DX.uUn, DX.uIsN, DX.dTru, DX.uTru, DX.uTest, DX.uAndB, DX.uOrB, DX.uNotB, DX.uAnd, DX.uOr, DX.uNot, DX.uIf, DX.uChain, DX.dIx, DX.uNoPart, DX.uPart, DX.uSl, DX.dIn, DX.uFld, DX.uCB, DX.one, DX.dLen, DX.dIsB, DX.uIs, DX.dIsO, DX.dInt, DX.dList, DX.dTuple, DX.uBM, DX.dAppend, DX.dExtend, DX.dIndex, DX.uM1, DX.uCall, DX.uMeth, DX.dTwo, DX.dRep, DX.dLenO, DX.dCmpO, DX.dNeO, DX.dInO, DX.dMakeM, DX.dMakeF, DX.isC, DX.insAt, List.getElem?_cons_zero, List.getElem?_cons_succ, List.getElem?_nil, List.set_cons_zero, List.set_cons_succ, List.length_cons, List.length_nil, DX.wipeD, DX.tyIs, DX.v_non, DX.vT_non, DX.ty_non, DX.v_bl, DX.vT_bl, DX.ty_bl, DX.v_int, DX.vT_int, DX.ty_int, DX.v_str, DX.vT_str, DX.ty_str, DX.v_byt, DX.vT_byt, DX.ty_byt, DX.v_lst, DX.vT_lst, DX.ty_lst, DX.v_tup, DX.vT_tup, DX.ty_tup, DX.v_kt, DX.vT_kt, DX.ty_kt, DX.v_kl, DX.vT_kl, DX.ty_kl, DX.v_ins, DX.vT_ins, DX.ty_ins, DX.v_val, DX.vT_val, DX.ty_val, if_true, if_false, Bool.false_eq_true, reduceIte, Bool.not_true, Bool.not_false, true_and, and_true, List.isEmpty_cons, List.isEmpty_nil, Nat.reduceAdd]
      have hf : ∃ fl : List Bool, CL.map (cleanB μ L.length bs.length) = fl.map some ∧ ((fl.all id = false ∧ E W.X_BadDeed [("index", .non)] μ) ∨ (fl.all id = true ∧ ∃ ps cl, L = ps.map dd ∧ CL = cl.map cc ∧ (∀ p ∈ ps, p.2 < bs.length) ∧ (∀ c ∈ cl, c.1 ≤ ps.length ∧ c.2 < bs.length) ∧ Q (.int (lrun cl 0 ps (bs, 0)).2) μ)) := by
        rcases hc with ⟨fl, h1, h2, h3⟩ | ⟨ps, cl, rfl, rfl, hp, hcl, q⟩
        · exact ⟨fl, h1, .inl ⟨h2, h3⟩⟩
        · refine ⟨List.replicate cl.length true, ?_, .inr ⟨by simp, ps, cl, rfl, rfl, hp, hcl, q⟩⟩
          rw [List.map_map, List.map_replicate, List.eq_replicate_iff]
          refine ⟨by simp, fun b hb => ?_⟩
          obtain ⟨c, hcm, rfl⟩ := List.mem_map.mp hb
          obtain ⟨h1, h2⟩ := hcl c hcm
          show cleanB μ _ bs.length (cc c) = some true
          simp only [cc, cleanB]
          have e : betB μ (.int c.1) 0 ((ps.map dd).length : Nat) = some true := by unfold betB; simp; omega
          rw [e]
          exact betT h2
      obtain ⟨fl, hfl, hcase⟩ := hf
      have hlen : CL.length = fl.length := by have := congrArg List.length hfl; simpa using this
      refine lc_map (fun n acc μ' => μ' = μ ∧ acc = (fl.take n).map .bl) ⟨rfl, rfl⟩ ?_ ?_ ?_
      · rintro n acc μ' ⟨rfl, _⟩; exact hC
      · rintro acc μ' ⟨rfl, rfl⟩
        rw [hlen, List.take_length]
        simp (maxSteps := 4000000) only [dAll, DX.at_r0, DX.set_r0, DX.putD_nil, DX.putD_hd, DX.look_hd, DX.atI_nat, DX.at0, DX.at1, DX.at2, DX.at3, DX.eqok_int, DX.eqok_str, DX.eqok_bl, DX.deqv_int, DX.deqv_str, DX.deqv_bl, DX.uMakeM, DX.uMakeF, DX.uMakeSF, DX.uProp, DX.uGName, DX.uGNil, DX.uGCons, DX.uGTup, DX.uGSet, DX.uAsg, DX.uDrop, DX.uRet, DX.uRetN, DX.uNext, DX.uBreak, DX.uCont, DX.uNever, DX.uSeq, DX.uIfS, DX.uCut, DX.uAug, DX.uSetF, DX.uISeq, DX.uIRng1, DX.uIRng2, DX.uFor, DX.uWhile, DX.uLc, DX.uYes, DX.uRaise, DX.uTry, DX.uXf, DX.uIsX, DX.uGet, DX.uGSetO, DX.uSMeth, DX.uIEnum, DX.uIZip, DX.uGUn, DX.uPar, DX.uVar, DX.uC, DX.uNil, DX.uCons, DX.uTup, DX.uLst, DX.uLstM, DX.uOp, DX.dI, DX.dIC, DX.dEq, DX.dNe, DX.dAdd, DX.uUn, DX.uIsN, DX.dTru, DX.uTru, DX.uTest, DX.uAndB, DX.uOrB, DX.uNotB, DX.uAnd, DX.uOr, DX.uNot, DX.uIf, DX.uChain, DX.dIx, DX.uNoPart, DX.uPart, DX.uSl, DX.dIn, DX.uFld, DX.uCB, DX.one, DX.dLen, DX.dIsB, DX.uIs, DX.dIsO, DX.dInt, DX.dList, DX.dTuple, DX.uBM, DX.dAppend, DX.dExtend, DX.dIndex, DX.uM1, DX.uCall, DX.uMeth, DX.dTwo, DX.dRep, DX.dLenO, DX.dCmpO, DX.dNeO, DX.dInO, DX.dMakeM, DX.dMakeF, DX.isC, DX.insAt, List.getElem?_cons_zero, List.getElem?_cons_succ, List.getElem?_nil, List.set_cons_zero, List.set_cons_succ, List.length_cons, List.length_nil, DX.wipeD, DX.tyIs, DX.v_non, DX.vT_non, DX.ty_non, DX.v_bl, DX.vT_bl, DX.ty_bl, DX.v_int, DX.vT_int, DX.ty_int, DX.v_str, DX.vT_str, DX.ty_str, DX.v_byt, DX.vT_byt, DX.ty_byt, DX.v_lst, DX.vT_lst, DX.ty_lst, DX.v_tup, DX.vT_tup, DX.ty_tup, DX.v_kt, DX.vT_kt, DX.ty_kt, DX.v_kl, DX.vT_kl, DX.ty_kl, DX.v_ins, DX.vT_ins, DX.ty_ins, DX.v_val, DX.vT_val, DX.ty_val, if_true, if_false, Bool.false_eq_true, reduceIte, Bool.not_true, Bool.not_false, true_and, and_true, List.isEmpty_cons, List.isEmpty_nil, Nat.reduceAdd]
        refine ⟨fl, rfl, ?_⟩
        rcases hcase with ⟨h2, q⟩ | ⟨h2, ps, cl, rfl, rfl, hp, hcl, q⟩
        · simp (maxSteps := 4000000) only [h2, DX.at_r0, DX.set_r0, DX.putD_nil, DX.putD_hd, DX.look_hd, DX.atI_nat, DX.at0, DX.at1, DX.at2, DX.at3, DX.eqok_int, DX.eqok_str, DX.eqok_bl, DX.deqv_int, DX.deqv_str, DX.deqv_bl, DX.uMakeM, DX.uMakeF, DX.uMakeSF, DX.uProp, DX.uGName, DX.uGNil, DX.uGCons, DX.uGTup, DX.uGSet, DX.uAsg, DX.uDrop, DX.uRet, DX.uRetN, DX.uNext, DX.uBreak, DX.uCont, DX.uNever, DX.uSeq, DX.uIfS, DX.uCut, DX.uAug, DX.uSetF, DX.uISeq, DX.uIRng1, DX.uIRng2, DX.uFor, DX.uWhile, DX.uLc, DX.uYes, DX.uRaise, DX.uTry, DX.uXf, DX.uIsX, DX.uGet, DX.uGSetO, DX.uSMeth, DX.uIEnum, DX.uIZip, DX.uGUn, DX.uPar, DX.uVar, DX.uC, DX.uNil, DX.uCons, DX.uTup, DX.uLst, DX.uLstM, DX.uOp, DX.dI, DX.dIC, DX.dEq, DX.dNe, DX.dAdd, DX.uUn, DX.uIsN, DX.dTru, DX.uTru, DX.uTest, DX.uAndB, DX.uOrB, DX.uNotB, DX.uAnd, DX.uOr, DX.uNot, DX.uIf, DX.uChain, DX.dIx, DX.uNoPart, DX.uPart, DX.uSl, DX.dIn, DX.uFld, DX.uCB, DX.one, DX.dLen, DX.dIsB, DX.uIs, DX.dIsO, DX.dInt, DX.dList, DX.dTuple, DX.uBM, DX.dAppend, DX.dExtend, DX.dIndex, DX.uM1, DX.uCall, DX.uMeth, DX.dTwo, DX.dRep, DX.dLenO, DX.dCmpO, DX.dNeO, DX.dInO, DX.dMakeM, DX.dMakeF, DX.isC, DX.insAt, List.getElem?_cons_zero, List.getElem?_cons_succ, List.getElem?_nil, List.set_cons_zero, List.set_cons_succ, List.length_cons, List.length_nil, DX.wipeD, DX.tyIs, DX.v_non, DX.vT_non, DX.ty_non, DX.v_bl, DX.vT_bl, DX.ty_bl, DX.v_int, DX.vT_int, DX.ty_int, DX.v_str, DX.vT_str, DX.ty_str, DX.v_byt, DX.vT_byt, DX.ty_byt, DX.v_lst, DX.vT_lst, DX.ty_lst, DX.v_tup, DX.vT_tup, DX.ty_tup, DX.v_kt, DX.vT_kt, DX.ty_kt, DX.v_kl, DX.vT_kl, DX.ty_kl, DX.v_ins, DX.vT_ins, DX.ty_ins, DX.v_val, DX.vT_val, DX.ty_val, if_true, if_false, Bool.false_eq_true, reduceIte, Bool.not_true, Bool.not_false, true_and, and_true, List.isEmpty_cons, List.isEmpty_nil, Nat.reduceAdd]
          exact Or.inl q
        · have hL0 := hL
          have hC0 := hC
          simp (maxSteps := 4000000) only [h2, hm.1, DX.at_r0, DX.set_r0, DX.putD_nil, DX.putD_hd, DX.look_hd, DX.atI_nat, DX.at0, DX.at1, DX.at2, DX.at3, DX.eqok_int, DX.eqok_str, DX.eqok_bl, DX.deqv_int, DX.deqv_str, DX.deqv_bl, DX.uMakeM, DX.uMakeF, DX.uMakeSF, DX.uProp, DX.uGName, DX.uGNil, DX.uGCons, DX.uGTup, DX.uGSet, DX.uAsg, DX.uDrop, DX.uRet, DX.uRetN, DX.uNext, DX.uBreak, DX.uCont, DX.uNever, DX.uSeq, DX.uIfS, DX.uCut, DX.uAug, DX.uSetF, DX.uISeq, DX.uIRng1, DX.uIRng2, DX.uFor, DX.uWhile, DX.uLc, DX.uYes, DX.uRaise, DX.uTry, DX.uXf, DX.uIsX, DX.uGet, DX.uGSetO, DX.uSMeth, DX.uIEnum, DX.uIZip, DX.uGUn, DX.uPar, DX.uVar, DX.uC, DX.uNil, DX.uCons, DX.uTup, DX.uLst, DX.uLstM, DX.uOp, DX.dI, DX.dIC, DX.dEq, DX.dNe, DX.dAdd, DX.uUn, DX.uIsN, DX.dTru, DX.uTru, DX.uTest, DX.uAndB, DX.uOrB, DX.uNotB, DX.uAnd, DX.uOr, DX.uNot, DX.uIf, DX.uChain, DX.dIx, DX.uNoPart, DX.uPart, DX.uSl, DX.dIn, DX.uFld, DX.uCB, DX.one, DX.dLen, DX.dIsB, DX.uIs, DX.dIsO, DX.dInt, DX.dList, DX.dTuple, DX.uBM, DX.dAppend, DX.dExtend, DX.dIndex, DX.uM1, DX.uCall, DX.uMeth, DX.dTwo, DX.dRep, DX.dLenO, DX.dCmpO, DX.dNeO, DX.dInO, DX.dMakeM, DX.dMakeF, DX.isC, DX.insAt, List.getElem?_cons_zero, List.getElem?_cons_succ, List.getElem?_nil, List.set_cons_zero, List.set_cons_succ, List.length_cons, List.length_nil, DX.wipeD, DX.tyIs, DX.v_non, DX.vT_non, DX.ty_non, DX.v_bl, DX.vT_bl, DX.ty_bl, DX.v_int, DX.vT_int, DX.ty_int, DX.v_str, DX.vT_str, DX.ty_str, DX.v_byt, DX.vT_byt, DX.ty_byt, DX.v_lst, DX.vT_lst, DX.ty_lst, DX.v_tup, DX.vT_tup, DX.ty_tup, DX.v_kt, DX.vT_kt, DX.ty_kt, DX.v_kl, DX.vT_kl, DX.ty_kl, DX.v_ins, DX.vT_ins, DX.ty_ins, DX.v_val, DX.vT_val, DX.ty_val, if_true, if_false, Bool.false_eq_true, reduceIte, Bool.not_true, Bool.not_false, true_and, and_true, List.isEmpty_cons, List.isEmpty_nil, Nat.reduceAdd]
          refine ⟨rfl, d, bs, hm, ?_⟩
          simp (maxSteps := 4000000) only [view_app hL, DX.at_r0, DX.set_r0, DX.putD_nil, DX.putD_hd, DX.look_hd, DX.atI_nat, DX.at0, DX.at1, DX.at2, DX.at3, DX.eqok_int, DX.eqok_str, DX.eqok_bl, DX.deqv_int, DX.deqv_str, DX.deqv_bl, DX.uMakeM, DX.uMakeF, DX.uMakeSF, DX.uProp, DX.uGName, DX.uGNil, DX.uGCons, DX.uGTup, DX.uGSet, DX.uAsg, DX.uDrop, DX.uRet, DX.uRetN, DX.uNext, DX.uBreak, DX.uCont, DX.uNever, DX.uSeq, DX.uIfS, DX.uCut, DX.uAug, DX.uSetF, DX.uISeq, DX.uIRng1, DX.uIRng2, DX.uFor, DX.uWhile, DX.uLc, DX.uYes, DX.uRaise, DX.uTry, DX.uXf, DX.uIsX, DX.uGet, DX.uGSetO, DX.uSMeth, DX.uIEnum, DX.uIZip, DX.uGUn, DX.uPar, DX.uVar, DX.uC, DX.uNil, DX.uCons, DX.uTup, DX.uLst, DX.uLstM, DX.uOp, DX.dI, DX.dIC, DX.dEq, DX.dNe, DX.dAdd, DX.uUn, DX.uIsN, DX.dTru, DX.uTru, DX.uTest, DX.uAndB, DX.uOrB, DX.uNotB, DX.uAnd, DX.uOr, DX.uNot, DX.uIf, DX.uChain, DX.dIx, DX.uNoPart, DX.uPart, DX.uSl, DX.dIn, DX.uFld, DX.uCB, DX.one, DX.dLen, DX.dIsB, DX.uIs, DX.dIsO, DX.dInt, DX.dList, DX.dTuple, DX.uBM, DX.dAppend, DX.dExtend, DX.dIndex, DX.uM1, DX.uCall, DX.uMeth, DX.dTwo, DX.dRep, DX.dLenO, DX.dCmpO, DX.dNeO, DX.dInO, DX.dMakeM, DX.dMakeF, DX.isC, DX.insAt, List.getElem?_cons_zero, List.getElem?_cons_succ, List.getElem?_nil, List.set_cons_zero, List.set_cons_succ, List.length_cons, List.length_nil, DX.wipeD, DX.tyIs, DX.v_non, DX.vT_non, DX.ty_non, DX.v_bl, DX.vT_bl, DX.ty_bl, DX.v_int, DX.vT_int, DX.ty_int, DX.v_str, DX.vT_str, DX.ty_str, DX.v_byt, DX.vT_byt, DX.ty_byt, DX.v_lst, DX.vT_lst, DX.ty_lst, DX.v_tup, DX.vT_tup, DX.ty_tup, DX.v_kt, DX.vT_kt, DX.ty_kt, DX.v_kl, DX.vT_kl, DX.ty_kl, DX.v_ins, DX.vT_ins, DX.ty_ins, DX.v_val, DX.vT_val, DX.ty_val, if_true, if_false, Bool.false_eq_true, reduceIte, Bool.not_true, Bool.not_false, true_and, and_true, List.isEmpty_cons, List.isEmpty_nil, Nat.reduceAdd]
          refine for_map (fun n ρ μ1 => ∃ s : List Bool × Nat, lrun cl 0 (ps.take n) (bs, 0) = s ∧ μ1 = μ' ++ [.lst (s.1.map .bl), .ins W.C_Marks [("_flags", .ob μ'.length)]] ∧ ∃ o5 o6 o7 o8 o9, ρ = [some xs, some m, some cs, some (.ob (μ'.length + 1)), some (.int (s.2 : Nat)), o5, o6, o7, o8, o9, none]) ⟨(bs, 0), rfl, rfl, _, _, _, _, _, rfl⟩ ?_ ?_ ?_
          · rintro n ρ μ1 ⟨s, _, rfl, _⟩; exact view_app hL0
          · rintro ρ μ1 ⟨s, hs, rfl, o5, o6, o7, o8, o9, rfl⟩
            rw [denum_len, List.length_map, List.take_length] at hs
            rw [hs] at q
            simp (maxSteps := 4000000) only [DX.at_r0, DX.set_r0, DX.putD_nil, DX.putD_hd, DX.look_hd, DX.atI_nat, DX.at0, DX.at1, DX.at2, DX.at3, DX.eqok_int, DX.eqok_str, DX.eqok_bl, DX.deqv_int, DX.deqv_str, DX.deqv_bl, DX.uMakeM, DX.uMakeF, DX.uMakeSF, DX.uProp, DX.uGName, DX.uGNil, DX.uGCons, DX.uGTup, DX.uGSet, DX.uAsg, DX.uDrop, DX.uRet, DX.uRetN, DX.uNext, DX.uBreak, DX.uCont, DX.uNever, DX.uSeq, DX.uIfS, DX.uCut, DX.uAug, DX.uSetF, DX.uISeq, DX.uIRng1, DX.uIRng2, DX.uFor, DX.uWhile, DX.uLc, DX.uYes, DX.uRaise, DX.uTry, DX.uXf, DX.uIsX, DX.uGet, DX.uGSetO, DX.uSMeth, DX.uIEnum, DX.uIZip, DX.uGUn, DX.uPar, DX.uVar, DX.uC, DX.uNil, DX.uCons, DX.uTup, DX.uLst, DX.uLstM, DX.uOp, DX.dI, DX.dIC, DX.dEq, DX.dNe, DX.dAdd, DX.uUn, DX.uIsN, DX.dTru, DX.uTru, DX.uTest, DX.uAndB, DX.uOrB, DX.uNotB, DX.uAnd, DX.uOr, DX.uNot, DX.uIf, DX.uChain, DX.dIx, DX.uNoPart, DX.uPart, DX.uSl, DX.dIn, DX.uFld, DX.uCB, DX.one, DX.dLen, DX.dIsB, DX.uIs, DX.dIsO, DX.dInt, DX.dList, DX.dTuple, DX.uBM, DX.dAppend, DX.dExtend, DX.dIndex, DX.uM1, DX.uCall, DX.uMeth, DX.dTwo, DX.dRep, DX.dLenO, DX.dCmpO, DX.dNeO, DX.dInO, DX.dMakeM, DX.dMakeF, DX.isC, DX.insAt, List.getElem?_cons_zero, List.getElem?_cons_succ, List.getElem?_nil, List.set_cons_zero, List.set_cons_succ, List.length_cons, List.length_nil, DX.wipeD, DX.tyIs, DX.v_non, DX.vT_non, DX.ty_non, DX.v_bl, DX.vT_bl, DX.ty_bl, DX.v_int, DX.vT_int, DX.ty_int, DX.v_str, DX.vT_str, DX.ty_str, DX.v_byt, DX.vT_byt, DX.ty_byt, DX.v_lst, DX.vT_lst, DX.ty_lst, DX.v_tup, DX.vT_tup, DX.ty_tup, DX.v_kt, DX.vT_kt, DX.ty_kt, DX.v_kl, DX.vT_kl, DX.ty_kl, DX.v_ins, DX.vT_ins, DX.ty_ins, DX.v_val, DX.vT_val, DX.ty_val, if_true, if_false, Bool.false_eq_true, reduceIte, Bool.not_true, Bool.not_false, true_and, and_true, List.isEmpty_cons, List.isEmpty_nil, Nat.reduceAdd]
            exact .inr ⟨⟨by simp, fun k m' hk hm' => .inl (by rw [at_l hk] at hm'; exact hm')⟩, rfl, by rw [take_n rfl]; exact q⟩
          · rintro n e ρ μ1 go he ⟨s, hs, rfl, o5, o6, o7, o8, o9, rfl⟩ k
            obtain ⟨y, hy, rfl⟩ := denum_get he
            rw [Nat.zero_add]
            rw [List.getElem?_map] at hy
            cases hpn : ps[n]? with
            | none => rw [hpn] at hy; cases hy
            | some p =>
              rw [hpn] at hy
              cases hy
              have hp2 := hp p (List.mem_of_getElem? hpn)
              have sl : s.1.length = bs.length := by rw [← hs, lrun_len]
              simp (maxSteps := 4000000) only [dd, view_app hC0, DX.at_r0, DX.set_r0, DX.putD_nil, DX.putD_hd, DX.look_hd, DX.atI_nat, DX.at0, DX.at1, DX.at2, DX.at3, DX.eqok_int, DX.eqok_str, DX.eqok_bl, DX.deqv_int, DX.deqv_str, DX.deqv_bl, DX.uMakeM, DX.uMakeF, DX.uMakeSF, DX.uProp, DX.uGName, DX.uGNil, DX.uGCons, DX.uGTup, DX.uGSet, DX.uAsg, DX.uDrop, DX.uRet, DX.uRetN, DX.uNext, DX.uBreak, DX.uCont, DX.uNever, DX.uSeq, DX.uIfS, DX.uCut, DX.uAug, DX.uSetF, DX.uISeq, DX.uIRng1, DX.uIRng2, DX.uFor, DX.uWhile, DX.uLc, DX.uYes, DX.uRaise, DX.uTry, DX.uXf, DX.uIsX, DX.uGet, DX.uGSetO, DX.uSMeth, DX.uIEnum, DX.uIZip, DX.uGUn, DX.uPar, DX.uVar, DX.uC, DX.uNil, DX.uCons, DX.uTup, DX.uLst, DX.uLstM, DX.uOp, DX.dI, DX.dIC, DX.dEq, DX.dNe, DX.dAdd, DX.uUn, DX.uIsN, DX.dTru, DX.uTru, DX.uTest, DX.uAndB, DX.uOrB, DX.uNotB, DX.uAnd, DX.uOr, DX.uNot, DX.uIf, DX.uChain, DX.dIx, DX.uNoPart, DX.uPart, DX.uSl, DX.dIn, DX.uFld, DX.uCB, DX.one, DX.dLen, DX.dIsB, DX.uIs, DX.dIsO, DX.dInt, DX.dList, DX.dTuple, DX.uBM, DX.dAppend, DX.dExtend, DX.dIndex, DX.uM1, DX.uCall, DX.uMeth, DX.dTwo, DX.dRep, DX.dLenO, DX.dCmpO, DX.dNeO, DX.dInO, DX.dMakeM, DX.dMakeF, DX.isC, DX.insAt, List.getElem?_cons_zero, List.getElem?_cons_succ, List.getElem?_nil, List.set_cons_zero, List.set_cons_succ, List.length_cons, List.length_nil, DX.wipeD, DX.tyIs, DX.v_non, DX.vT_non, DX.ty_non, DX.v_bl, DX.vT_bl, DX.ty_bl, DX.v_int, DX.vT_int, DX.ty_int, DX.v_str, DX.vT_str, DX.ty_str, DX.v_byt, DX.vT_byt, DX.ty_byt, DX.v_lst, DX.vT_lst, DX.ty_lst, DX.v_tup, DX.vT_tup, DX.ty_tup, DX.v_kt, DX.vT_kt, DX.ty_kt, DX.v_kl, DX.vT_kl, DX.ty_kl, DX.v_ins, DX.vT_ins, DX.ty_ins, DX.v_val, DX.vT_val, DX.ty_val, if_true, if_false, Bool.false_eq_true, reduceIte, Bool.not_true, Bool.not_false, true_and, and_true, List.isEmpty_cons, List.isEmpty_nil, Nat.reduceAdd]
              have hI : ∀ l, (μ' ++ [M.lst l, M.ins W.C_Marks [("_flags", .ob μ'.length)]])[μ'.length + 1]? = some (M.ins W.C_Marks [("_flags", .ob μ'.length)]) := fun l => at_r 1
              have hJ : ∀ l, (μ' ++ [M.lst l, M.ins W.C_Marks [("_flags", .ob μ'.length)]])[μ'.length]? = some (M.lst l) := fun l => at_r0
              refine for_map (fun j ρ μ2 => μ2 = μ' ++ [.lst ((clr n (cl.take j) s.1).map .bl), .ins W.C_Marks [("_flags", .ob μ'.length)]] ∧ ∃ o8 o9, ρ = [some xs, some m, some cs, some (.ob (μ'.length + 1)), some (.int (s.2 : Nat)), some (.int n), some (.str (if p.1 = true then "write" else "read")), some (.int p.2), o8, o9, none]) ⟨rfl, _, _, rfl⟩ ?_ ?_ ?_
              · rintro j ρ μ2 ⟨rfl, _⟩; exact view_app hC0
              · rintro ρ μ2 ⟨rfl, u8, u9, rfl⟩
                rw [List.length_map, List.take_length]
                have ln : (clr n cl s.1).length = bs.length := by rw [clr_len, sl]
                have nxt : ∀ s', lstep cl n s p = s' → go [some xs, some m, some cs, some (.ob (μ'.length + 1)), some (.int (s'.2 : Nat)), some (.int n), some (.str (if p.1 = true then "write" else "read")), some (.int p.2), u8, u9, none] (μ' ++ [.lst (s'.1.map .bl), .ins W.C_Marks [("_flags", .ob μ'.length)]]) := fun s' h' => k _ _ ⟨s', by rw [take_snoc hpn, lrun_snoc, hs, List.length_take, Nat.min_eq_left (Nat.le_of_lt (lt_of_at hpn)), Nat.zero_add, h'], rfl, _, _, _, _, _, rfl⟩
                obtain ⟨wr, pg⟩ := p
                cases wr with
                | true =>
                  simp (maxSteps := 4000000) only [v_obI (hI _), S_Marks_setitem, DX.at_r0, DX.set_r0, DX.putD_nil, DX.putD_hd, DX.look_hd, DX.atI_nat, DX.at0, DX.at1, DX.at2, DX.at3, DX.eqok_int, DX.eqok_str, DX.eqok_bl, DX.deqv_int, DX.deqv_str, DX.deqv_bl, DX.uMakeM, DX.uMakeF, DX.uMakeSF, DX.uProp, DX.uGName, DX.uGNil, DX.uGCons, DX.uGTup, DX.uGSet, DX.uAsg, DX.uDrop, DX.uRet, DX.uRetN, DX.uNext, DX.uBreak, DX.uCont, DX.uNever, DX.uSeq, DX.uIfS, DX.uCut, DX.uAug, DX.uSetF, DX.uISeq, DX.uIRng1, DX.uIRng2, DX.uFor, DX.uWhile, DX.uLc, DX.uYes, DX.uRaise, DX.uTry, DX.uXf, DX.uIsX, DX.uGet, DX.uGSetO, DX.uSMeth, DX.uIEnum, DX.uIZip, DX.uGUn, DX.uPar, DX.uVar, DX.uC, DX.uNil, DX.uCons, DX.uTup, DX.uLst, DX.uLstM, DX.uOp, DX.dI, DX.dIC, DX.dEq, DX.dNe, DX.dAdd, DX.uUn, DX.uIsN, DX.dTru, DX.uTru, DX.uTest, DX.uAndB, DX.uOrB, DX.uNotB, DX.uAnd, DX.uOr, DX.uNot, DX.uIf, DX.uChain, DX.dIx, DX.uNoPart, DX.uPart, DX.uSl, DX.dIn, DX.uFld, DX.uCB, DX.one, DX.dLen, DX.dIsB, DX.uIs, DX.dIsO, DX.dInt, DX.dList, DX.dTuple, DX.uBM, DX.dAppend, DX.dExtend, DX.dIndex, DX.uM1, DX.uCall, DX.uMeth, DX.dTwo, DX.dRep, DX.dLenO, DX.dCmpO, DX.dNeO, DX.dInO, DX.dMakeM, DX.dMakeF, DX.isC, DX.insAt, List.getElem?_cons_zero, List.getElem?_cons_succ, List.getElem?_nil, List.set_cons_zero, List.set_cons_succ, List.length_cons, List.length_nil, DX.wipeD, DX.tyIs, DX.v_non, DX.vT_non, DX.ty_non, DX.v_bl, DX.vT_bl, DX.ty_bl, DX.v_int, DX.vT_int, DX.ty_int, DX.v_str, DX.vT_str, DX.ty_str, DX.v_byt, DX.vT_byt, DX.ty_byt, DX.v_lst, DX.vT_lst, DX.ty_lst, DX.v_tup, DX.vT_tup, DX.ty_tup, DX.v_kt, DX.vT_kt, DX.ty_kt, DX.v_kl, DX.vT_kl, DX.ty_kl, DX.v_ins, DX.vT_ins, DX.ty_ins, DX.v_val, DX.vT_val, DX.ty_val, if_true, if_false, Bool.false_eq_true, reduceIte, Bool.not_true, Bool.not_false, true_and, and_true, List.isEmpty_cons, List.isEmpty_nil, Nat.reduceAdd]
                  refine ⟨_, _, pg, rfl, hJ _, rfl, by rw [ln]; exact hp2, ?_⟩
                  simp (maxSteps := 4000000) only [DX.at_r0, DX.set_r0, DX.putD_nil, DX.putD_hd, DX.look_hd, DX.atI_nat, DX.at0, DX.at1, DX.at2, DX.at3, DX.eqok_int, DX.eqok_str, DX.eqok_bl, DX.deqv_int, DX.deqv_str, DX.deqv_bl, DX.uMakeM, DX.uMakeF, DX.uMakeSF, DX.uProp, DX.uGName, DX.uGNil, DX.uGCons, DX.uGTup, DX.uGSet, DX.uAsg, DX.uDrop, DX.uRet, DX.uRetN, DX.uNext, DX.uBreak, DX.uCont, DX.uNever, DX.uSeq, DX.uIfS, DX.uCut, DX.uAug, DX.uSetF, DX.uISeq, DX.uIRng1, DX.uIRng2, DX.uFor, DX.uWhile, DX.uLc, DX.uYes, DX.uRaise, DX.uTry, DX.uXf, DX.uIsX, DX.uGet, DX.uGSetO, DX.uSMeth, DX.uIEnum, DX.uIZip, DX.uGUn, DX.uPar, DX.uVar, DX.uC, DX.uNil, DX.uCons, DX.uTup, DX.uLst, DX.uLstM, DX.uOp, DX.dI, DX.dIC, DX.dEq, DX.dNe, DX.dAdd, DX.uUn, DX.uIsN, DX.dTru, DX.uTru, DX.uTest, DX.uAndB, DX.uOrB, DX.uNotB, DX.uAnd, DX.uOr, DX.uNot, DX.uIf, DX.uChain, DX.dIx, DX.uNoPart, DX.uPart, DX.uSl, DX.dIn, DX.uFld, DX.uCB, DX.one, DX.dLen, DX.dIsB, DX.uIs, DX.dIsO, DX.dInt, DX.dList, DX.dTuple, DX.uBM, DX.dAppend, DX.dExtend, DX.dIndex, DX.uM1, DX.uCall, DX.uMeth, DX.dTwo, DX.dRep, DX.dLenO, DX.dCmpO, DX.dNeO, DX.dInO, DX.dMakeM, DX.dMakeF, DX.isC, DX.insAt, List.getElem?_cons_zero, List.getElem?_cons_succ, List.getElem?_nil, List.set_cons_zero, List.set_cons_succ, List.length_cons, List.length_nil, DX.wipeD, DX.tyIs, DX.v_non, DX.vT_non, DX.ty_non, DX.v_bl, DX.vT_bl, DX.ty_bl, DX.v_int, DX.vT_int, DX.ty_int, DX.v_str, DX.vT_str, DX.ty_str, DX.v_byt, DX.vT_byt, DX.ty_byt, DX.v_lst, DX.vT_lst, DX.ty_lst, DX.v_tup, DX.vT_tup, DX.ty_tup, DX.v_kt, DX.vT_kt, DX.ty_kt, DX.v_kl, DX.vT_kl, DX.ty_kl, DX.v_ins, DX.vT_ins, DX.ty_ins, DX.v_val, DX.vT_val, DX.ty_val, if_true, if_false, Bool.false_eq_true, reduceIte, Bool.not_true, Bool.not_false, true_and, and_true, List.isEmpty_cons, List.isEmpty_nil, Nat.reduceAdd]
                  exact nxt _ rfl
                | false =>
                  simp (maxSteps := 4000000) only [v_obI (hI _), S_Marks_getitem, DX.at_r0, DX.set_r0, DX.putD_nil, DX.putD_hd, DX.look_hd, DX.atI_nat, DX.at0, DX.at1, DX.at2, DX.at3, DX.eqok_int, DX.eqok_str, DX.eqok_bl, DX.deqv_int, DX.deqv_str, DX.deqv_bl, DX.uMakeM, DX.uMakeF, DX.uMakeSF, DX.uProp, DX.uGName, DX.uGNil, DX.uGCons, DX.uGTup, DX.uGSet, DX.uAsg, DX.uDrop, DX.uRet, DX.uRetN, DX.uNext, DX.uBreak, DX.uCont, DX.uNever, DX.uSeq, DX.uIfS, DX.uCut, DX.uAug, DX.uSetF, DX.uISeq, DX.uIRng1, DX.uIRng2, DX.uFor, DX.uWhile, DX.uLc, DX.uYes, DX.uRaise, DX.uTry, DX.uXf, DX.uIsX, DX.uGet, DX.uGSetO, DX.uSMeth, DX.uIEnum, DX.uIZip, DX.uGUn, DX.uPar, DX.uVar, DX.uC, DX.uNil, DX.uCons, DX.uTup, DX.uLst, DX.uLstM, DX.uOp, DX.dI, DX.dIC, DX.dEq, DX.dNe, DX.dAdd, DX.uUn, DX.uIsN, DX.dTru, DX.uTru, DX.uTest, DX.uAndB, DX.uOrB, DX.uNotB, DX.uAnd, DX.uOr, DX.uNot, DX.uIf, DX.uChain, DX.dIx, DX.uNoPart, DX.uPart, DX.uSl, DX.dIn, DX.uFld, DX.uCB, DX.one, DX.dLen, DX.dIsB, DX.uIs, DX.dIsO, DX.dInt, DX.dList, DX.dTuple, DX.uBM, DX.dAppend, DX.dExtend, DX.dIndex, DX.uM1, DX.uCall, DX.uMeth, DX.dTwo, DX.dRep, DX.dLenO, DX.dCmpO, DX.dNeO, DX.dInO, DX.dMakeM, DX.dMakeF, DX.isC, DX.insAt, List.getElem?_cons_zero, List.getElem?_cons_succ, List.getElem?_nil, List.set_cons_zero, List.set_cons_succ, List.length_cons, List.length_nil, DX.wipeD, DX.tyIs, DX.v_non, DX.vT_non, DX.ty_non, DX.v_bl, DX.vT_bl, DX.ty_bl, DX.v_int, DX.vT_int, DX.ty_int, DX.v_str, DX.vT_str, DX.ty_str, DX.v_byt, DX.vT_byt, DX.ty_byt, DX.v_lst, DX.vT_lst, DX.ty_lst, DX.v_tup, DX.vT_tup, DX.ty_tup, DX.v_kt, DX.vT_kt, DX.ty_kt, DX.v_kl, DX.vT_kl, DX.ty_kl, DX.v_ins, DX.vT_ins, DX.ty_ins, DX.v_val, DX.vT_val, DX.ty_val, if_true, if_false, Bool.false_eq_true, reduceIte, Bool.not_true, Bool.not_false, true_and, and_true, List.isEmpty_cons, List.isEmpty_nil, Nat.reduceAdd]
                  rw [if_neg (by decide)]
                  have hget : (clr n cl s.1)[pg]? = some ((clr n cl s.1)[pg]'(by rw [ln]; exact hp2)) := List.getElem?_eq_getElem _
                  refine ⟨.ob μ'.length, _, pg, _, ⟨v_obI (hI _), v_obL (hJ _)⟩, rfl, hget, ?_⟩
                  cases hb : (clr n cl s.1)[pg]'(by rw [ln]; exact hp2) with
                  | true => exact nxt (clr n cl s.1, s.2) (by unfold lstep; rw [if_neg Bool.false_ne_true, if_pos (by rw [hget, hb])])
                  | false => exact nxt (clr n cl s.1, s.2 + 1) (by unfold lstep; rw [if_neg Bool.false_ne_true, if_neg (by rw [hget, hb]; decide)])
              · rintro j e ρ μ2 go2 he ⟨rfl, u8, u9, rfl⟩ k2
                rw [List.getElem?_map] at he
                cases hcj : cl[j]? with
                | none => rw [hcj] at he; cases he
                | some c =>
                  rw [hcj] at he
                  cases he
                  simp (maxSteps := 4000000) only [cc, v_obI (hI _), S_Marks_setitem, DX.at_r0, DX.set_r0, DX.putD_nil, DX.putD_hd, DX.look_hd, DX.atI_nat, DX.at0, DX.at1, DX.at2, DX.at3, DX.eqok_int, DX.eqok_str, DX.eqok_bl, DX.deqv_int, DX.deqv_str, DX.deqv_bl, DX.uMakeM, DX.uMakeF, DX.uMakeSF, DX.uProp, DX.uGName, DX.uGNil, DX.uGCons, DX.uGTup, DX.uGSet, DX.uAsg, DX.uDrop, DX.uRet, DX.uRetN, DX.uNext, DX.uBreak, DX.uCont, DX.uNever, DX.uSeq, DX.uIfS, DX.uCut, DX.uAug, DX.uSetF, DX.uISeq, DX.uIRng1, DX.uIRng2, DX.uFor, DX.uWhile, DX.uLc, DX.uYes, DX.uRaise, DX.uTry, DX.uXf, DX.uIsX, DX.uGet, DX.uGSetO, DX.uSMeth, DX.uIEnum, DX.uIZip, DX.uGUn, DX.uPar, DX.uVar, DX.uC, DX.uNil, DX.uCons, DX.uTup, DX.uLst, DX.uLstM, DX.uOp, DX.dI, DX.dIC, DX.dEq, DX.dNe, DX.dAdd, DX.uUn, DX.uIsN, DX.dTru, DX.uTru, DX.uTest, DX.uAndB, DX.uOrB, DX.uNotB, DX.uAnd, DX.uOr, DX.uNot, DX.uIf, DX.uChain, DX.dIx, DX.uNoPart, DX.uPart, DX.uSl, DX.dIn, DX.uFld, DX.uCB, DX.one, DX.dLen, DX.dIsB, DX.uIs, DX.dIsO, DX.dInt, DX.dList, DX.dTuple, DX.uBM, DX.dAppend, DX.dExtend, DX.dIndex, DX.uM1, DX.uCall, DX.uMeth, DX.dTwo, DX.dRep, DX.dLenO, DX.dCmpO, DX.dNeO, DX.dInO, DX.dMakeM, DX.dMakeF, DX.isC, DX.insAt, List.getElem?_cons_zero, List.getElem?_cons_succ, List.getElem?_nil, List.set_cons_zero, List.set_cons_succ, List.length_cons, List.length_nil, DX.wipeD, DX.tyIs, DX.v_non, DX.vT_non, DX.ty_non, DX.v_bl, DX.vT_bl, DX.ty_bl, DX.v_int, DX.vT_int, DX.ty_int, DX.v_str, DX.vT_str, DX.ty_str, DX.v_byt, DX.vT_byt, DX.ty_byt, DX.v_lst, DX.vT_lst, DX.ty_lst, DX.v_tup, DX.vT_tup, DX.ty_tup, DX.v_kt, DX.vT_kt, DX.ty_kt, DX.v_kl, DX.vT_kl, DX.ty_kl, DX.v_ins, DX.vT_ins, DX.ty_ins, DX.v_val, DX.vT_val, DX.ty_val, if_true, if_false, Bool.false_eq_true, reduceIte, Bool.not_true, Bool.not_false, true_and, and_true, List.isEmpty_cons, List.isEmpty_nil, Nat.reduceAdd]
                  have st := clr_snoc n (cl.take j) c s.1
                  rw [← take_snoc hcj] at st
                  by_cases hz : c.1 = n
                  · rw [if_pos hz] at st
                    rw [if_pos (by simp [hz])]
                    refine ⟨_, _, c.2, rfl, hJ _, rfl, by rw [clr_len, sl]; exact (hcl c (List.mem_of_getElem? hcj)).2, k2 _ _ ⟨?_, _, _, rfl⟩⟩
                    simp (maxSteps := 4000000) only [st, DX.at_r0, DX.set_r0, DX.putD_nil, DX.putD_hd, DX.look_hd, DX.atI_nat, DX.at0, DX.at1, DX.at2, DX.at3, DX.eqok_int, DX.eqok_str, DX.eqok_bl, DX.deqv_int, DX.deqv_str, DX.deqv_bl, DX.uMakeM, DX.uMakeF, DX.uMakeSF, DX.uProp, DX.uGName, DX.uGNil, DX.uGCons, DX.uGTup, DX.uGSet, DX.uAsg, DX.uDrop, DX.uRet, DX.uRetN, DX.uNext, DX.uBreak, DX.uCont, DX.uNever, DX.uSeq, DX.uIfS, DX.uCut, DX.uAug, DX.uSetF, DX.uISeq, DX.uIRng1, DX.uIRng2, DX.uFor, DX.uWhile, DX.uLc, DX.uYes, DX.uRaise, DX.uTry, DX.uXf, DX.uIsX, DX.uGet, DX.uGSetO, DX.uSMeth, DX.uIEnum, DX.uIZip, DX.uGUn, DX.uPar, DX.uVar, DX.uC, DX.uNil, DX.uCons, DX.uTup, DX.uLst, DX.uLstM, DX.uOp, DX.dI, DX.dIC, DX.dEq, DX.dNe, DX.dAdd, DX.uUn, DX.uIsN, DX.dTru, DX.uTru, DX.uTest, DX.uAndB, DX.uOrB, DX.uNotB, DX.uAnd, DX.uOr, DX.uNot, DX.uIf, DX.uChain, DX.dIx, DX.uNoPart, DX.uPart, DX.uSl, DX.dIn, DX.uFld, DX.uCB, DX.one, DX.dLen, DX.dIsB, DX.uIs, DX.dIsO, DX.dInt, DX.dList, DX.dTuple, DX.uBM, DX.dAppend, DX.dExtend, DX.dIndex, DX.uM1, DX.uCall, DX.uMeth, DX.dTwo, DX.dRep, DX.dLenO, DX.dCmpO, DX.dNeO, DX.dInO, DX.dMakeM, DX.dMakeF, DX.isC, DX.insAt, List.getElem?_cons_zero, List.getElem?_cons_succ, List.getElem?_nil, List.set_cons_zero, List.set_cons_succ, List.length_cons, List.length_nil, DX.wipeD, DX.tyIs, DX.v_non, DX.vT_non, DX.ty_non, DX.v_bl, DX.vT_bl, DX.ty_bl, DX.v_int, DX.vT_int, DX.ty_int, DX.v_str, DX.vT_str, DX.ty_str, DX.v_byt, DX.vT_byt, DX.ty_byt, DX.v_lst, DX.vT_lst, DX.ty_lst, DX.v_tup, DX.vT_tup, DX.ty_tup, DX.v_kt, DX.vT_kt, DX.ty_kt, DX.v_kl, DX.vT_kl, DX.ty_kl, DX.v_ins, DX.vT_ins, DX.ty_ins, DX.v_val, DX.vT_val, DX.ty_val, if_true, if_false, Bool.false_eq_true, reduceIte, Bool.not_true, Bool.not_false, true_and, and_true, List.isEmpty_cons, List.isEmpty_nil, Nat.reduceAdd]
                  · rw [if_neg hz] at st
                    rw [if_neg (by simp; omega)]
                    exact k2 _ _ ⟨by rw [st], _, _, rfl⟩
      · rintro n x acc μ' go hx ⟨rfl, rfl⟩ k
        have hx' : fl[n]? = some (fl[n]'(by have := lt_of_at hx; omega)) := List.getElem?_eq_getElem _
        have hb : cleanB μ' L.length bs.length x = some (fl[n]'(by have := lt_of_at hx; omega)) := by
          have := congrArg (fun l => l[n]?) hfl
          simp only [List.getElem?_map, hx, hx', Option.map_some] at this
          exact Option.some.inj this
        simp (maxSteps := 4000000) only [DX.at_r0, DX.set_r0, DX.putD_nil, DX.putD_hd, DX.look_hd, DX.atI_nat, DX.at0, DX.at1, DX.at2, DX.at3, DX.eqok_int, DX.eqok_str, DX.eqok_bl, DX.deqv_int, DX.deqv_str, DX.deqv_bl, DX.uMakeM, DX.uMakeF, DX.uMakeSF, DX.uProp, DX.uGName, DX.uGNil, DX.uGCons, DX.uGTup, DX.uGSet, DX.uAsg, DX.uDrop, DX.uRet, DX.uRetN, DX.uNext, DX.uBreak, DX.uCont, DX.uNever, DX.uSeq, DX.uIfS, DX.uCut, DX.uAug, DX.uSetF, DX.uISeq, DX.uIRng1, DX.uIRng2, DX.uFor, DX.uWhile, DX.uLc, DX.uYes, DX.uRaise, DX.uTry, DX.uXf, DX.uIsX, DX.uGet, DX.uGSetO, DX.uSMeth, DX.uIEnum, DX.uIZip, DX.uGUn, DX.uPar, DX.uVar, DX.uC, DX.uNil, DX.uCons, DX.uTup, DX.uLst, DX.uLstM, DX.uOp, DX.dI, DX.dIC, DX.dEq, DX.dNe, DX.dAdd, DX.uUn, DX.uIsN, DX.dTru, DX.uTru, DX.uTest, DX.uAndB, DX.uOrB, DX.uNotB, DX.uAnd, DX.uOr, DX.uNot, DX.uIf, DX.uChain, DX.dIx, DX.uNoPart, DX.uPart, DX.uSl, DX.dIn, DX.uFld, DX.uCB, DX.one, DX.dLen, DX.dIsB, DX.uIs, DX.dIsO, DX.dInt, DX.dList, DX.dTuple, DX.uBM, DX.dAppend, DX.dExtend, DX.dIndex, DX.uM1, DX.uCall, DX.uMeth, DX.dTwo, DX.dRep, DX.dLenO, DX.dCmpO, DX.dNeO, DX.dInO, DX.dMakeM, DX.dMakeF, DX.isC, DX.insAt, List.getElem?_cons_zero, List.getElem?_cons_succ, List.getElem?_nil, List.set_cons_zero, List.set_cons_succ, List.length_cons, List.length_nil, DX.wipeD, DX.tyIs, DX.v_non, DX.vT_non, DX.ty_non, DX.v_bl, DX.vT_bl, DX.ty_bl, DX.v_int, DX.vT_int, DX.ty_int, DX.v_str, DX.vT_str, DX.ty_str, DX.v_byt, DX.vT_byt, DX.ty_byt, DX.v_lst, DX.vT_lst, DX.ty_lst, DX.v_tup, DX.vT_tup, DX.ty_tup, DX.v_kt, DX.vT_kt, DX.ty_kt, DX.v_kl, DX.vT_kl, DX.ty_kl, DX.v_ins, DX.vT_ins, DX.ty_ins, DX.v_val, DX.vT_val, DX.ty_val, if_true, if_false, Bool.false_eq_true, reduceIte, Bool.not_true, Bool.not_false, true_and, and_true, List.isEmpty_cons, List.isEmpty_nil, Nat.reduceAdd]
        refine ⟨L, d, bs, _, hL, hm, hl, hb, ?_, k _ _ ⟨rfl, ?_⟩⟩
        · have := lt_of_at hx; simp; omega
        · rw [take_snoc hx', List.map_append]; rfl
  · exact h.elim

end
end Toy
set_option Elab.async false
set_option linter.all false
set_option maxRecDepth 100000
set_option maxHeartbeats 4000000
namespace Toy
open PySem PySem.Spec PyProof.Rows L2 DX
section
variable {P : Program} {w : World} {K : PySem.W.Frag} {mg : Str → Option Value} {base : Heap}
theorem valD_put (kvs : List (Key × D)) (k j : Key) (v : D) : valD (dputK kvs k v) j = if k = j then some v else valD kvs j := by
  induction kvs with
  | nil =>
    show valD [(k, v)] j = _
    rw [valD_cons]
  | cons a r ih =>
    obtain ⟨n, x⟩ := a
    unfold dputK at ih ⊢
    by_cases e : n = k
    · subst e
      rw [if_pos (by simp)]
      rw [List.map_cons, if_pos rfl, valD_cons, valD_cons]
      by_cases z : n = j
      · rw [if_pos z, if_pos z]
      · rw [if_neg z, if_neg z, if_neg z]
        clear ih
        induction r with
        | nil => rfl
        | cons b r ih2 =>
          obtain ⟨m, y⟩ := b
          rw [List.map_cons]
          by_cases zz : m = n
          · rw [if_pos zz, valD_cons, valD_cons, zz, if_neg z, if_neg z]; exact ih2
          · rw [if_neg zz, valD_cons, valD_cons, ih2]
    · by_cases h : (r.any fun kv => decide (kv.1 = k)) = true
      · rw [if_pos h] at ih
        rw [if_pos (by rw [List.any_cons, h]; simp), List.map_cons, if_neg e, valD_cons, valD_cons, ih]
        by_cases z : n = j
        · rw [if_pos z, if_pos z, if_neg (fun q => e (z.trans q.symm))]
        · rw [if_neg z, if_neg z]
      · rw [if_neg h] at ih
        rw [if_neg (by rw [List.any_cons]; simpa [e] using h), List.cons_append, valD_cons, valD_cons, ih]
        by_cases z : n = j
        · rw [if_pos z, if_pos z, if_neg (fun q => e (z.trans q.symm))]
        · rw [if_neg z, if_neg z]
theorem put_len (kvs : List (Key × D)) (k : Key) (v : D) : (dputK kvs k v).length ≤ kvs.length + 1 := by
  unfold dputK
  split <;> simp
theorem dc_map {ug : DTG} {ut : DTT} {uk uv : DTE} {ρw : Rho} {chk : Mem → Prop} {fin : List (Key × D) → Mem → Prop} {ds : List D} {μ : Mem} (J : Nat → List (Key × D) → Mem → Prop) (h0 : J 0 [] μ) (hI : ∀ n acc μ, J n acc μ → chk μ) (hn : ∀ acc μ, J ds.length acc μ → fin acc μ)
    (hs : ∀ n d acc μ (go : List (Key × D) → Mem → Prop), ds[n]? = some d → J n acc μ → (∀ acc μ, J (n + 1) acc μ → go acc μ) → ug d ρw μ (fun ρ1 μ1 => ut ρ1 μ1 (fun b μ2 => if b = true then uk ρ1 μ2 (fun y μ3 => uv ρ1 μ3 (fun z μ4 => ∃ k, dKey y = some k ∧ acc.length < 1000000 ∧ go (dputK acc k z) μ4) XN) XN else go acc μ2) XN) XN) : uDcGo ug ut uk uv ρw chk fin ds [] μ := by
  have all : ∀ (es : List D) (n : Nat) (acc : List (Key × D)) (μ : Mem), es = ds.drop n → n ≤ ds.length → J n acc μ → uDcGo ug ut uk uv ρw chk fin es acc μ := by
    intro es
    induction es with
    | nil =>
      intro n acc μ e l h
      have : ds.length ≤ n := List.drop_eq_nil_iff.mp e.symm
      have : n = ds.length := by omega
      subst this
      exact ⟨hI _ _ _ h, hn _ _ h⟩
    | cons d es ih =>
      intro n acc μ e l h
      have hl : n < ds.length := by
        rcases Nat.lt_or_ge n ds.length with z | z
        · exact z
        · rw [List.drop_eq_nil_iff.mpr z] at e; cases e
      rw [List.drop_eq_getElem_cons hl] at e
      injection e with e1 e2
      exact ⟨hI _ _ _ h, hs n d acc μ _ (by rw [e1]; exact List.getElem?_eq_getElem hl) h fun acc1 μ1 j => ih (n + 1) acc1 μ1 e2 hl j⟩
  exact all ds 0 [] μ rfl (Nat.zero_le _) h0
theorem Mkv_app {W : Wd P w K mg base} {μ l : Mem} {x d : D} {bs : List Bool} (h : Mkv W μ x d bs) : Mkv W (μ ++ l) x d bs := ⟨view_appI h.1, view_app h.2⟩
/-- the bursts of reads, as the program finds them -/
structure BS where
  bare : Nat → Bool
  lat : Nat → Option Nat
  bu : List (Nat × Nat × Nat)
def fput {α : Type} (f : Nat → α) (p : Nat) (x : α) : Nat → α := fun q => if q = p then x else f q
def bump (j : Nat) (l : List (Nat × Nat × Nat)) : List (Nat × Nat × Nat) := l.modify j fun t => (t.1, t.2.1, t.2.2 + 1)
def bstep (i : Nat) (st : BS) (d : Bool × Nat) : BS :=
  if d.1 then ⟨fput st.bare d.2 true, fput st.lat d.2 none, st.bu⟩
  else if st.bare d.2 then match st.lat d.2 with
    | none => ⟨st.bare, fput st.lat d.2 (some st.bu.length), st.bu ++ [(i, d.2, 1)]⟩
    | some j => ⟨st.bare, st.lat, bump j st.bu⟩
  else st
def brun (i : Nat) : List (Bool × Nat) → BS → BS
  | [], st => st
  | d :: r, st => brun (i + 1) r (bstep i st d)
theorem brun_snoc : ∀ (i : Nat) (ps : List (Bool × Nat)) (d : Bool × Nat) (st : BS), brun i (ps ++ [d]) st = bstep (i + ps.length) (brun i ps st) d
  | _, [], _, _ => rfl
  | i, e :: r, d, st => by
    show brun (i + 1) (r ++ [d]) (bstep i st e) = _
    rw [brun_snoc (i + 1) r d]
    show _ = bstep (i + (r.length + 1)) (brun (i + 1) r (bstep i st e)) d
    rw [show i + 1 + r.length = i + (r.length + 1) by omega]
def b0 (bs : List Bool) : BS := ⟨fun p => !(bs.getD p false), fun _ => none, []⟩
def tr (t : Nat × Nat × Nat) : List D := [.int t.1, .int t.2.1, .int t.2.2]
def latD : Option Nat → D
  | none => .non
  | some j => .int j
/-- the dicts say what the state says -/
structure BD_ (n i : Nat) (st : BS) (lk bk : List (Key × D)) : Prop where
  b : ∀ p, p < n → valD bk (.inl p) = some (.bl (st.bare p))
  l : ∀ p, p < n → (valD lk (.inl p)).getD .non = latD (st.lat p)
  r : ∀ p j, p < n → st.lat p = some j → j < st.bu.length ∧ valD lk (.inl p) = some (.int j)
  lb : bk.length ≤ n + i
  ll : lk.length ≤ i
  m : st.bu.length ≤ i
def bm (μ : Mem) (bu : List (Nat × Nat × Nat)) (lk bk : List (Key × D)) : Mem := μ ++ ([.lst ((List.range bu.length).map fun j => .ob (μ.length + (3 + j))), .dic lk, .dic bk] ++ bu.map fun t => .lst (tr t))
section
variable {μ : Mem} {bu : List (Nat × Nat × Nat)} {lk bk : List (Key × D)}
theorem bm_len : (bm μ bu lk bk).length = μ.length + (3 + bu.length) := by unfold bm; simp; omega
theorem bm_0 : (bm μ bu lk bk)[μ.length]? = some (.lst ((List.range bu.length).map fun j => .ob (μ.length + (3 + j)))) := at_r0
theorem bm_1 : (bm μ bu lk bk)[μ.length + 1]? = some (.dic lk) := at_r 1
theorem bm_2 : (bm μ bu lk bk)[μ.length + 2]? = some (.dic bk) := at_r 2
theorem bm_3 {j : Nat} {t : Nat × Nat × Nat} (h : bu[j]? = some t) : (bm μ bu lk bk)[μ.length + (3 + j)]? = some (.lst (tr t)) := by
  unfold bm
  rw [at_r, List.getElem?_append_right (by simp)]
  simp [h]
theorem bm_s1 {lk' : List (Key × D)} : (bm μ bu lk bk).set (μ.length + 1) (.dic lk') = bm μ bu lk' bk := set_rn rfl 1
theorem bm_s2 {bk' : List (Key × D)} : (bm μ bu lk bk).set (μ.length + 2) (.dic bk') = bm μ bu lk bk' := set_rn rfl 2
theorem bm_app {t : Nat × Nat × Nat} : (bm μ bu lk bk ++ [DX.M.lst (tr t)]).set μ.length (DX.M.lst ((List.range bu.length).map (fun j => D.ob (μ.length + (3 + j))) ++ [D.ob (μ.length + (3 + bu.length))])) = bm μ (bu ++ [t]) lk bk := by
  unfold bm
  rw [List.append_assoc, set_rn0 rfl, List.length_append, List.length_singleton, List.range_succ]
  simp
theorem bm_bump {j : Nat} {t : Nat × Nat × Nat} (h : bu[j]? = some t) : (bm μ bu lk bk).set (μ.length + (3 + j)) (.lst (tr (t.1, t.2.1, t.2.2 + 1))) = bm μ (bump j bu) lk bk := by
  unfold bm
  rw [set_rn rfl, List.set_append_right _ _ (by simp)]
  have e : (bump j bu).length = bu.length := by unfold bump; simp
  rw [e]
  congr 2
  refine List.ext_getElem? fun i => ?_
  unfold bump
  simp only [List.length_cons, List.length_nil, List.getElem?_map, List.getElem?_modify]
  by_cases z : j = i
  · subst z
    rw [show 3 + j - (0 + 1 + 1 + 1) = j by omega, List.getElem?_set_self (by simpa using lt_of_at h)]
    simp [h]
  · rw [show 3 + j - (0 + 1 + 1 + 1) = j by omega, List.getElem?_set_ne z]
    simp [z]
theorem bump_last {n p c : Nat} : bump bu.length (bu ++ [(n, p, c)]) = bu ++ [(n, p, c + 1)] := by
  unfold bump
  refine List.ext_getElem? fun i => ?_
  rw [List.getElem?_modify]
  by_cases z : bu.length = i
  · subst z; simp
  · rcases Nat.lt_or_gt_of_ne z with h | h
    · rw [List.getElem?_eq_none (by simp; omega), List.getElem?_eq_none (by simp; omega)]; rfl
    · rw [List.getElem?_append_left h, List.getElem?_append_left h]; simp [z]
theorem dic_of {k : Nat} {kvs : List (Key × D)} (h : μ[k]? = some (.dic kvs)) : dicAt μ (.ob k) = some kvs := by
  show (match μ[k]? with | some (DX.M.dic kvs) => some kvs | _ => none) = some kvs
  rw [h]
end

def S_bursts (W : Wd P w K mg base) : DSp := fun ds μ Q E => match ds with
  | [xs, m] => ∃ (ps : List (Bool × Nat)) (d : D) (bs : List Bool), view μ xs = .lst (ps.map dd) ∧ Mkv W μ m d bs ∧ bs.length < 1000 ∧ ps.length ≤ 1000 ∧ (∀ p ∈ ps, p.2 < bs.length) ∧ Q (.lst ((brun 0 ps (b0 bs)).bu.map fun t => .lst (tr t))) μ
  | _ => False

theorem ok_bursts (W : Wd P w K mg base) : FnD P w K mg base 6 W.f_bursts (S_bursts W) := by
  refine (okB W.t_bursts.d sc_bursts (by (intro ds μ Q E h; unfold S_bursts at h; split at h <;> first | rfl | exact h.elim)) _ (fun cdv A outer s H E' g hr => ⟨_, (b_cons (s_set 2 sc_bursts.nd (d_lstM a_nil))
      (b_cons (s_set 3 sc_bursts.nd d_dnew)
      (b_cons (s_setDc 5 [("page", 4)] sc_bursts.nd (i_rng1 W.z_range (a_cons (d_callB (call_lenO W.ln_Marks (ok_Marks_len W) g (hr.mono (by decide)) rfl) sim_lenO W.z_len (a_cons (d_var 1) a_nil)) a_nil)) (blkOk_by (own := [("page", 4)]) (N := ["deeds", "marks", "bursts", "latest", "page", "bare", "index", "word"]) (sc := defScope s_bursts) (by decide +kernel)) (fun _ _ _ _ _ => (g_name 4 sc_bursts.nd)) (fun _ _ _ _ _ => ts_nil) (fun _ _ _ _ _ => (d_var 4)) (fun _ _ _ _ _ => (d_not (d_getO W.gi_Marks (ok_Marks_getitem W) g hr takes0 (d_var 1) (d_var 4)))) (wip_name (by decide)) mono_name (sw_trueD rfl rfl rfl (by decide +kernel)))
      (b_cons (s_for (passes_of rfl) (i_enum W.z_enumerate (a_cons (d_var 0) a_nil)) (g_un 2 (gs_cons (g_name 6 sc_bursts.nd) (gs_cons (g_un 2 (gs_cons (g_name 7 sc_bursts.nd) (gs_cons (g_name 4 sc_bursts.nd) gs_nil))) gs_nil)))
      (b_one (s_if (t_cmp (op_eqA hr.units rfl) sim_eq (d_var 7) d_str (nomark _)) (b_cons (s_dput (hu_of hr) (d_var 5) (d_var 4) d_bl)
      (b_one (s_dput (hu_of hr) (d_var 3) (d_var 4) d_non))) (b_one (s_if (t_tru (d_dget (hu_of hr) (d_var 5) (d_var 4))) (b_cons (s_if (t_isN (d_dget1 (hu_of hr) (d_var 3) (d_var 4))) (b_cons (s_dput (hu_of hr) (d_var 3) (d_var 4) (d_callB (call_lenA rfl) sim_len W.z_len (a_cons (d_var 2) a_nil)))
      (b_one (s_expr (d_bm PySem.F.slot_list_append PySem.F.type_list_append mt_append sim_append (d_var 2) (a_cons (d_lstM (a_cons (d_var 6) (a_cons (d_var 4) (a_cons d_int a_nil)))) a_nil))))) b_nil)
      (b_one (s_augIx (d_ix (d_var 2) (d_dget (hu_of hr) (d_var 3) (d_var 4))) d_int d_int ip_add sim_ipI))) b_nil)))))
      (b_one (s_ret (d_var 2)))))))⟩) (fun ds μ Q E h => ?_)).fn0 W.t_bursts.b
  unfold S_bursts at h
  split at h
  · rename_i xs m
    obtain ⟨ps, d, bs, hL, hm, hl, hps, hall, q⟩ := h
    rw [show startD ["deeds", "marks", "bursts", "latest", "page", "bare", "index", "word"] [xs, m] = [some xs, some m, none, none, none, none, none, none] from rfl]
    refine seq_step fun nx hnx => ?_
    simp (maxSteps := 4000000) only [DX.at_r0, DX.set_r0, DX.putD_nil, DX.putD_hd, DX.look_hd, DX.atI_nat, DX.at0, DX.at1, DX.at2, DX.at3, DX.eqok_int, DX.eqok_str, DX.eqok_bl, DX.deqv_int, DX.deqv_str, DX.deqv_bl, DX.uMakeM, DX.uMakeF, DX.uMakeSF, DX.uProp, DX.uGName, DX.uGNil, DX.uGCons, DX.uGTup, DX.uGSet, DX.uAsg, DX.uDrop, DX.uRet, DX.uRetN, DX.uNext, DX.uBreak, DX.uCont, DX.uNever, DX.uSeq, DX.uIfS, DX.uCut, DX.uAug, DX.uSetF, DX.uISeq, DX.uIRng1, DX.uIRng2, DX.uFor, DX.uWhile, DX.uLc, DX.uYes, DX.uRaise, DX.uTry, DX.uXf, DX.uIsX, DX.uGet, DX.uGSetO, DX.uSMeth, DX.uIEnum, DX.uIZip, DX.uGUn, DX.uPar, DX.uVar, DX.uC, DX.uNil, DX.uCons, DX.uTup, DX.uLst, DX.uLstM, DX.uOp, DX.dI, DX.dIC, DX.dEq, DX.dNe, DX.dAdd, DX.uUn, DX.uIsN, DX.dTru, DX.uTru, DX.uTest, DX.uAndB, DX.uOrB, DX.uNotB, DX.uAnd, DX.uOr, DX.uNot, DX.uIf, DX.uChain, DX.dIx, DX.uNoPart, DX.uPart, DX.uSl, DX.dIn, DX.uFld, DX.uCB, DX.one, DX.dLen, DX.dIsB, DX.uIs, DX.dIsO, DX.dInt, DX.dList, DX.dTuple, DX.uBM, DX.dAppend, DX.dExtend, DX.dIndex, DX.uM1, DX.uCall, DX.uMeth, DX.dTwo, DX.dRep, DX.dLenO, DX.dCmpO, DX.dNeO, DX.dInO, DX.dMakeM, DX.dMakeF, DX.isC, DX.insAt, List.getElem?_cons_zero, List.getElem?_cons_succ, List.getElem?_nil, List.set_cons_zero, List.set_cons_succ, List.length_cons, List.length_nil, DX.wipeD, DX.tyIs, DX.v_non, DX.vT_non, DX.ty_non, DX.v_bl, DX.vT_bl, DX.ty_bl, DX.v_int, DX.vT_int, DX.ty_int, DX.v_str, DX.vT_str, DX.ty_str, DX.v_byt, DX.vT_byt, DX.ty_byt, DX.v_lst, DX.vT_lst, DX.ty_lst, DX.v_tup, DX.vT_tup, DX.ty_tup, DX.v_kt, DX.vT_kt, DX.ty_kt, DX.v_kl, DX.vT_kl, DX.ty_kl, DX.v_ins, DX.vT_ins, DX.ty_ins, DX.v_val, DX.vT_val, DX.ty_val, if_true, if_false, Bool.false_eq_true, reduceIte, Bool.not_true, Bool.not_false, true_and, and_true, List.isEmpty_cons, List.isEmpty_nil, Nat.reduceAdd]
    refine ⟨by decide, hnx _ _ ?_⟩
    clear hnx nx
    refine seq_step fun nx hnx => ?_
    simp (maxSteps := 4000000) only [uDNew, List.length_append, DX.at_r0, DX.set_r0, DX.putD_nil, DX.putD_hd, DX.look_hd, DX.atI_nat, DX.at0, DX.at1, DX.at2, DX.at3, DX.eqok_int, DX.eqok_str, DX.eqok_bl, DX.deqv_int, DX.deqv_str, DX.deqv_bl, DX.uMakeM, DX.uMakeF, DX.uMakeSF, DX.uProp, DX.uGName, DX.uGNil, DX.uGCons, DX.uGTup, DX.uGSet, DX.uAsg, DX.uDrop, DX.uRet, DX.uRetN, DX.uNext, DX.uBreak, DX.uCont, DX.uNever, DX.uSeq, DX.uIfS, DX.uCut, DX.uAug, DX.uSetF, DX.uISeq, DX.uIRng1, DX.uIRng2, DX.uFor, DX.uWhile, DX.uLc, DX.uYes, DX.uRaise, DX.uTry, DX.uXf, DX.uIsX, DX.uGet, DX.uGSetO, DX.uSMeth, DX.uIEnum, DX.uIZip, DX.uGUn, DX.uPar, DX.uVar, DX.uC, DX.uNil, DX.uCons, DX.uTup, DX.uLst, DX.uLstM, DX.uOp, DX.dI, DX.dIC, DX.dEq, DX.dNe, DX.dAdd, DX.uUn, DX.uIsN, DX.dTru, DX.uTru, DX.uTest, DX.uAndB, DX.uOrB, DX.uNotB, DX.uAnd, DX.uOr, DX.uNot, DX.uIf, DX.uChain, DX.dIx, DX.uNoPart, DX.uPart, DX.uSl, DX.dIn, DX.uFld, DX.uCB, DX.one, DX.dLen, DX.dIsB, DX.uIs, DX.dIsO, DX.dInt, DX.dList, DX.dTuple, DX.uBM, DX.dAppend, DX.dExtend, DX.dIndex, DX.uM1, DX.uCall, DX.uMeth, DX.dTwo, DX.dRep, DX.dLenO, DX.dCmpO, DX.dNeO, DX.dInO, DX.dMakeM, DX.dMakeF, DX.isC, DX.insAt, List.getElem?_cons_zero, List.getElem?_cons_succ, List.getElem?_nil, List.set_cons_zero, List.set_cons_succ, List.length_cons, List.length_nil, DX.wipeD, DX.tyIs, DX.v_non, DX.vT_non, DX.ty_non, DX.v_bl, DX.vT_bl, DX.ty_bl, DX.v_int, DX.vT_int, DX.ty_int, DX.v_str, DX.vT_str, DX.ty_str, DX.v_byt, DX.vT_byt, DX.ty_byt, DX.v_lst, DX.vT_lst, DX.ty_lst, DX.v_tup, DX.vT_tup, DX.ty_tup, DX.v_kt, DX.vT_kt, DX.ty_kt, DX.v_kl, DX.vT_kl, DX.ty_kl, DX.v_ins, DX.vT_ins, DX.ty_ins, DX.v_val, DX.vT_val, DX.ty_val, if_true, if_false, Bool.false_eq_true, reduceIte, Bool.not_true, Bool.not_false, true_and, and_true, List.isEmpty_cons, List.isEmpty_nil, Nat.reduceAdd]
    refine hnx _ _ ?_
    clear hnx nx
    refine seq_step fun nx hnx => ?_
    simp (maxSteps := 4000000) only [uDc, List.append_assoc, List.cons_append, List.nil_append, view_appI hm.1, DX.at_r0, DX.set_r0, DX.putD_nil, DX.putD_hd, DX.look_hd, DX.atI_nat, DX.at0, DX.at1, DX.at2, DX.at3, DX.eqok_int, DX.eqok_str, DX.eqok_bl, DX.deqv_int, DX.deqv_str, DX.deqv_bl, DX.uMakeM, DX.uMakeF, DX.uMakeSF, DX.uProp, DX.uGName, DX.uGNil, DX.uGCons, DX.uGTup, DX.uGSet, DX.uAsg, DX.uDrop, DX.uRet, DX.uRetN, DX.uNext, DX.uBreak, DX.uCont, DX.uNever, DX.uSeq, DX.uIfS, DX.uCut, DX.uAug, DX.uSetF, DX.uISeq, DX.uIRng1, DX.uIRng2, DX.uFor, DX.uWhile, DX.uLc, DX.uYes, DX.uRaise, DX.uTry, DX.uXf, DX.uIsX, DX.uGet, DX.uGSetO, DX.uSMeth, DX.uIEnum, DX.uIZip, DX.uGUn, DX.uPar, DX.uVar, DX.uC, DX.uNil, DX.uCons, DX.uTup, DX.uLst, DX.uLstM, DX.uOp, DX.dI, DX.dIC, DX.dEq, DX.dNe, DX.dAdd, DX.uUn, DX.uIsN, DX.dTru, DX.uTru, DX.uTest, DX.uAndB, DX.uOrB, DX.uNotB, DX.uAnd, DX.uOr, DX.uNot, DX.uIf, DX.uChain, DX.dIx, DX.uNoPart, DX.uPart, DX.uSl, DX.dIn, DX.uFld, DX.uCB, DX.one, DX.dLen, DX.dIsB, DX.uIs, DX.dIsO, DX.dInt, DX.dList, DX.dTuple, DX.uBM, DX.dAppend, DX.dExtend, DX.dIndex, DX.uM1, DX.uCall, DX.uMeth, DX.dTwo, DX.dRep, DX.dLenO, DX.dCmpO, DX.dNeO, DX.dInO, DX.dMakeM, DX.dMakeF, DX.isC, DX.insAt, List.getElem?_cons_zero, List.getElem?_cons_succ, List.getElem?_nil, List.set_cons_zero, List.set_cons_succ, List.length_cons, List.length_nil, DX.wipeD, DX.tyIs, DX.v_non, DX.vT_non, DX.ty_non, DX.v_bl, DX.vT_bl, DX.ty_bl, DX.v_int, DX.vT_int, DX.ty_int, DX.v_str, DX.vT_str, DX.ty_str, DX.v_byt, DX.vT_byt, DX.ty_byt, DX.v_lst, DX.vT_lst, DX.ty_lst, DX.v_tup, DX.vT_tup, DX.ty_tup, DX.v_kt, DX.vT_kt, DX.ty_kt, DX.v_kl, DX.vT_kl, DX.ty_kl, DX.v_ins, DX.vT_ins, DX.ty_ins, DX.v_val, DX.vT_val, DX.ty_val, if_true, if_false, Bool.false_eq_true, reduceIte, Bool.not_true, Bool.not_false, true_and, and_true, List.isEmpty_cons, List.isEmpty_nil, Nat.reduceAdd]
    refine ⟨_, bs, Mkv_app hm, bs.length, rfl, by omega, ⟨by omega, by omega⟩, ?_⟩
    refine dc_map (fun n acc μ1 => μ1 = μ ++ [.lst [], .dic []] ∧ n ≤ bs.length ∧ acc.length ≤ n ∧ ∀ p, p < n → valD acc (.inl p) = some (.bl (!(bs.getD p false)))) ⟨rfl, Nat.zero_le _, Nat.le_refl _, fun p hp => absurd hp (Nat.not_lt_zero p)⟩ (fun _ _ _ _ => True.intro) ?_ ?_
    · rintro acc μ1 ⟨rfl, _, hal, hv⟩
      rw [dints_len, Int.toNat_natCast] at hal hv
      simp (maxSteps := 4000000) only [List.length_append, List.append_assoc, List.cons_append, List.nil_append, DX.at_r0, DX.set_r0, DX.putD_nil, DX.putD_hd, DX.look_hd, DX.atI_nat, DX.at0, DX.at1, DX.at2, DX.at3, DX.eqok_int, DX.eqok_str, DX.eqok_bl, DX.deqv_int, DX.deqv_str, DX.deqv_bl, DX.uMakeM, DX.uMakeF, DX.uMakeSF, DX.uProp, DX.uGName, DX.uGNil, DX.uGCons, DX.uGTup, DX.uGSet, DX.uAsg, DX.uDrop, DX.uRet, DX.uRetN, DX.uNext, DX.uBreak, DX.uCont, DX.uNever, DX.uSeq, DX.uIfS, DX.uCut, DX.uAug, DX.uSetF, DX.uISeq, DX.uIRng1, DX.uIRng2, DX.uFor, DX.uWhile, DX.uLc, DX.uYes, DX.uRaise, DX.uTry, DX.uXf, DX.uIsX, DX.uGet, DX.uGSetO, DX.uSMeth, DX.uIEnum, DX.uIZip, DX.uGUn, DX.uPar, DX.uVar, DX.uC, DX.uNil, DX.uCons, DX.uTup, DX.uLst, DX.uLstM, DX.uOp, DX.dI, DX.dIC, DX.dEq, DX.dNe, DX.dAdd, DX.uUn, DX.uIsN, DX.dTru, DX.uTru, DX.uTest, DX.uAndB, DX.uOrB, DX.uNotB, DX.uAnd, DX.uOr, DX.uNot, DX.uIf, DX.uChain, DX.dIx, DX.uNoPart, DX.uPart, DX.uSl, DX.dIn, DX.uFld, DX.uCB, DX.one, DX.dLen, DX.dIsB, DX.uIs, DX.dIsO, DX.dInt, DX.dList, DX.dTuple, DX.uBM, DX.dAppend, DX.dExtend, DX.dIndex, DX.uM1, DX.uCall, DX.uMeth, DX.dTwo, DX.dRep, DX.dLenO, DX.dCmpO, DX.dNeO, DX.dInO, DX.dMakeM, DX.dMakeF, DX.isC, DX.insAt, List.getElem?_cons_zero, List.getElem?_cons_succ, List.getElem?_nil, List.set_cons_zero, List.set_cons_succ, List.length_cons, List.length_nil, DX.wipeD, DX.tyIs, DX.v_non, DX.vT_non, DX.ty_non, DX.v_bl, DX.vT_bl, DX.ty_bl, DX.v_int, DX.vT_int, DX.ty_int, DX.v_str, DX.vT_str, DX.ty_str, DX.v_byt, DX.vT_byt, DX.ty_byt, DX.v_lst, DX.vT_lst, DX.ty_lst, DX.v_tup, DX.vT_tup, DX.ty_tup, DX.v_kt, DX.vT_kt, DX.ty_kt, DX.v_kl, DX.vT_kl, DX.ty_kl, DX.v_ins, DX.vT_ins, DX.ty_ins, DX.v_val, DX.vT_val, DX.ty_val, if_true, if_false, Bool.false_eq_true, reduceIte, Bool.not_true, Bool.not_false, true_and, and_true, List.isEmpty_cons, List.isEmpty_nil, Nat.reduceAdd]
      refine hnx _ _ ?_
      clear hnx nx
      have hb0 : BD_ bs.length 0 (b0 bs) [] acc := ⟨hv, fun _ _ => rfl, (fun _ _ _ z => by cases z), by omega, Nat.le_refl _, Nat.le_refl _⟩
      refine seq_step fun nx hnx => ?_
      simp (maxSteps := 4000000) only [view_app hL, DX.at_r0, DX.set_r0, DX.putD_nil, DX.putD_hd, DX.look_hd, DX.atI_nat, DX.at0, DX.at1, DX.at2, DX.at3, DX.eqok_int, DX.eqok_str, DX.eqok_bl, DX.deqv_int, DX.deqv_str, DX.deqv_bl, DX.uMakeM, DX.uMakeF, DX.uMakeSF, DX.uProp, DX.uGName, DX.uGNil, DX.uGCons, DX.uGTup, DX.uGSet, DX.uAsg, DX.uDrop, DX.uRet, DX.uRetN, DX.uNext, DX.uBreak, DX.uCont, DX.uNever, DX.uSeq, DX.uIfS, DX.uCut, DX.uAug, DX.uSetF, DX.uISeq, DX.uIRng1, DX.uIRng2, DX.uFor, DX.uWhile, DX.uLc, DX.uYes, DX.uRaise, DX.uTry, DX.uXf, DX.uIsX, DX.uGet, DX.uGSetO, DX.uSMeth, DX.uIEnum, DX.uIZip, DX.uGUn, DX.uPar, DX.uVar, DX.uC, DX.uNil, DX.uCons, DX.uTup, DX.uLst, DX.uLstM, DX.uOp, DX.dI, DX.dIC, DX.dEq, DX.dNe, DX.dAdd, DX.uUn, DX.uIsN, DX.dTru, DX.uTru, DX.uTest, DX.uAndB, DX.uOrB, DX.uNotB, DX.uAnd, DX.uOr, DX.uNot, DX.uIf, DX.uChain, DX.dIx, DX.uNoPart, DX.uPart, DX.uSl, DX.dIn, DX.uFld, DX.uCB, DX.one, DX.dLen, DX.dIsB, DX.uIs, DX.dIsO, DX.dInt, DX.dList, DX.dTuple, DX.uBM, DX.dAppend, DX.dExtend, DX.dIndex, DX.uM1, DX.uCall, DX.uMeth, DX.dTwo, DX.dRep, DX.dLenO, DX.dCmpO, DX.dNeO, DX.dInO, DX.dMakeM, DX.dMakeF, DX.isC, DX.insAt, List.getElem?_cons_zero, List.getElem?_cons_succ, List.getElem?_nil, List.set_cons_zero, List.set_cons_succ, List.length_cons, List.length_nil, DX.wipeD, DX.tyIs, DX.v_non, DX.vT_non, DX.ty_non, DX.v_bl, DX.vT_bl, DX.ty_bl, DX.v_int, DX.vT_int, DX.ty_int, DX.v_str, DX.vT_str, DX.ty_str, DX.v_byt, DX.vT_byt, DX.ty_byt, DX.v_lst, DX.vT_lst, DX.ty_lst, DX.v_tup, DX.vT_tup, DX.ty_tup, DX.v_kt, DX.vT_kt, DX.ty_kt, DX.v_kl, DX.vT_kl, DX.ty_kl, DX.v_ins, DX.vT_ins, DX.ty_ins, DX.v_val, DX.vT_val, DX.ty_val, if_true, if_false, Bool.false_eq_true, reduceIte, Bool.not_true, Bool.not_false, true_and, and_true, List.isEmpty_cons, List.isEmpty_nil, Nat.reduceAdd]
      refine for_map (fun n ρ μ1 => ∃ st lk bk, brun 0 (ps.take n) (b0 bs) = st ∧ BD_ bs.length n st lk bk ∧ μ1 = bm μ st.bu lk bk ∧ ∃ o4 o6 o7, ρ = [some xs, some m, some (.ob μ.length), some (.ob (μ.length + 1)), o4, some (.ob (μ.length + 2)), o6, o7]) ⟨b0 bs, [], acc, rfl, hb0, rfl, _, _, _, rfl⟩ ?_ ?_ ?_
      · rintro n ρ μ1 ⟨st, lk, bk, _, _, rfl, _⟩; exact view_app hL
      · rintro ρ μ1 ⟨st, lk, bk, hst, _, rfl, o4, o6, o7, rfl⟩
        rw [denum_len, List.length_map, List.take_length] at hst
        refine hnx _ _ ?_
        clear hnx nx
        rw [hst] at q
        simp (maxSteps := 4000000) only [DX.at_r0, DX.set_r0, DX.putD_nil, DX.putD_hd, DX.look_hd, DX.atI_nat, DX.at0, DX.at1, DX.at2, DX.at3, DX.eqok_int, DX.eqok_str, DX.eqok_bl, DX.deqv_int, DX.deqv_str, DX.deqv_bl, DX.uMakeM, DX.uMakeF, DX.uMakeSF, DX.uProp, DX.uGName, DX.uGNil, DX.uGCons, DX.uGTup, DX.uGSet, DX.uAsg, DX.uDrop, DX.uRet, DX.uRetN, DX.uNext, DX.uBreak, DX.uCont, DX.uNever, DX.uSeq, DX.uIfS, DX.uCut, DX.uAug, DX.uSetF, DX.uISeq, DX.uIRng1, DX.uIRng2, DX.uFor, DX.uWhile, DX.uLc, DX.uYes, DX.uRaise, DX.uTry, DX.uXf, DX.uIsX, DX.uGet, DX.uGSetO, DX.uSMeth, DX.uIEnum, DX.uIZip, DX.uGUn, DX.uPar, DX.uVar, DX.uC, DX.uNil, DX.uCons, DX.uTup, DX.uLst, DX.uLstM, DX.uOp, DX.dI, DX.dIC, DX.dEq, DX.dNe, DX.dAdd, DX.uUn, DX.uIsN, DX.dTru, DX.uTru, DX.uTest, DX.uAndB, DX.uOrB, DX.uNotB, DX.uAnd, DX.uOr, DX.uNot, DX.uIf, DX.uChain, DX.dIx, DX.uNoPart, DX.uPart, DX.uSl, DX.dIn, DX.uFld, DX.uCB, DX.one, DX.dLen, DX.dIsB, DX.uIs, DX.dIsO, DX.dInt, DX.dList, DX.dTuple, DX.uBM, DX.dAppend, DX.dExtend, DX.dIndex, DX.uM1, DX.uCall, DX.uMeth, DX.dTwo, DX.dRep, DX.dLenO, DX.dCmpO, DX.dNeO, DX.dInO, DX.dMakeM, DX.dMakeF, DX.isC, DX.insAt, List.getElem?_cons_zero, List.getElem?_cons_succ, List.getElem?_nil, List.set_cons_zero, List.set_cons_succ, List.length_cons, List.length_nil, DX.wipeD, DX.tyIs, DX.v_non, DX.vT_non, DX.ty_non, DX.v_bl, DX.vT_bl, DX.ty_bl, DX.v_int, DX.vT_int, DX.ty_int, DX.v_str, DX.vT_str, DX.ty_str, DX.v_byt, DX.vT_byt, DX.ty_byt, DX.v_lst, DX.vT_lst, DX.ty_lst, DX.v_tup, DX.vT_tup, DX.ty_tup, DX.v_kt, DX.vT_kt, DX.ty_kt, DX.v_kl, DX.vT_kl, DX.ty_kl, DX.v_ins, DX.vT_ins, DX.ty_ins, DX.v_val, DX.vT_val, DX.ty_val, if_true, if_false, Bool.false_eq_true, reduceIte, Bool.not_true, Bool.not_false, true_and, and_true, List.isEmpty_cons, List.isEmpty_nil, Nat.reduceAdd]
        have e : fz (bm μ st.bu lk bk) μ.length 6 (.ob μ.length) = .lst (st.bu.map fun t => .lst (tr t)) := by
          rw [fz_obL (by omega) bm_0, List.map_map]
          congr 1
          refine List.ext_getElem? fun i => ?_
          simp only [List.getElem?_map]
          by_cases hi : i < st.bu.length
          · rw [List.getElem?_range hi, List.getElem?_eq_getElem hi]
            show some (fz (bm μ st.bu lk bk) μ.length 5 (.ob (μ.length + (3 + i)))) = _
            rw [fz_obL (by omega) (bm_3 (List.getElem?_eq_getElem hi))]
            rfl
          · rw [List.getElem?_eq_none (by simpa using hi), List.getElem?_eq_none (by omega)]
            rfl
        refine .inr ⟨⟨by rw [bm_len]; omega, fun k m' hk hm' => .inl (by unfold bm at hm'; rw [at_l hk] at hm'; exact hm')⟩, ?_, ?_⟩
        · rw [e]
          exact cldL_all fun x hx => by
            obtain ⟨t, _, rfl⟩ := List.mem_map.mp hx
            rfl
        · rw [e, show (bm μ st.bu lk bk).take μ.length = μ from take_n rfl]
          exact q
      · rintro n e ρ μ1 go he ⟨st, lk, bk, hst, hbd, rfl, o4, o6, o7, rfl⟩ k
        obtain ⟨y, hy, rfl⟩ := denum_get he
        rw [Nat.zero_add]
        rw [List.getElem?_map] at hy
        cases hpn : ps[n]? with
        | none => rw [hpn] at hy; cases hy
        | some p =>
          rw [hpn] at hy
          cases hy
          have hp2 := hall p (List.mem_of_getElem? hpn)
          have nxt : ∀ st' lk' bk', bstep n st p = st' → BD_ bs.length (n + 1) st' lk' bk' → go [some xs, some m, some (.ob μ.length), some (.ob (μ.length + 1)), some (.int p.2), some (.ob (μ.length + 2)), some (.int n), some (.str (if p.1 = true then "write" else "read"))] (bm μ st'.bu lk' bk') := fun st' lk' bk' h1 h2 =>
            k _ _ ⟨st', lk', bk', by rw [take_snoc hpn, brun_snoc, hst, List.length_take, Nat.min_eq_left (Nat.le_of_lt (lt_of_at hpn)), Nat.zero_add, h1], h2, rfl, _, _, _, rfl⟩
          obtain ⟨wr, pg⟩ := p
          cases wr with
          | true =>
            simp (maxSteps := 4000000) only [dd, uDPut, DX.at_r0, DX.set_r0, DX.putD_nil, DX.putD_hd, DX.look_hd, DX.atI_nat, DX.at0, DX.at1, DX.at2, DX.at3, DX.eqok_int, DX.eqok_str, DX.eqok_bl, DX.deqv_int, DX.deqv_str, DX.deqv_bl, DX.uMakeM, DX.uMakeF, DX.uMakeSF, DX.uProp, DX.uGName, DX.uGNil, DX.uGCons, DX.uGTup, DX.uGSet, DX.uAsg, DX.uDrop, DX.uRet, DX.uRetN, DX.uNext, DX.uBreak, DX.uCont, DX.uNever, DX.uSeq, DX.uIfS, DX.uCut, DX.uAug, DX.uSetF, DX.uISeq, DX.uIRng1, DX.uIRng2, DX.uFor, DX.uWhile, DX.uLc, DX.uYes, DX.uRaise, DX.uTry, DX.uXf, DX.uIsX, DX.uGet, DX.uGSetO, DX.uSMeth, DX.uIEnum, DX.uIZip, DX.uGUn, DX.uPar, DX.uVar, DX.uC, DX.uNil, DX.uCons, DX.uTup, DX.uLst, DX.uLstM, DX.uOp, DX.dI, DX.dIC, DX.dEq, DX.dNe, DX.dAdd, DX.uUn, DX.uIsN, DX.dTru, DX.uTru, DX.uTest, DX.uAndB, DX.uOrB, DX.uNotB, DX.uAnd, DX.uOr, DX.uNot, DX.uIf, DX.uChain, DX.dIx, DX.uNoPart, DX.uPart, DX.uSl, DX.dIn, DX.uFld, DX.uCB, DX.one, DX.dLen, DX.dIsB, DX.uIs, DX.dIsO, DX.dInt, DX.dList, DX.dTuple, DX.uBM, DX.dAppend, DX.dExtend, DX.dIndex, DX.uM1, DX.uCall, DX.uMeth, DX.dTwo, DX.dRep, DX.dLenO, DX.dCmpO, DX.dNeO, DX.dInO, DX.dMakeM, DX.dMakeF, DX.isC, DX.insAt, List.getElem?_cons_zero, List.getElem?_cons_succ, List.getElem?_nil, List.set_cons_zero, List.set_cons_succ, List.length_cons, List.length_nil, DX.wipeD, DX.tyIs, DX.v_non, DX.vT_non, DX.ty_non, DX.v_bl, DX.vT_bl, DX.ty_bl, DX.v_int, DX.vT_int, DX.ty_int, DX.v_str, DX.vT_str, DX.ty_str, DX.v_byt, DX.vT_byt, DX.ty_byt, DX.v_lst, DX.vT_lst, DX.ty_lst, DX.v_tup, DX.vT_tup, DX.ty_tup, DX.v_kt, DX.vT_kt, DX.ty_kt, DX.v_kl, DX.vT_kl, DX.ty_kl, DX.v_ins, DX.vT_ins, DX.ty_ins, DX.v_val, DX.vT_val, DX.ty_val, if_true, if_false, Bool.false_eq_true, reduceIte, Bool.not_true, Bool.not_false, true_and, and_true, List.isEmpty_cons, List.isEmpty_nil, Nat.reduceAdd]
            rw [if_pos (by decide)]
            refine ⟨_, bk, _, rfl, bm_2, rfl, by have := hbd.lb; have := lt_of_at hpn; omega, ?_⟩
            rw [bm_s2]
            refine ⟨_, lk, _, rfl, bm_1, rfl, by have := hbd.ll; have := lt_of_at hpn; omega, ?_⟩
            rw [bm_s1]
            refine nxt ⟨fput st.bare pg true, fput st.lat pg none, st.bu⟩ _ _ rfl ⟨fun q hq => ?_, fun q hq => ?_, fun q j hq hj => ?_, ?_, ?_, Nat.le_succ_of_le hbd.m⟩
            · rw [valD_put]
              show _ = some (D.bl (if q = pg then true else st.bare q))
              by_cases z : q = pg
              · rw [if_pos (by rw [z]), if_pos z]
              · rw [if_neg (by simp; omega), if_neg z]; exact hbd.b q hq
            · rw [valD_put]
              show _ = latD (if q = pg then none else st.lat q)
              by_cases z : q = pg
              · rw [if_pos (by rw [z]), if_pos z]; rfl
              · rw [if_neg (by simp; omega), if_neg z]; exact hbd.l q hq
            · rw [valD_put]
              have hj : (if q = pg then none else st.lat q) = some j := hj
              by_cases z : q = pg
              · rw [if_pos z] at hj; cases hj
              · rw [if_neg z] at hj
                rw [if_neg (by simp; omega)]; exact hbd.r q j hq hj
            · have := put_len bk (.inl (pg : Int)) (.bl true); have := hbd.lb; omega
            · have := put_len lk (.inl (pg : Int)) .non; have := hbd.ll; omega
          | false =>
            simp (maxSteps := 4000000) only [dd, uDGet, DX.at_r0, DX.set_r0, DX.putD_nil, DX.putD_hd, DX.look_hd, DX.atI_nat, DX.at0, DX.at1, DX.at2, DX.at3, DX.eqok_int, DX.eqok_str, DX.eqok_bl, DX.deqv_int, DX.deqv_str, DX.deqv_bl, DX.uMakeM, DX.uMakeF, DX.uMakeSF, DX.uProp, DX.uGName, DX.uGNil, DX.uGCons, DX.uGTup, DX.uGSet, DX.uAsg, DX.uDrop, DX.uRet, DX.uRetN, DX.uNext, DX.uBreak, DX.uCont, DX.uNever, DX.uSeq, DX.uIfS, DX.uCut, DX.uAug, DX.uSetF, DX.uISeq, DX.uIRng1, DX.uIRng2, DX.uFor, DX.uWhile, DX.uLc, DX.uYes, DX.uRaise, DX.uTry, DX.uXf, DX.uIsX, DX.uGet, DX.uGSetO, DX.uSMeth, DX.uIEnum, DX.uIZip, DX.uGUn, DX.uPar, DX.uVar, DX.uC, DX.uNil, DX.uCons, DX.uTup, DX.uLst, DX.uLstM, DX.uOp, DX.dI, DX.dIC, DX.dEq, DX.dNe, DX.dAdd, DX.uUn, DX.uIsN, DX.dTru, DX.uTru, DX.uTest, DX.uAndB, DX.uOrB, DX.uNotB, DX.uAnd, DX.uOr, DX.uNot, DX.uIf, DX.uChain, DX.dIx, DX.uNoPart, DX.uPart, DX.uSl, DX.dIn, DX.uFld, DX.uCB, DX.one, DX.dLen, DX.dIsB, DX.uIs, DX.dIsO, DX.dInt, DX.dList, DX.dTuple, DX.uBM, DX.dAppend, DX.dExtend, DX.dIndex, DX.uM1, DX.uCall, DX.uMeth, DX.dTwo, DX.dRep, DX.dLenO, DX.dCmpO, DX.dNeO, DX.dInO, DX.dMakeM, DX.dMakeF, DX.isC, DX.insAt, List.getElem?_cons_zero, List.getElem?_cons_succ, List.getElem?_nil, List.set_cons_zero, List.set_cons_succ, List.length_cons, List.length_nil, DX.wipeD, DX.tyIs, DX.v_non, DX.vT_non, DX.ty_non, DX.v_bl, DX.vT_bl, DX.ty_bl, DX.v_int, DX.vT_int, DX.ty_int, DX.v_str, DX.vT_str, DX.ty_str, DX.v_byt, DX.vT_byt, DX.ty_byt, DX.v_lst, DX.vT_lst, DX.ty_lst, DX.v_tup, DX.vT_tup, DX.ty_tup, DX.v_kt, DX.vT_kt, DX.ty_kt, DX.v_kl, DX.vT_kl, DX.ty_kl, DX.v_ins, DX.vT_ins, DX.ty_ins, DX.v_val, DX.vT_val, DX.ty_val, if_true, if_false, Bool.false_eq_true, reduceIte, Bool.not_true, Bool.not_false, true_and, and_true, List.isEmpty_cons, List.isEmpty_nil, Nat.reduceAdd]
            rw [if_neg (by decide)]
            refine ⟨bk, _, _, dic_of bm_2, rfl, hbd.b pg hp2, ?_⟩
            have aug : ∀ (bu' : List (Nat × Nat × Nat)) (lk' : List (Key × D)) (j : Nat) (t : Nat × Nat × Nat), bu'[j]? = some t → valD lk' (.inl (pg : Int)) = some (.int j) → go [some xs, some m, some (D.ob (List.length μ)), some (D.ob (List.length μ + 1)), some (D.int ↑pg), some (D.ob (List.length μ + 2)), some (D.int ↑n), some (D.str (Str.ofString "read"))] (bm μ (bump j bu') lk' bk) →
                uAugIx (uOp dIx (uVar 2) (uDGet (uVar 3) (uVar 4))) (uC (D.int 2)) (uC (D.int 1)) (dI fun i j => D.int (i + j)) { nx := go, rt := FZ μ Q, bk := nx, ct := go } (FZE μ E)
                  [some xs, some m, some (D.ob (List.length μ)), some (D.ob (List.length μ + 1)), some (D.int ↑pg), some (D.ob (List.length μ + 2)), some (D.int ↑n), some (D.str (Str.ofString "read"))] (bm μ bu' lk' bk) := fun bu' lk' j t ht hv cont => by
              simp (maxSteps := 4000000) only [uAugIx, uDGet, DX.at_r0, DX.set_r0, DX.putD_nil, DX.putD_hd, DX.look_hd, DX.atI_nat, DX.at0, DX.at1, DX.at2, DX.at3, DX.eqok_int, DX.eqok_str, DX.eqok_bl, DX.deqv_int, DX.deqv_str, DX.deqv_bl, DX.uMakeM, DX.uMakeF, DX.uMakeSF, DX.uProp, DX.uGName, DX.uGNil, DX.uGCons, DX.uGTup, DX.uGSet, DX.uAsg, DX.uDrop, DX.uRet, DX.uRetN, DX.uNext, DX.uBreak, DX.uCont, DX.uNever, DX.uSeq, DX.uIfS, DX.uCut, DX.uAug, DX.uSetF, DX.uISeq, DX.uIRng1, DX.uIRng2, DX.uFor, DX.uWhile, DX.uLc, DX.uYes, DX.uRaise, DX.uTry, DX.uXf, DX.uIsX, DX.uGet, DX.uGSetO, DX.uSMeth, DX.uIEnum, DX.uIZip, DX.uGUn, DX.uPar, DX.uVar, DX.uC, DX.uNil, DX.uCons, DX.uTup, DX.uLst, DX.uLstM, DX.uOp, DX.dI, DX.dIC, DX.dEq, DX.dNe, DX.dAdd, DX.uUn, DX.uIsN, DX.dTru, DX.uTru, DX.uTest, DX.uAndB, DX.uOrB, DX.uNotB, DX.uAnd, DX.uOr, DX.uNot, DX.uIf, DX.uChain, DX.dIx, DX.uNoPart, DX.uPart, DX.uSl, DX.dIn, DX.uFld, DX.uCB, DX.one, DX.dLen, DX.dIsB, DX.uIs, DX.dIsO, DX.dInt, DX.dList, DX.dTuple, DX.uBM, DX.dAppend, DX.dExtend, DX.dIndex, DX.uM1, DX.uCall, DX.uMeth, DX.dTwo, DX.dRep, DX.dLenO, DX.dCmpO, DX.dNeO, DX.dInO, DX.dMakeM, DX.dMakeF, DX.isC, DX.insAt, List.getElem?_cons_zero, List.getElem?_cons_succ, List.getElem?_nil, List.set_cons_zero, List.set_cons_succ, List.length_cons, List.length_nil, DX.wipeD, DX.tyIs, DX.v_non, DX.vT_non, DX.ty_non, DX.v_bl, DX.vT_bl, DX.ty_bl, DX.v_int, DX.vT_int, DX.ty_int, DX.v_str, DX.vT_str, DX.ty_str, DX.v_byt, DX.vT_byt, DX.ty_byt, DX.v_lst, DX.vT_lst, DX.ty_lst, DX.v_tup, DX.vT_tup, DX.ty_tup, DX.v_kt, DX.vT_kt, DX.ty_kt, DX.v_kl, DX.vT_kl, DX.ty_kl, DX.v_ins, DX.vT_ins, DX.ty_ins, DX.v_val, DX.vT_val, DX.ty_val, if_true, if_false, Bool.false_eq_true, reduceIte, Bool.not_true, Bool.not_false, true_and, and_true, List.isEmpty_cons, List.isEmpty_nil, Nat.reduceAdd]
              refine ⟨lk', _, _, dic_of bm_1, rfl, hv, ?_⟩
              have hg : ((List.range bu'.length).map fun j => D.ob (μ.length + (3 + j)))[j]? = some (.ob (μ.length + (3 + j))) := by
                rw [List.getElem?_map, List.getElem?_range (lt_of_at ht)]; rfl
              simp (maxSteps := 4000000) only [v_obL bm_0, hg, DX.at_r0, DX.set_r0, DX.putD_nil, DX.putD_hd, DX.look_hd, DX.atI_nat, DX.at0, DX.at1, DX.at2, DX.at3, DX.eqok_int, DX.eqok_str, DX.eqok_bl, DX.deqv_int, DX.deqv_str, DX.deqv_bl, DX.uMakeM, DX.uMakeF, DX.uMakeSF, DX.uProp, DX.uGName, DX.uGNil, DX.uGCons, DX.uGTup, DX.uGSet, DX.uAsg, DX.uDrop, DX.uRet, DX.uRetN, DX.uNext, DX.uBreak, DX.uCont, DX.uNever, DX.uSeq, DX.uIfS, DX.uCut, DX.uAug, DX.uSetF, DX.uISeq, DX.uIRng1, DX.uIRng2, DX.uFor, DX.uWhile, DX.uLc, DX.uYes, DX.uRaise, DX.uTry, DX.uXf, DX.uIsX, DX.uGet, DX.uGSetO, DX.uSMeth, DX.uIEnum, DX.uIZip, DX.uGUn, DX.uPar, DX.uVar, DX.uC, DX.uNil, DX.uCons, DX.uTup, DX.uLst, DX.uLstM, DX.uOp, DX.dI, DX.dIC, DX.dEq, DX.dNe, DX.dAdd, DX.uUn, DX.uIsN, DX.dTru, DX.uTru, DX.uTest, DX.uAndB, DX.uOrB, DX.uNotB, DX.uAnd, DX.uOr, DX.uNot, DX.uIf, DX.uChain, DX.dIx, DX.uNoPart, DX.uPart, DX.uSl, DX.dIn, DX.uFld, DX.uCB, DX.one, DX.dLen, DX.dIsB, DX.uIs, DX.dIsO, DX.dInt, DX.dList, DX.dTuple, DX.uBM, DX.dAppend, DX.dExtend, DX.dIndex, DX.uM1, DX.uCall, DX.uMeth, DX.dTwo, DX.dRep, DX.dLenO, DX.dCmpO, DX.dNeO, DX.dInO, DX.dMakeM, DX.dMakeF, DX.isC, DX.insAt, List.getElem?_cons_zero, List.getElem?_cons_succ, List.getElem?_nil, List.set_cons_zero, List.set_cons_succ, List.length_cons, List.length_nil, DX.wipeD, DX.tyIs, DX.v_non, DX.vT_non, DX.ty_non, DX.v_bl, DX.vT_bl, DX.ty_bl, DX.v_int, DX.vT_int, DX.ty_int, DX.v_str, DX.vT_str, DX.ty_str, DX.v_byt, DX.vT_byt, DX.ty_byt, DX.v_lst, DX.vT_lst, DX.ty_lst, DX.v_tup, DX.vT_tup, DX.ty_tup, DX.v_kt, DX.vT_kt, DX.ty_kt, DX.v_kl, DX.vT_kl, DX.ty_kl, DX.v_ins, DX.vT_ins, DX.ty_ins, DX.v_val, DX.vT_val, DX.ty_val, if_true, if_false, Bool.false_eq_true, reduceIte, Bool.not_true, Bool.not_false, true_and, and_true, List.isEmpty_cons, List.isEmpty_nil, Nat.reduceAdd]
              refine ⟨_, 2, tr t, _, rfl, rfl, bm_3 ht, rfl, ?_⟩
              simp (maxSteps := 4000000) only [DX.at_r0, DX.set_r0, DX.putD_nil, DX.putD_hd, DX.look_hd, DX.atI_nat, DX.at0, DX.at1, DX.at2, DX.at3, DX.eqok_int, DX.eqok_str, DX.eqok_bl, DX.deqv_int, DX.deqv_str, DX.deqv_bl, DX.uMakeM, DX.uMakeF, DX.uMakeSF, DX.uProp, DX.uGName, DX.uGNil, DX.uGCons, DX.uGTup, DX.uGSet, DX.uAsg, DX.uDrop, DX.uRet, DX.uRetN, DX.uNext, DX.uBreak, DX.uCont, DX.uNever, DX.uSeq, DX.uIfS, DX.uCut, DX.uAug, DX.uSetF, DX.uISeq, DX.uIRng1, DX.uIRng2, DX.uFor, DX.uWhile, DX.uLc, DX.uYes, DX.uRaise, DX.uTry, DX.uXf, DX.uIsX, DX.uGet, DX.uGSetO, DX.uSMeth, DX.uIEnum, DX.uIZip, DX.uGUn, DX.uPar, DX.uVar, DX.uC, DX.uNil, DX.uCons, DX.uTup, DX.uLst, DX.uLstM, DX.uOp, DX.dI, DX.dIC, DX.dEq, DX.dNe, DX.dAdd, DX.uUn, DX.uIsN, DX.dTru, DX.uTru, DX.uTest, DX.uAndB, DX.uOrB, DX.uNotB, DX.uAnd, DX.uOr, DX.uNot, DX.uIf, DX.uChain, DX.dIx, DX.uNoPart, DX.uPart, DX.uSl, DX.dIn, DX.uFld, DX.uCB, DX.one, DX.dLen, DX.dIsB, DX.uIs, DX.dIsO, DX.dInt, DX.dList, DX.dTuple, DX.uBM, DX.dAppend, DX.dExtend, DX.dIndex, DX.uM1, DX.uCall, DX.uMeth, DX.dTwo, DX.dRep, DX.dLenO, DX.dCmpO, DX.dNeO, DX.dInO, DX.dMakeM, DX.dMakeF, DX.isC, DX.insAt, List.getElem?_cons_zero, List.getElem?_cons_succ, List.getElem?_nil, List.set_cons_zero, List.set_cons_succ, List.length_cons, List.length_nil, DX.wipeD, DX.tyIs, DX.v_non, DX.vT_non, DX.ty_non, DX.v_bl, DX.vT_bl, DX.ty_bl, DX.v_int, DX.vT_int, DX.ty_int, DX.v_str, DX.vT_str, DX.ty_str, DX.v_byt, DX.vT_byt, DX.ty_byt, DX.v_lst, DX.vT_lst, DX.ty_lst, DX.v_tup, DX.vT_tup, DX.ty_tup, DX.v_kt, DX.vT_kt, DX.ty_kt, DX.v_kl, DX.vT_kl, DX.ty_kl, DX.v_ins, DX.vT_ins, DX.ty_ins, DX.v_val, DX.vT_val, DX.ty_val, if_true, if_false, Bool.false_eq_true, reduceIte, Bool.not_true, Bool.not_false, true_and, and_true, List.isEmpty_cons, List.isEmpty_nil, Nat.reduceAdd]
              refine ⟨tr t, bm_3 ht, by show 2 < 3; decide, ?_⟩
              rw [show (tr t).set 2 (D.int ((t.2.2 : Int) + 1)) = tr (t.1, t.2.1, t.2.2 + 1) from rfl, bm_bump ht]
              exact cont
            cases hba : st.bare pg with
            | false =>
              simp (maxSteps := 4000000) only [DX.at_r0, DX.set_r0, DX.putD_nil, DX.putD_hd, DX.look_hd, DX.atI_nat, DX.at0, DX.at1, DX.at2, DX.at3, DX.eqok_int, DX.eqok_str, DX.eqok_bl, DX.deqv_int, DX.deqv_str, DX.deqv_bl, DX.uMakeM, DX.uMakeF, DX.uMakeSF, DX.uProp, DX.uGName, DX.uGNil, DX.uGCons, DX.uGTup, DX.uGSet, DX.uAsg, DX.uDrop, DX.uRet, DX.uRetN, DX.uNext, DX.uBreak, DX.uCont, DX.uNever, DX.uSeq, DX.uIfS, DX.uCut, DX.uAug, DX.uSetF, DX.uISeq, DX.uIRng1, DX.uIRng2, DX.uFor, DX.uWhile, DX.uLc, DX.uYes, DX.uRaise, DX.uTry, DX.uXf, DX.uIsX, DX.uGet, DX.uGSetO, DX.uSMeth, DX.uIEnum, DX.uIZip, DX.uGUn, DX.uPar, DX.uVar, DX.uC, DX.uNil, DX.uCons, DX.uTup, DX.uLst, DX.uLstM, DX.uOp, DX.dI, DX.dIC, DX.dEq, DX.dNe, DX.dAdd, DX.uUn, DX.uIsN, DX.dTru, DX.uTru, DX.uTest, DX.uAndB, DX.uOrB, DX.uNotB, DX.uAnd, DX.uOr, DX.uNot, DX.uIf, DX.uChain, DX.dIx, DX.uNoPart, DX.uPart, DX.uSl, DX.dIn, DX.uFld, DX.uCB, DX.one, DX.dLen, DX.dIsB, DX.uIs, DX.dIsO, DX.dInt, DX.dList, DX.dTuple, DX.uBM, DX.dAppend, DX.dExtend, DX.dIndex, DX.uM1, DX.uCall, DX.uMeth, DX.dTwo, DX.dRep, DX.dLenO, DX.dCmpO, DX.dNeO, DX.dInO, DX.dMakeM, DX.dMakeF, DX.isC, DX.insAt, List.getElem?_cons_zero, List.getElem?_cons_succ, List.getElem?_nil, List.set_cons_zero, List.set_cons_succ, List.length_cons, List.length_nil, DX.wipeD, DX.tyIs, DX.v_non, DX.vT_non, DX.ty_non, DX.v_bl, DX.vT_bl, DX.ty_bl, DX.v_int, DX.vT_int, DX.ty_int, DX.v_str, DX.vT_str, DX.ty_str, DX.v_byt, DX.vT_byt, DX.ty_byt, DX.v_lst, DX.vT_lst, DX.ty_lst, DX.v_tup, DX.vT_tup, DX.ty_tup, DX.v_kt, DX.vT_kt, DX.ty_kt, DX.v_kl, DX.vT_kl, DX.ty_kl, DX.v_ins, DX.vT_ins, DX.ty_ins, DX.v_val, DX.vT_val, DX.ty_val, if_true, if_false, Bool.false_eq_true, reduceIte, Bool.not_true, Bool.not_false, true_and, and_true, List.isEmpty_cons, List.isEmpty_nil, Nat.reduceAdd]
              exact nxt st lk bk (by unfold bstep; rw [if_neg Bool.false_ne_true, hba, if_neg Bool.false_ne_true]) ⟨hbd.b, hbd.l, hbd.r, by have := hbd.lb; omega, by have := hbd.ll; omega, Nat.le_succ_of_le hbd.m⟩
            | true =>
              simp (maxSteps := 4000000) only [uDGet1, DX.at_r0, DX.set_r0, DX.putD_nil, DX.putD_hd, DX.look_hd, DX.atI_nat, DX.at0, DX.at1, DX.at2, DX.at3, DX.eqok_int, DX.eqok_str, DX.eqok_bl, DX.deqv_int, DX.deqv_str, DX.deqv_bl, DX.uMakeM, DX.uMakeF, DX.uMakeSF, DX.uProp, DX.uGName, DX.uGNil, DX.uGCons, DX.uGTup, DX.uGSet, DX.uAsg, DX.uDrop, DX.uRet, DX.uRetN, DX.uNext, DX.uBreak, DX.uCont, DX.uNever, DX.uSeq, DX.uIfS, DX.uCut, DX.uAug, DX.uSetF, DX.uISeq, DX.uIRng1, DX.uIRng2, DX.uFor, DX.uWhile, DX.uLc, DX.uYes, DX.uRaise, DX.uTry, DX.uXf, DX.uIsX, DX.uGet, DX.uGSetO, DX.uSMeth, DX.uIEnum, DX.uIZip, DX.uGUn, DX.uPar, DX.uVar, DX.uC, DX.uNil, DX.uCons, DX.uTup, DX.uLst, DX.uLstM, DX.uOp, DX.dI, DX.dIC, DX.dEq, DX.dNe, DX.dAdd, DX.uUn, DX.uIsN, DX.dTru, DX.uTru, DX.uTest, DX.uAndB, DX.uOrB, DX.uNotB, DX.uAnd, DX.uOr, DX.uNot, DX.uIf, DX.uChain, DX.dIx, DX.uNoPart, DX.uPart, DX.uSl, DX.dIn, DX.uFld, DX.uCB, DX.one, DX.dLen, DX.dIsB, DX.uIs, DX.dIsO, DX.dInt, DX.dList, DX.dTuple, DX.uBM, DX.dAppend, DX.dExtend, DX.dIndex, DX.uM1, DX.uCall, DX.uMeth, DX.dTwo, DX.dRep, DX.dLenO, DX.dCmpO, DX.dNeO, DX.dInO, DX.dMakeM, DX.dMakeF, DX.isC, DX.insAt, List.getElem?_cons_zero, List.getElem?_cons_succ, List.getElem?_nil, List.set_cons_zero, List.set_cons_succ, List.length_cons, List.length_nil, DX.wipeD, DX.tyIs, DX.v_non, DX.vT_non, DX.ty_non, DX.v_bl, DX.vT_bl, DX.ty_bl, DX.v_int, DX.vT_int, DX.ty_int, DX.v_str, DX.vT_str, DX.ty_str, DX.v_byt, DX.vT_byt, DX.ty_byt, DX.v_lst, DX.vT_lst, DX.ty_lst, DX.v_tup, DX.vT_tup, DX.ty_tup, DX.v_kt, DX.vT_kt, DX.ty_kt, DX.v_kl, DX.vT_kl, DX.ty_kl, DX.v_ins, DX.vT_ins, DX.ty_ins, DX.v_val, DX.vT_val, DX.ty_val, if_true, if_false, Bool.false_eq_true, reduceIte, Bool.not_true, Bool.not_false, true_and, and_true, List.isEmpty_cons, List.isEmpty_nil, Nat.reduceAdd]
              refine ⟨⟨lk, dic_of bm_1⟩, lk, _, dic_of bm_1, rfl, ?_⟩
              rw [hbd.l pg hp2]
              cases hla : st.lat pg with
              | some j =>
                obtain ⟨hj, hv⟩ := hbd.r pg j hp2 hla
                simp (maxSteps := 4000000) only [latD, DX.isNon, DX.at_r0, DX.set_r0, DX.putD_nil, DX.putD_hd, DX.look_hd, DX.atI_nat, DX.at0, DX.at1, DX.at2, DX.at3, DX.eqok_int, DX.eqok_str, DX.eqok_bl, DX.deqv_int, DX.deqv_str, DX.deqv_bl, DX.uMakeM, DX.uMakeF, DX.uMakeSF, DX.uProp, DX.uGName, DX.uGNil, DX.uGCons, DX.uGTup, DX.uGSet, DX.uAsg, DX.uDrop, DX.uRet, DX.uRetN, DX.uNext, DX.uBreak, DX.uCont, DX.uNever, DX.uSeq, DX.uIfS, DX.uCut, DX.uAug, DX.uSetF, DX.uISeq, DX.uIRng1, DX.uIRng2, DX.uFor, DX.uWhile, DX.uLc, DX.uYes, DX.uRaise, DX.uTry, DX.uXf, DX.uIsX, DX.uGet, DX.uGSetO, DX.uSMeth, DX.uIEnum, DX.uIZip, DX.uGUn, DX.uPar, DX.uVar, DX.uC, DX.uNil, DX.uCons, DX.uTup, DX.uLst, DX.uLstM, DX.uOp, DX.dI, DX.dIC, DX.dEq, DX.dNe, DX.dAdd, DX.uUn, DX.uIsN, DX.dTru, DX.uTru, DX.uTest, DX.uAndB, DX.uOrB, DX.uNotB, DX.uAnd, DX.uOr, DX.uNot, DX.uIf, DX.uChain, DX.dIx, DX.uNoPart, DX.uPart, DX.uSl, DX.dIn, DX.uFld, DX.uCB, DX.one, DX.dLen, DX.dIsB, DX.uIs, DX.dIsO, DX.dInt, DX.dList, DX.dTuple, DX.uBM, DX.dAppend, DX.dExtend, DX.dIndex, DX.uM1, DX.uCall, DX.uMeth, DX.dTwo, DX.dRep, DX.dLenO, DX.dCmpO, DX.dNeO, DX.dInO, DX.dMakeM, DX.dMakeF, DX.isC, DX.insAt, List.getElem?_cons_zero, List.getElem?_cons_succ, List.getElem?_nil, List.set_cons_zero, List.set_cons_succ, List.length_cons, List.length_nil, DX.wipeD, DX.tyIs, DX.v_non, DX.vT_non, DX.ty_non, DX.v_bl, DX.vT_bl, DX.ty_bl, DX.v_int, DX.vT_int, DX.ty_int, DX.v_str, DX.vT_str, DX.ty_str, DX.v_byt, DX.vT_byt, DX.ty_byt, DX.v_lst, DX.vT_lst, DX.ty_lst, DX.v_tup, DX.vT_tup, DX.ty_tup, DX.v_kt, DX.vT_kt, DX.ty_kt, DX.v_kl, DX.vT_kl, DX.ty_kl, DX.v_ins, DX.vT_ins, DX.ty_ins, DX.v_val, DX.vT_val, DX.ty_val, if_true, if_false, Bool.false_eq_true, reduceIte, Bool.not_true, Bool.not_false, true_and, and_true, List.isEmpty_cons, List.isEmpty_nil, Nat.reduceAdd]
                refine aug st.bu lk j _ (List.getElem?_eq_getElem hj) hv ?_
                refine nxt ⟨st.bare, st.lat, bump j st.bu⟩ lk bk (by unfold bstep; rw [if_neg Bool.false_ne_true, hba, if_pos rfl, hla]) ⟨hbd.b, hbd.l, fun q i hq hi => ?_, by have := hbd.lb; omega, by have := hbd.ll; omega, by show (bump j st.bu).length ≤ n + 1; unfold bump; have := hbd.m; simp; omega⟩
                obtain ⟨h1, h2⟩ := hbd.r q i hq hi
                exact ⟨by show i < (bump j st.bu).length; unfold bump; simpa using h1, h2⟩
              | none =>
                simp (maxSteps := 4000000) only [latD, DX.isNon, uDPut, v_obL bm_0, List.length_map, List.length_range, DX.at_r0, DX.set_r0, DX.putD_nil, DX.putD_hd, DX.look_hd, DX.atI_nat, DX.at0, DX.at1, DX.at2, DX.at3, DX.eqok_int, DX.eqok_str, DX.eqok_bl, DX.deqv_int, DX.deqv_str, DX.deqv_bl, DX.uMakeM, DX.uMakeF, DX.uMakeSF, DX.uProp, DX.uGName, DX.uGNil, DX.uGCons, DX.uGTup, DX.uGSet, DX.uAsg, DX.uDrop, DX.uRet, DX.uRetN, DX.uNext, DX.uBreak, DX.uCont, DX.uNever, DX.uSeq, DX.uIfS, DX.uCut, DX.uAug, DX.uSetF, DX.uISeq, DX.uIRng1, DX.uIRng2, DX.uFor, DX.uWhile, DX.uLc, DX.uYes, DX.uRaise, DX.uTry, DX.uXf, DX.uIsX, DX.uGet, DX.uGSetO, DX.uSMeth, DX.uIEnum, DX.uIZip, DX.uGUn, DX.uPar, DX.uVar, DX.uC, DX.uNil, DX.uCons, DX.uTup, DX.uLst, DX.uLstM, DX.uOp, DX.dI, DX.dIC, DX.dEq, DX.dNe, DX.dAdd, DX.uUn, DX.uIsN, DX.dTru, DX.uTru, DX.uTest, DX.uAndB, DX.uOrB, DX.uNotB, DX.uAnd, DX.uOr, DX.uNot, DX.uIf, DX.uChain, DX.dIx, DX.uNoPart, DX.uPart, DX.uSl, DX.dIn, DX.uFld, DX.uCB, DX.one, DX.dLen, DX.dIsB, DX.uIs, DX.dIsO, DX.dInt, DX.dList, DX.dTuple, DX.uBM, DX.dAppend, DX.dExtend, DX.dIndex, DX.uM1, DX.uCall, DX.uMeth, DX.dTwo, DX.dRep, DX.dLenO, DX.dCmpO, DX.dNeO, DX.dInO, DX.dMakeM, DX.dMakeF, DX.isC, DX.insAt, List.getElem?_cons_zero, List.getElem?_cons_succ, List.getElem?_nil, List.set_cons_zero, List.set_cons_succ, List.length_cons, List.length_nil, DX.wipeD, DX.tyIs, DX.v_non, DX.vT_non, DX.ty_non, DX.v_bl, DX.vT_bl, DX.ty_bl, DX.v_int, DX.vT_int, DX.ty_int, DX.v_str, DX.vT_str, DX.ty_str, DX.v_byt, DX.vT_byt, DX.ty_byt, DX.v_lst, DX.vT_lst, DX.ty_lst, DX.v_tup, DX.vT_tup, DX.ty_tup, DX.v_kt, DX.vT_kt, DX.ty_kt, DX.v_kl, DX.vT_kl, DX.ty_kl, DX.v_ins, DX.vT_ins, DX.ty_ins, DX.v_val, DX.vT_val, DX.ty_val, if_true, if_false, Bool.false_eq_true, reduceIte, Bool.not_true, Bool.not_false, true_and, and_true, List.isEmpty_cons, List.isEmpty_nil, Nat.reduceAdd]
                refine ⟨_, lk, _, rfl, bm_1, rfl, by have := hbd.ll; have := lt_of_at hpn; omega, ?_⟩
                rw [bm_s1]
                refine ⟨isLst_at bm_0, by decide, ?_⟩
                rw [at_l (by rw [bm_len]; omega), bm_0, bm_len]
                refine ⟨Nat.lt_of_le_of_lt (by have := hbd.m; have := lt_of_at hpn; simp; omega : ((List.range st.bu.length).map fun j => D.ob (μ.length + (3 + j))).length ≤ 1000) (by decide), ?_⟩
                rw [show [D.int (n : Nat), D.int (pg : Nat), D.int 0] = tr (n, pg, 0) from rfl, bm_app]
                refine aug _ _ st.bu.length (n, pg, 0) (by simp) (by rw [valD_put, if_pos rfl]) ?_
                rw [bump_last]
                refine nxt ⟨st.bare, fput st.lat pg (some st.bu.length), st.bu ++ [(n, pg, 1)]⟩ _ bk (by unfold bstep; rw [if_neg Bool.false_ne_true, hba, if_pos rfl, hla]) ⟨hbd.b, fun q hq => ?_, fun q i hq hi => ?_, by have := hbd.lb; omega, ?_, by have := hbd.m; simp; omega⟩
                · rw [valD_put]
                  show _ = latD (if q = pg then some st.bu.length else st.lat q)
                  by_cases z : q = pg
                  · rw [if_pos (by rw [z]), if_pos z]; rfl
                  · rw [if_neg (by simp; omega), if_neg z]; exact hbd.l q hq
                · rw [valD_put]
                  have hi : (if q = pg then some st.bu.length else st.lat q) = some i := hi
                  by_cases z : q = pg
                  · rw [if_pos z] at hi
                    cases hi
                    rw [if_pos (by rw [z])]
                    exact ⟨by simp, rfl⟩
                  · rw [if_neg z] at hi
                    rw [if_neg (by simp; omega)]
                    obtain ⟨h1, h2⟩ := hbd.r q i hq hi
                    exact ⟨by simp; omega, h2⟩
                · have := put_len lk (.inl (pg : Int)) (.int (st.bu.length : Nat)); have := hbd.ll; omega
    · rintro n e acc μ1 go he ⟨rfl, hn0, hal, hv⟩ k
      have hn := lt_of_at he
      rw [dints_len, Int.toNat_natCast] at hn
      rw [dints_get _ _ _ (by rw [Int.toNat_natCast]; exact hn), Int.zero_add] at he
      cases he
      simp (maxSteps := 4000000) only [view_appI hm.1, DX.at_r0, DX.set_r0, DX.putD_nil, DX.putD_hd, DX.look_hd, DX.atI_nat, DX.at0, DX.at1, DX.at2, DX.at3, DX.eqok_int, DX.eqok_str, DX.eqok_bl, DX.deqv_int, DX.deqv_str, DX.deqv_bl, DX.uMakeM, DX.uMakeF, DX.uMakeSF, DX.uProp, DX.uGName, DX.uGNil, DX.uGCons, DX.uGTup, DX.uGSet, DX.uAsg, DX.uDrop, DX.uRet, DX.uRetN, DX.uNext, DX.uBreak, DX.uCont, DX.uNever, DX.uSeq, DX.uIfS, DX.uCut, DX.uAug, DX.uSetF, DX.uISeq, DX.uIRng1, DX.uIRng2, DX.uFor, DX.uWhile, DX.uLc, DX.uYes, DX.uRaise, DX.uTry, DX.uXf, DX.uIsX, DX.uGet, DX.uGSetO, DX.uSMeth, DX.uIEnum, DX.uIZip, DX.uGUn, DX.uPar, DX.uVar, DX.uC, DX.uNil, DX.uCons, DX.uTup, DX.uLst, DX.uLstM, DX.uOp, DX.dI, DX.dIC, DX.dEq, DX.dNe, DX.dAdd, DX.uUn, DX.uIsN, DX.dTru, DX.uTru, DX.uTest, DX.uAndB, DX.uOrB, DX.uNotB, DX.uAnd, DX.uOr, DX.uNot, DX.uIf, DX.uChain, DX.dIx, DX.uNoPart, DX.uPart, DX.uSl, DX.dIn, DX.uFld, DX.uCB, DX.one, DX.dLen, DX.dIsB, DX.uIs, DX.dIsO, DX.dInt, DX.dList, DX.dTuple, DX.uBM, DX.dAppend, DX.dExtend, DX.dIndex, DX.uM1, DX.uCall, DX.uMeth, DX.dTwo, DX.dRep, DX.dLenO, DX.dCmpO, DX.dNeO, DX.dInO, DX.dMakeM, DX.dMakeF, DX.isC, DX.insAt, List.getElem?_cons_zero, List.getElem?_cons_succ, List.getElem?_nil, List.set_cons_zero, List.set_cons_succ, List.length_cons, List.length_nil, DX.wipeD, DX.tyIs, DX.v_non, DX.vT_non, DX.ty_non, DX.v_bl, DX.vT_bl, DX.ty_bl, DX.v_int, DX.vT_int, DX.ty_int, DX.v_str, DX.vT_str, DX.ty_str, DX.v_byt, DX.vT_byt, DX.ty_byt, DX.v_lst, DX.vT_lst, DX.ty_lst, DX.v_tup, DX.vT_tup, DX.ty_tup, DX.v_kt, DX.vT_kt, DX.ty_kt, DX.v_kl, DX.vT_kl, DX.ty_kl, DX.v_ins, DX.vT_ins, DX.ty_ins, DX.v_val, DX.vT_val, DX.ty_val, if_true, if_false, Bool.false_eq_true, reduceIte, Bool.not_true, Bool.not_false, true_and, and_true, List.isEmpty_cons, List.isEmpty_nil, Nat.reduceAdd]
      have hbn : bs[n]? = some bs[n] := List.getElem?_eq_getElem hn
      refine ⟨by simp only [view_appI hm.1], d, bs, n, bs[n], Mkv_app hm, rfl, hbn, .inl n, rfl, by omega, k _ _ ⟨rfl, hn, Nat.le_trans (put_len _ _ _) (by omega), fun p hp => ?_⟩⟩
      rw [valD_put]
      by_cases z : p = n
      · subst z
        rw [if_pos rfl]
        simp [List.getD, hbn]
      · rw [if_neg (by simp; omega)]
        exact hv p (by omega)
  · exact h.elim

end
end Toy
set_option Elab.async false
set_option linter.all false
set_option maxRecDepth 100000
set_option maxHeartbeats 4000000
namespace Toy
open PySem PySem.Spec PyProof.Rows L2 DX
section
variable {P : Program} {w : World} {K : PySem.W.Frag} {mg : Str → Option Value} {base : Heap}
def bd (t : Nat × Nat × Nat) : D := .lst (tr t)
def cnts (bu : List (Nat × Nat × Nat)) : List Int := bu.map fun t => (t.2.2 : Int)

def S_descending (W : Wd P w K mg base) : DSp := fun ds μ Q E => match ds with
  | [x] => ∃ bu : List (Nat × Nat × Nat), x = .lst (bu.map fun t => .lst (tr t)) ∧ bu.length ≤ 1000 ∧ ∀ ns : List Int, ns.Perm (cnts bu) → ns.Pairwise (· ≥ ·) → Q (.lst (ns.map .int)) μ
  | _ => False

theorem ok_descending (W : Wd P w K mg base) : FnD P w K mg base 2 W.f_descending (S_descending W) := by
  refine (okB W.t_descending.d sc_descending (by (intro ds μ Q E h; unfold S_descending at h; split at h <;> first | rfl | exact h.elim)) _ (fun cdv A outer s H E' g hr => ⟨_, (b_one (s_ret (d_sortKw (b := true) W.z_sorted (a_cons (d_lc false [("burst", 1)] sc_descending.nd (i_seq (d_var 0)) (blkOk_by (own := [("burst", 1)]) (N := ["bursts", "burst"]) (sc := defScope s_descending) (by decide +kernel)) (fun _ _ _ _ _ => (g_name 1 sc_descending.nd)) (fun _ _ _ _ _ => ts_nil) (fun _ _ _ _ _ => (d_callTy call_int1 sim_int W.z_int (a_cons (d_ix (d_var 1) d_int) a_nil))) (wip_name (by decide)) mono_name) a_nil) (k_cons d_bl k_nil))))⟩) (fun ds μ Q E h => ?_)).fn0 W.t_descending.b
  unfold S_descending at h
  split at h
  · rename_i x
    obtain ⟨bu, rfl, hl, q⟩ := h
    rw [show startD ["bursts", "burst"] [.lst (bu.map fun t => .lst (tr t))] = [some (.lst (bu.map fun t => .lst (tr t))), none] from rfl]
    simp (maxSteps := 4000000) only [uSortKw, DX.at_r0, DX.set_r0, DX.putD_nil, DX.putD_hd, DX.look_hd, DX.atI_nat, DX.at0, DX.at1, DX.at2, DX.at3, DX.eqok_int, DX.eqok_str, DX.eqok_bl, DX.deqv_int, DX.deqv_str, DX.deqv_bl, DX.uMakeM, DX.uMakeF, DX.uMakeSF, DX.uProp, DX.uGName, DX.uGNil, DX.uGCons, DX.uGTup, DX.uGSet, DX.uAsg, DX.uDrop, DX.uRet, DX.uRetN, DX.uNext, DX.uBreak, DX.uCont, DX.uNever, DX.uSeq, DX.uIfS, DX.uCut, DX.uAug, DX.uSetF, DX.uISeq, DX.uIRng1, DX.uIRng2, DX.uFor, DX.uWhile, DX.uLc, DX.uYes, DX.uRaise, DX.uTry, DX.uXf, DX.uIsX, DX.uGet, DX.uGSetO, DX.uSMeth, DX.uIEnum, DX.uIZip, DX.uGUn, DX.uPar, DX.uVar, DX.uC, DX.uNil, DX.uCons, DX.uTup, DX.uLst, DX.uLstM, DX.uOp, DX.dI, DX.dIC, DX.dEq, DX.dNe, DX.dAdd, DX.uUn, DX.uIsN, DX.dTru, DX.uTru, DX.uTest, DX.uAndB, DX.uOrB, DX.uNotB, DX.uAnd, DX.uOr, DX.uNot, DX.uIf, DX.uChain, DX.dIx, DX.uNoPart, DX.uPart, DX.uSl, DX.dIn, DX.uFld, DX.uCB, DX.one, DX.dLen, DX.dIsB, DX.uIs, DX.dIsO, DX.dInt, DX.dList, DX.dTuple, DX.uBM, DX.dAppend, DX.dExtend, DX.dIndex, DX.uM1, DX.uCall, DX.uMeth, DX.dTwo, DX.dRep, DX.dLenO, DX.dCmpO, DX.dNeO, DX.dInO, DX.dMakeM, DX.dMakeF, DX.isC, DX.insAt, List.getElem?_cons_zero, List.getElem?_cons_succ, List.getElem?_nil, List.set_cons_zero, List.set_cons_succ, List.length_cons, List.length_nil, DX.wipeD, DX.tyIs, DX.v_non, DX.vT_non, DX.ty_non, DX.v_bl, DX.vT_bl, DX.ty_bl, DX.v_int, DX.vT_int, DX.ty_int, DX.v_str, DX.vT_str, DX.ty_str, DX.v_byt, DX.vT_byt, DX.ty_byt, DX.v_lst, DX.vT_lst, DX.ty_lst, DX.v_tup, DX.vT_tup, DX.ty_tup, DX.v_kt, DX.vT_kt, DX.ty_kt, DX.v_kl, DX.vT_kl, DX.ty_kl, DX.v_ins, DX.vT_ins, DX.ty_ins, DX.v_val, DX.vT_val, DX.ty_val, if_true, if_false, Bool.false_eq_true, reduceIte, Bool.not_true, Bool.not_false, true_and, and_true, List.isEmpty_cons, List.isEmpty_nil, Nat.reduceAdd]
    refine lc_map (fun n acc μ1 => μ1 = μ ∧ acc = ((cnts bu).take n).map .int) ⟨rfl, rfl⟩ (fun n acc μ1 h => by trivial) ?_ ?_
    · rintro acc μ1 ⟨rfl, rfl⟩
      rw [List.length_map, show bu.length = (cnts bu).length by unfold cnts; simp, List.take_length]
      exact ⟨_, rfl, cnts bu, rfl, fun ns h1 h2 => .inl (q ns h1 (by simpa [OrdB] using h2))⟩
    · rintro n e acc μ1 go he ⟨rfl, rfl⟩ k
      rw [List.getElem?_map] at he
      cases hb : bu[n]? with
      | none => rw [hb] at he; cases he
      | some t =>
        rw [hb] at he
        cases he
        simp (maxSteps := 4000000) only [tr, DX.at_r0, DX.set_r0, DX.putD_nil, DX.putD_hd, DX.look_hd, DX.atI_nat, DX.at0, DX.at1, DX.at2, DX.at3, DX.eqok_int, DX.eqok_str, DX.eqok_bl, DX.deqv_int, DX.deqv_str, DX.deqv_bl, DX.uMakeM, DX.uMakeF, DX.uMakeSF, DX.uProp, DX.uGName, DX.uGNil, DX.uGCons, DX.uGTup, DX.uGSet, DX.uAsg, DX.uDrop, DX.uRet, DX.uRetN, DX.uNext, DX.uBreak, DX.uCont, DX.uNever, DX.uSeq, DX.uIfS, DX.uCut, DX.uAug, DX.uSetF, DX.uISeq, DX.uIRng1, DX.uIRng2, DX.uFor, DX.uWhile, DX.uLc, DX.uYes, DX.uRaise, DX.uTry, DX.uXf, DX.uIsX, DX.uGet, DX.uGSetO, DX.uSMeth, DX.uIEnum, DX.uIZip, DX.uGUn, DX.uPar, DX.uVar, DX.uC, DX.uNil, DX.uCons, DX.uTup, DX.uLst, DX.uLstM, DX.uOp, DX.dI, DX.dIC, DX.dEq, DX.dNe, DX.dAdd, DX.uUn, DX.uIsN, DX.dTru, DX.uTru, DX.uTest, DX.uAndB, DX.uOrB, DX.uNotB, DX.uAnd, DX.uOr, DX.uNot, DX.uIf, DX.uChain, DX.dIx, DX.uNoPart, DX.uPart, DX.uSl, DX.dIn, DX.uFld, DX.uCB, DX.one, DX.dLen, DX.dIsB, DX.uIs, DX.dIsO, DX.dInt, DX.dList, DX.dTuple, DX.uBM, DX.dAppend, DX.dExtend, DX.dIndex, DX.uM1, DX.uCall, DX.uMeth, DX.dTwo, DX.dRep, DX.dLenO, DX.dCmpO, DX.dNeO, DX.dInO, DX.dMakeM, DX.dMakeF, DX.isC, DX.insAt, List.getElem?_cons_zero, List.getElem?_cons_succ, List.getElem?_nil, List.set_cons_zero, List.set_cons_succ, List.length_cons, List.length_nil, DX.wipeD, DX.tyIs, DX.v_non, DX.vT_non, DX.ty_non, DX.v_bl, DX.vT_bl, DX.ty_bl, DX.v_int, DX.vT_int, DX.ty_int, DX.v_str, DX.vT_str, DX.ty_str, DX.v_byt, DX.vT_byt, DX.ty_byt, DX.v_lst, DX.vT_lst, DX.ty_lst, DX.v_tup, DX.vT_tup, DX.ty_tup, DX.v_kt, DX.vT_kt, DX.ty_kt, DX.v_kl, DX.vT_kl, DX.ty_kl, DX.v_ins, DX.vT_ins, DX.ty_ins, DX.v_val, DX.vT_val, DX.ty_val, if_true, if_false, Bool.false_eq_true, reduceIte, Bool.not_true, Bool.not_false, true_and, and_true, List.isEmpty_cons, List.isEmpty_nil, Nat.reduceAdd]
        have hc : (cnts bu)[n]? = some (t.2.2 : Int) := by unfold cnts; rw [List.getElem?_map, hb]; rfl
        have := lt_of_at hb
        refine ⟨by simp; omega, k _ _ ⟨rfl, ?_⟩⟩
        rw [take_snoc hc, List.map_append]
        rfl
  · exact h.elim

def greedy : List Int → List (Nat × Nat × Nat) → List (Nat × Nat)
  | _, [] => []
  | sp, t :: r => if (t.2.2 : Int) ∈ sp then (t.1, t.2.1) :: greedy (sp.erase t.2.2) r else greedy sp r
theorem any_int (ns : List Int) (c : Int) : ((ns.map D.int).any fun e => deqv e (.int c)) = decide (c ∈ ns) := by
  rw [List.any_map]
  induction ns with
  | nil => rfl
  | cons n r ih =>
    rw [List.any_cons, ih]
    show ((n == c) || decide (c ∈ r)) = decide (c ∈ n :: r)
    by_cases h : n = c
    · subst h; simp
    · have h' : ¬ c = n := fun z => h z.symm
      simp [h, h']
theorem flat_ints (ns : List Int) : (ns.map D.int).all dflat = true := by
  rw [List.all_eq_true]
  intro d hd
  obtain ⟨n, _, rfl⟩ := List.mem_map.mp hd
  rfl
theorem first_at (c : Int) : ∀ {ns : List Int}, c ∈ ns → ∃ j, ns[j]? = some c ∧ (∀ m : Nat, m < j → ns[m]? ≠ some c) ∧ ns.eraseIdx j = ns.erase c
  | [], h => nomatch h
  | n :: r, h => by
    by_cases e : n = c
    · subst e
      exact ⟨0, rfl, fun m hm => absurd hm (Nat.not_lt_zero m), by simp⟩
    · have h' : c ∈ r := by
        rcases List.mem_cons.mp h with z | z
        · exact absurd z.symm e
        · exact z
      obtain ⟨j, h1, h2, h3⟩ := first_at c h'
      refine ⟨j + 1, by simpa using h1, fun m hm => ?_, ?_⟩
      · cases m with
        | zero => simpa using e
        | succ m => simpa using h2 m (by omega)
      · rw [List.eraseIdx_cons_succ, h3, List.erase_cons_tail (by simpa using e)]
theorem cut_to (xs : List D) (k : Nat) : dcut xs none (some (k : Int)) = xs.take k := by
  unfold dcut
  rw [HT.sIx_none, HT.sIx_nat, List.drop_zero, Nat.sub_zero]
  exact List.take_eq_take_iff.mpr (by omega)
theorem cut_from (xs : List D) (k : Nat) : dcut xs (some (k : Int)) none = xs.drop k := by
  unfold dcut
  rw [HT.sIx_none, HT.sIx_nat]
  rcases Nat.le_total k xs.length with h | h
  · rw [Nat.min_eq_left h, List.take_of_length_le (by simp)]
  · rw [Nat.min_eq_right h, Nat.sub_self, List.take_zero, List.drop_eq_nil_of_le h]
theorem greedy_len : ∀ (sp : List Int) (bu : List (Nat × Nat × Nat)), (greedy sp bu).length ≤ bu.length
  | _, [] => Nat.le_refl _
  | sp, t :: r => by
    show (if (t.2.2 : Int) ∈ sp then (t.1, t.2.1) :: greedy (sp.erase t.2.2) r else greedy sp r).length ≤ r.length + 1
    split
    · exact Nat.succ_le_succ (greedy_len _ r)
    · exact Nat.le_succ_of_le (greedy_len _ r)
theorem brun_len : ∀ (i : Nat) (ps : List (Bool × Nat)) (st : BS), (brun i ps st).bu.length ≤ st.bu.length + ps.length
  | _, [], _ => Nat.le_refl _
  | i, d :: r, st => by
    have h1 := brun_len (i + 1) r (bstep i st d)
    have h2 : (bstep i st d).bu.length ≤ st.bu.length + 1 := by
      unfold bstep
      split
      · exact Nat.le_succ _
      · split
        · split
          · simp
          · simp [bump]
        · exact Nat.le_succ _
    show (brun (i + 1) r (bstep i st d)).bu.length ≤ st.bu.length + (r.length + 1)
    omega

def S_least_looks (W : Wd P w K mg base) : DSp := fun ds μ Q E => match ds with
  | [xs, m, .int many] => ∃ (ps : List (Bool × Nat)) (d : D) (bs : List Bool) (k : Nat), view μ xs = .lst (ps.map dd) ∧ Mkv W μ m d bs ∧ bs.length < 1000 ∧ ps.length ≤ 1000 ∧ (∀ p ∈ ps, p.2 < bs.length) ∧ many = (k : Nat) ∧
    ∀ ns : List Int, ns.Perm (cnts (brun 0 ps (b0 bs)).bu) → ns.Pairwise (· ≥ ·) → Q (.tup [.int (ns.drop k).sum, .lst ((greedy (ns.take k) (brun 0 ps (b0 bs)).bu).map cc)]) μ
  | _ => False
theorem dd_ok {μ : Mem} {n : Nat} {ps : List (Bool × Nat)} (h : ∀ x ∈ ps, x.2 < n) : ∀ y ∈ ps.map dd, deedB μ n y = some true := fun y hy => by
  obtain ⟨⟨w, p⟩, hp, rfl⟩ := List.mem_map.mp hy
  have := betT (μ := μ) (h _ hp)
  cases w
  · show (if isWord (Str.ofString "read") = true then betB μ (.int p) 0 ((n : Int) - 1) else some false) = some true
    rw [if_pos (by decide +kernel)]; exact this
  · show (if isWord (Str.ofString "write") = true then betB μ (.int p) 0 ((n : Int) - 1) else some false) = some true
    rw [if_pos (by decide +kernel)]; exact this

theorem ok_least_looks (W : Wd P w K mg base) : FnD P w K mg base 7 W.f_least_looks (S_least_looks W) := by
  refine (okB W.t_least_looks.d sc_least_looks (by (intro ds μ Q E h; unfold S_least_looks at h; split at h <;> first | rfl | exact h.elim)) _ (fun cdv A outer s H E' g hr => ⟨_, (b_cons (s_expr (d_call (ok_check_deeds W) W.t_check_deeds.a W.t_check_deeds.d.kp g (hr.mono (by decide)) (takes_of rfl rfl rfl rfl) (a_cons (d_var 0) (a_cons (d_var 1) a_nil))))
      (b_cons (s_set 3 sc_least_looks.nd (d_call (ok_bursts W) W.t_bursts.a W.t_bursts.d.kp g hr (takes_of rfl rfl rfl rfl) (a_cons (d_var 0) (a_cons (d_var 1) a_nil))))
      (b_cons (s_set 4 sc_least_looks.nd (d_call (ok_descending W) W.t_descending.a W.t_descending.d.kp g (hr.mono (by decide)) (takes_of rfl rfl rfl rfl) (a_cons (d_var 3) a_nil)))
      (b_cons (s_set 5 sc_least_looks.nd (d_sl true (d_var 4) o_none (o_some (d_var 2))))
      (b_cons (s_set 6 sc_least_looks.nd (d_lstM a_nil))
      (b_cons (s_for (passes_of rfl) (i_seq (d_var 3)) (g_un 3 (gs_cons (g_name 7 sc_least_looks.nd) (gs_cons (g_name 8 sc_least_looks.nd) (gs_cons (g_name 9 sc_least_looks.nd) gs_nil))))
      (b_one (s_if (t_cmp (op_inA hr.units rfl) (sim_in false) (d_var 9) (d_var 5) (by rfl)) (b_cons (s_expr (d_bm PySem.F.slot_list_remove PySem.F.type_list_remove mt_remove sim_remove (d_var 5) (a_cons (d_var 9) a_nil)))
      (b_one (s_expr (d_bm PySem.F.slot_list_append PySem.F.type_list_append mt_append sim_append (d_var 6) (a_cons (d_tup (a_cons (d_var 7) (a_cons (d_var 8) a_nil))) a_nil))))) b_nil)))
      (b_one (s_ret (d_tup (a_cons (d_callB (call_sumA rfl rfl) sim_sum W.z_sum (a_cons (d_sl false (d_var 4) (o_some (d_var 2)) o_none) a_nil)) (a_cons (d_var 6) a_nil)))))))))))⟩) (fun ds μ Q E h => ?_)).fn0 W.t_least_looks.b
  unfold S_least_looks at h
  split at h
  · rename_i xs m many
    obtain ⟨ps, d, bs, k, hL, hm, hl, hps, hall, rfl, q⟩ := h
    rw [show startD ["deeds", "marks", "many", "bursts", "numbers", "spared", "cleanings", "gap", "page", "number"] [xs, m, .int (k : Nat)] = [some xs, some m, some (.int (k : Nat)), none, none, none, none, none, none, none] from rfl]
    refine seq_step fun nx hnx => ?_
    simp (maxSteps := 4000000) only [DX.at_r0, DX.set_r0, DX.putD_nil, DX.putD_hd, DX.look_hd, DX.atI_nat, DX.at0, DX.at1, DX.at2, DX.at3, DX.eqok_int, DX.eqok_str, DX.eqok_bl, DX.deqv_int, DX.deqv_str, DX.deqv_bl, DX.uMakeM, DX.uMakeF, DX.uMakeSF, DX.uProp, DX.uGName, DX.uGNil, DX.uGCons, DX.uGTup, DX.uGSet, DX.uAsg, DX.uDrop, DX.uRet, DX.uRetN, DX.uNext, DX.uBreak, DX.uCont, DX.uNever, DX.uSeq, DX.uIfS, DX.uCut, DX.uAug, DX.uSetF, DX.uISeq, DX.uIRng1, DX.uIRng2, DX.uFor, DX.uWhile, DX.uLc, DX.uYes, DX.uRaise, DX.uTry, DX.uXf, DX.uIsX, DX.uGet, DX.uGSetO, DX.uSMeth, DX.uIEnum, DX.uIZip, DX.uGUn, DX.uPar, DX.uVar, DX.uC, DX.uNil, DX.uCons, DX.uTup, DX.uLst, DX.uLstM, DX.uOp, DX.dI, DX.dIC, DX.dEq, DX.dNe, DX.dAdd, DX.uUn, DX.uIsN, DX.dTru, DX.uTru, DX.uTest, DX.uAndB, DX.uOrB, DX.uNotB, DX.uAnd, DX.uOr, DX.uNot, DX.uIf, DX.uChain, DX.dIx, DX.uNoPart, DX.uPart, DX.uSl, DX.dIn, DX.uFld, DX.uCB, DX.one, DX.dLen, DX.dIsB, DX.uIs, DX.dIsO, DX.dInt, DX.dList, DX.dTuple, DX.uBM, DX.dAppend, DX.dExtend, DX.dIndex, DX.uM1, DX.uCall, DX.uMeth, DX.dTwo, DX.dRep, DX.dLenO, DX.dCmpO, DX.dNeO, DX.dInO, DX.dMakeM, DX.dMakeF, DX.isC, DX.insAt, List.getElem?_cons_zero, List.getElem?_cons_succ, List.getElem?_nil, List.set_cons_zero, List.set_cons_succ, List.length_cons, List.length_nil, DX.wipeD, DX.tyIs, DX.v_non, DX.vT_non, DX.ty_non, DX.v_bl, DX.vT_bl, DX.ty_bl, DX.v_int, DX.vT_int, DX.ty_int, DX.v_str, DX.vT_str, DX.ty_str, DX.v_byt, DX.vT_byt, DX.ty_byt, DX.v_lst, DX.vT_lst, DX.ty_lst, DX.v_tup, DX.vT_tup, DX.ty_tup, DX.v_kt, DX.vT_kt, DX.ty_kt, DX.v_kl, DX.vT_kl, DX.ty_kl, DX.v_ins, DX.vT_ins, DX.ty_ins, DX.v_val, DX.vT_val, DX.ty_val, if_true, if_false, Bool.false_eq_true, reduceIte, Bool.not_true, Bool.not_false, true_and, and_true, List.isEmpty_cons, List.isEmpty_nil, Nat.reduceAdd]
    refine ⟨_, d, bs, hL, hm, hl, .inr ⟨dd_ok hall, hnx _ _ ?_⟩⟩
    clear hnx nx
    refine seq_step fun nx hnx => ?_
    simp (maxSteps := 4000000) only [DX.at_r0, DX.set_r0, DX.putD_nil, DX.putD_hd, DX.look_hd, DX.atI_nat, DX.at0, DX.at1, DX.at2, DX.at3, DX.eqok_int, DX.eqok_str, DX.eqok_bl, DX.deqv_int, DX.deqv_str, DX.deqv_bl, DX.uMakeM, DX.uMakeF, DX.uMakeSF, DX.uProp, DX.uGName, DX.uGNil, DX.uGCons, DX.uGTup, DX.uGSet, DX.uAsg, DX.uDrop, DX.uRet, DX.uRetN, DX.uNext, DX.uBreak, DX.uCont, DX.uNever, DX.uSeq, DX.uIfS, DX.uCut, DX.uAug, DX.uSetF, DX.uISeq, DX.uIRng1, DX.uIRng2, DX.uFor, DX.uWhile, DX.uLc, DX.uYes, DX.uRaise, DX.uTry, DX.uXf, DX.uIsX, DX.uGet, DX.uGSetO, DX.uSMeth, DX.uIEnum, DX.uIZip, DX.uGUn, DX.uPar, DX.uVar, DX.uC, DX.uNil, DX.uCons, DX.uTup, DX.uLst, DX.uLstM, DX.uOp, DX.dI, DX.dIC, DX.dEq, DX.dNe, DX.dAdd, DX.uUn, DX.uIsN, DX.dTru, DX.uTru, DX.uTest, DX.uAndB, DX.uOrB, DX.uNotB, DX.uAnd, DX.uOr, DX.uNot, DX.uIf, DX.uChain, DX.dIx, DX.uNoPart, DX.uPart, DX.uSl, DX.dIn, DX.uFld, DX.uCB, DX.one, DX.dLen, DX.dIsB, DX.uIs, DX.dIsO, DX.dInt, DX.dList, DX.dTuple, DX.uBM, DX.dAppend, DX.dExtend, DX.dIndex, DX.uM1, DX.uCall, DX.uMeth, DX.dTwo, DX.dRep, DX.dLenO, DX.dCmpO, DX.dNeO, DX.dInO, DX.dMakeM, DX.dMakeF, DX.isC, DX.insAt, List.getElem?_cons_zero, List.getElem?_cons_succ, List.getElem?_nil, List.set_cons_zero, List.set_cons_succ, List.length_cons, List.length_nil, DX.wipeD, DX.tyIs, DX.v_non, DX.vT_non, DX.ty_non, DX.v_bl, DX.vT_bl, DX.ty_bl, DX.v_int, DX.vT_int, DX.ty_int, DX.v_str, DX.vT_str, DX.ty_str, DX.v_byt, DX.vT_byt, DX.ty_byt, DX.v_lst, DX.vT_lst, DX.ty_lst, DX.v_tup, DX.vT_tup, DX.ty_tup, DX.v_kt, DX.vT_kt, DX.ty_kt, DX.v_kl, DX.vT_kl, DX.ty_kl, DX.v_ins, DX.vT_ins, DX.ty_ins, DX.v_val, DX.vT_val, DX.ty_val, if_true, if_false, Bool.false_eq_true, reduceIte, Bool.not_true, Bool.not_false, true_and, and_true, List.isEmpty_cons, List.isEmpty_nil, Nat.reduceAdd]
    refine ⟨ps, d, bs, hL, hm, hl, hps, hall, hnx _ _ ?_⟩
    clear hnx nx
    have hbl : (brun 0 ps (b0 bs)).bu.length ≤ 1000 := by have := brun_len 0 ps (b0 bs); have h0 : (b0 bs).bu.length = 0 := rfl; omega
    generalize (brun 0 ps (b0 bs)).bu = bu at q hbl ⊢
    refine seq_step fun nx hnx => ?_
    simp (maxSteps := 4000000) only [DX.at_r0, DX.set_r0, DX.putD_nil, DX.putD_hd, DX.look_hd, DX.atI_nat, DX.at0, DX.at1, DX.at2, DX.at3, DX.eqok_int, DX.eqok_str, DX.eqok_bl, DX.deqv_int, DX.deqv_str, DX.deqv_bl, DX.uMakeM, DX.uMakeF, DX.uMakeSF, DX.uProp, DX.uGName, DX.uGNil, DX.uGCons, DX.uGTup, DX.uGSet, DX.uAsg, DX.uDrop, DX.uRet, DX.uRetN, DX.uNext, DX.uBreak, DX.uCont, DX.uNever, DX.uSeq, DX.uIfS, DX.uCut, DX.uAug, DX.uSetF, DX.uISeq, DX.uIRng1, DX.uIRng2, DX.uFor, DX.uWhile, DX.uLc, DX.uYes, DX.uRaise, DX.uTry, DX.uXf, DX.uIsX, DX.uGet, DX.uGSetO, DX.uSMeth, DX.uIEnum, DX.uIZip, DX.uGUn, DX.uPar, DX.uVar, DX.uC, DX.uNil, DX.uCons, DX.uTup, DX.uLst, DX.uLstM, DX.uOp, DX.dI, DX.dIC, DX.dEq, DX.dNe, DX.dAdd, DX.uUn, DX.uIsN, DX.dTru, DX.uTru, DX.uTest, DX.uAndB, DX.uOrB, DX.uNotB, DX.uAnd, DX.uOr, DX.uNot, DX.uIf, DX.uChain, DX.dIx, DX.uNoPart, DX.uPart, DX.uSl, DX.dIn, DX.uFld, DX.uCB, DX.one, DX.dLen, DX.dIsB, DX.uIs, DX.dIsO, DX.dInt, DX.dList, DX.dTuple, DX.uBM, DX.dAppend, DX.dExtend, DX.dIndex, DX.uM1, DX.uCall, DX.uMeth, DX.dTwo, DX.dRep, DX.dLenO, DX.dCmpO, DX.dNeO, DX.dInO, DX.dMakeM, DX.dMakeF, DX.isC, DX.insAt, List.getElem?_cons_zero, List.getElem?_cons_succ, List.getElem?_nil, List.set_cons_zero, List.set_cons_succ, List.length_cons, List.length_nil, DX.wipeD, DX.tyIs, DX.v_non, DX.vT_non, DX.ty_non, DX.v_bl, DX.vT_bl, DX.ty_bl, DX.v_int, DX.vT_int, DX.ty_int, DX.v_str, DX.vT_str, DX.ty_str, DX.v_byt, DX.vT_byt, DX.ty_byt, DX.v_lst, DX.vT_lst, DX.ty_lst, DX.v_tup, DX.vT_tup, DX.ty_tup, DX.v_kt, DX.vT_kt, DX.ty_kt, DX.v_kl, DX.vT_kl, DX.ty_kl, DX.v_ins, DX.vT_ins, DX.ty_ins, DX.v_val, DX.vT_val, DX.ty_val, if_true, if_false, Bool.false_eq_true, reduceIte, Bool.not_true, Bool.not_false, true_and, and_true, List.isEmpty_cons, List.isEmpty_nil, Nat.reduceAdd]
    refine ⟨bu, rfl, hbl, fun ns h1 h2 => hnx _ _ ?_⟩
    clear hnx nx
    have q := q ns h1 h2
    refine seq_step fun nx hnx => ?_
    simp (maxSteps := 4000000) only [DX.at_r0, DX.set_r0, DX.putD_nil, DX.putD_hd, DX.look_hd, DX.atI_nat, DX.at0, DX.at1, DX.at2, DX.at3, DX.eqok_int, DX.eqok_str, DX.eqok_bl, DX.deqv_int, DX.deqv_str, DX.deqv_bl, DX.uMakeM, DX.uMakeF, DX.uMakeSF, DX.uProp, DX.uGName, DX.uGNil, DX.uGCons, DX.uGTup, DX.uGSet, DX.uAsg, DX.uDrop, DX.uRet, DX.uRetN, DX.uNext, DX.uBreak, DX.uCont, DX.uNever, DX.uSeq, DX.uIfS, DX.uCut, DX.uAug, DX.uSetF, DX.uISeq, DX.uIRng1, DX.uIRng2, DX.uFor, DX.uWhile, DX.uLc, DX.uYes, DX.uRaise, DX.uTry, DX.uXf, DX.uIsX, DX.uGet, DX.uGSetO, DX.uSMeth, DX.uIEnum, DX.uIZip, DX.uGUn, DX.uPar, DX.uVar, DX.uC, DX.uNil, DX.uCons, DX.uTup, DX.uLst, DX.uLstM, DX.uOp, DX.dI, DX.dIC, DX.dEq, DX.dNe, DX.dAdd, DX.uUn, DX.uIsN, DX.dTru, DX.uTru, DX.uTest, DX.uAndB, DX.uOrB, DX.uNotB, DX.uAnd, DX.uOr, DX.uNot, DX.uIf, DX.uChain, DX.dIx, DX.uNoPart, DX.uPart, DX.uSl, DX.dIn, DX.uFld, DX.uCB, DX.one, DX.dLen, DX.dIsB, DX.uIs, DX.dIsO, DX.dInt, DX.dList, DX.dTuple, DX.uBM, DX.dAppend, DX.dExtend, DX.dIndex, DX.uM1, DX.uCall, DX.uMeth, DX.dTwo, DX.dRep, DX.dLenO, DX.dCmpO, DX.dNeO, DX.dInO, DX.dMakeM, DX.dMakeF, DX.isC, DX.insAt, List.getElem?_cons_zero, List.getElem?_cons_succ, List.getElem?_nil, List.set_cons_zero, List.set_cons_succ, List.length_cons, List.length_nil, DX.wipeD, DX.tyIs, DX.v_non, DX.vT_non, DX.ty_non, DX.v_bl, DX.vT_bl, DX.ty_bl, DX.v_int, DX.vT_int, DX.ty_int, DX.v_str, DX.vT_str, DX.ty_str, DX.v_byt, DX.vT_byt, DX.ty_byt, DX.v_lst, DX.vT_lst, DX.ty_lst, DX.v_tup, DX.vT_tup, DX.ty_tup, DX.v_kt, DX.vT_kt, DX.ty_kt, DX.v_kl, DX.vT_kl, DX.ty_kl, DX.v_ins, DX.vT_ins, DX.ty_ins, DX.v_val, DX.vT_val, DX.ty_val, if_true, if_false, Bool.false_eq_true, reduceIte, Bool.not_true, Bool.not_false, true_and, and_true, List.isEmpty_cons, List.isEmpty_nil, Nat.reduceAdd]
    rw [cut_to, ← List.map_take]
    refine hnx _ _ ?_
    clear hnx nx
    generalize hsp : ns.take k = sp at q
    clear hsp
    refine seq_step fun nx hnx => ?_
    simp (maxSteps := 4000000) only [List.length_append, List.append_assoc, List.cons_append, List.nil_append, DX.at_r0, DX.set_r0, DX.putD_nil, DX.putD_hd, DX.look_hd, DX.atI_nat, DX.at0, DX.at1, DX.at2, DX.at3, DX.eqok_int, DX.eqok_str, DX.eqok_bl, DX.deqv_int, DX.deqv_str, DX.deqv_bl, DX.uMakeM, DX.uMakeF, DX.uMakeSF, DX.uProp, DX.uGName, DX.uGNil, DX.uGCons, DX.uGTup, DX.uGSet, DX.uAsg, DX.uDrop, DX.uRet, DX.uRetN, DX.uNext, DX.uBreak, DX.uCont, DX.uNever, DX.uSeq, DX.uIfS, DX.uCut, DX.uAug, DX.uSetF, DX.uISeq, DX.uIRng1, DX.uIRng2, DX.uFor, DX.uWhile, DX.uLc, DX.uYes, DX.uRaise, DX.uTry, DX.uXf, DX.uIsX, DX.uGet, DX.uGSetO, DX.uSMeth, DX.uIEnum, DX.uIZip, DX.uGUn, DX.uPar, DX.uVar, DX.uC, DX.uNil, DX.uCons, DX.uTup, DX.uLst, DX.uLstM, DX.uOp, DX.dI, DX.dIC, DX.dEq, DX.dNe, DX.dAdd, DX.uUn, DX.uIsN, DX.dTru, DX.uTru, DX.uTest, DX.uAndB, DX.uOrB, DX.uNotB, DX.uAnd, DX.uOr, DX.uNot, DX.uIf, DX.uChain, DX.dIx, DX.uNoPart, DX.uPart, DX.uSl, DX.dIn, DX.uFld, DX.uCB, DX.one, DX.dLen, DX.dIsB, DX.uIs, DX.dIsO, DX.dInt, DX.dList, DX.dTuple, DX.uBM, DX.dAppend, DX.dExtend, DX.dIndex, DX.uM1, DX.uCall, DX.uMeth, DX.dTwo, DX.dRep, DX.dLenO, DX.dCmpO, DX.dNeO, DX.dInO, DX.dMakeM, DX.dMakeF, DX.isC, DX.insAt, List.getElem?_cons_zero, List.getElem?_cons_succ, List.getElem?_nil, List.set_cons_zero, List.set_cons_succ, List.length_cons, List.length_nil, DX.wipeD, DX.tyIs, DX.v_non, DX.vT_non, DX.ty_non, DX.v_bl, DX.vT_bl, DX.ty_bl, DX.v_int, DX.vT_int, DX.ty_int, DX.v_str, DX.vT_str, DX.ty_str, DX.v_byt, DX.vT_byt, DX.ty_byt, DX.v_lst, DX.vT_lst, DX.ty_lst, DX.v_tup, DX.vT_tup, DX.ty_tup, DX.v_kt, DX.vT_kt, DX.ty_kt, DX.v_kl, DX.vT_kl, DX.ty_kl, DX.v_ins, DX.vT_ins, DX.ty_ins, DX.v_val, DX.vT_val, DX.ty_val, if_true, if_false, Bool.false_eq_true, reduceIte, Bool.not_true, Bool.not_false, true_and, and_true, List.isEmpty_cons, List.isEmpty_nil, Nat.reduceAdd]
    refine ⟨by decide, hnx _ _ ?_⟩
    clear hnx nx
    refine seq_step fun nx hnx => ?_
    simp (maxSteps := 4000000) only [DX.at_r0, DX.set_r0, DX.putD_nil, DX.putD_hd, DX.look_hd, DX.atI_nat, DX.at0, DX.at1, DX.at2, DX.at3, DX.eqok_int, DX.eqok_str, DX.eqok_bl, DX.deqv_int, DX.deqv_str, DX.deqv_bl, DX.uMakeM, DX.uMakeF, DX.uMakeSF, DX.uProp, DX.uGName, DX.uGNil, DX.uGCons, DX.uGTup, DX.uGSet, DX.uAsg, DX.uDrop, DX.uRet, DX.uRetN, DX.uNext, DX.uBreak, DX.uCont, DX.uNever, DX.uSeq, DX.uIfS, DX.uCut, DX.uAug, DX.uSetF, DX.uISeq, DX.uIRng1, DX.uIRng2, DX.uFor, DX.uWhile, DX.uLc, DX.uYes, DX.uRaise, DX.uTry, DX.uXf, DX.uIsX, DX.uGet, DX.uGSetO, DX.uSMeth, DX.uIEnum, DX.uIZip, DX.uGUn, DX.uPar, DX.uVar, DX.uC, DX.uNil, DX.uCons, DX.uTup, DX.uLst, DX.uLstM, DX.uOp, DX.dI, DX.dIC, DX.dEq, DX.dNe, DX.dAdd, DX.uUn, DX.uIsN, DX.dTru, DX.uTru, DX.uTest, DX.uAndB, DX.uOrB, DX.uNotB, DX.uAnd, DX.uOr, DX.uNot, DX.uIf, DX.uChain, DX.dIx, DX.uNoPart, DX.uPart, DX.uSl, DX.dIn, DX.uFld, DX.uCB, DX.one, DX.dLen, DX.dIsB, DX.uIs, DX.dIsO, DX.dInt, DX.dList, DX.dTuple, DX.uBM, DX.dAppend, DX.dExtend, DX.dIndex, DX.uM1, DX.uCall, DX.uMeth, DX.dTwo, DX.dRep, DX.dLenO, DX.dCmpO, DX.dNeO, DX.dInO, DX.dMakeM, DX.dMakeF, DX.isC, DX.insAt, List.getElem?_cons_zero, List.getElem?_cons_succ, List.getElem?_nil, List.set_cons_zero, List.set_cons_succ, List.length_cons, List.length_nil, DX.wipeD, DX.tyIs, DX.v_non, DX.vT_non, DX.ty_non, DX.v_bl, DX.vT_bl, DX.ty_bl, DX.v_int, DX.vT_int, DX.ty_int, DX.v_str, DX.vT_str, DX.ty_str, DX.v_byt, DX.vT_byt, DX.ty_byt, DX.v_lst, DX.vT_lst, DX.ty_lst, DX.v_tup, DX.vT_tup, DX.ty_tup, DX.v_kt, DX.vT_kt, DX.ty_kt, DX.v_kl, DX.vT_kl, DX.ty_kl, DX.v_ins, DX.vT_ins, DX.ty_ins, DX.v_val, DX.vT_val, DX.ty_val, if_true, if_false, Bool.false_eq_true, reduceIte, Bool.not_true, Bool.not_false, true_and, and_true, List.isEmpty_cons, List.isEmpty_nil, Nat.reduceAdd]
    have hJ1 : ∀ a b, (μ ++ [M.lst a, M.lst b])[μ.length]? = some (M.lst a) := fun a b => at_r0
    have hJ2 : ∀ a b, (μ ++ [M.lst a, M.lst b])[μ.length + 1]? = some (M.lst b) := fun a b => at_r 1
    refine for_map (fun n ρ μ1 => ∃ (s1 : List Int) (cl : List (Nat × Nat)), cl ++ greedy s1 (bu.drop n) = greedy sp bu ∧ cl.length ≤ n ∧ μ1 = μ ++ [.lst (s1.map .int), .lst (cl.map cc)] ∧ ∃ o7 o8 o9, ρ = [some xs, some m, some (.int (k : Nat)), some (.lst (bu.map fun t => .lst (tr t))), some (.lst (ns.map .int)), some (.ob μ.length), some (.ob (μ.length + 1)), o7, o8, o9]) ⟨sp, [], rfl, Nat.le_refl _, rfl, _, _, _, rfl⟩ (fun _ _ _ _ => by trivial) ?_ ?_
    · rintro ρ μ1 ⟨s1, cl, hcl, _, rfl, o7, o8, o9, rfl⟩
      rw [List.length_map, List.drop_length, show greedy s1 [] = [] from rfl, List.append_nil] at hcl
      refine hnx _ _ ?_
      clear hnx nx
      rw [← hcl] at q
      simp (maxSteps := 4000000) only [cut_from, ← List.map_drop, dSum, DX.at_r0, DX.set_r0, DX.putD_nil, DX.putD_hd, DX.look_hd, DX.atI_nat, DX.at0, DX.at1, DX.at2, DX.at3, DX.eqok_int, DX.eqok_str, DX.eqok_bl, DX.deqv_int, DX.deqv_str, DX.deqv_bl, DX.uMakeM, DX.uMakeF, DX.uMakeSF, DX.uProp, DX.uGName, DX.uGNil, DX.uGCons, DX.uGTup, DX.uGSet, DX.uAsg, DX.uDrop, DX.uRet, DX.uRetN, DX.uNext, DX.uBreak, DX.uCont, DX.uNever, DX.uSeq, DX.uIfS, DX.uCut, DX.uAug, DX.uSetF, DX.uISeq, DX.uIRng1, DX.uIRng2, DX.uFor, DX.uWhile, DX.uLc, DX.uYes, DX.uRaise, DX.uTry, DX.uXf, DX.uIsX, DX.uGet, DX.uGSetO, DX.uSMeth, DX.uIEnum, DX.uIZip, DX.uGUn, DX.uPar, DX.uVar, DX.uC, DX.uNil, DX.uCons, DX.uTup, DX.uLst, DX.uLstM, DX.uOp, DX.dI, DX.dIC, DX.dEq, DX.dNe, DX.dAdd, DX.uUn, DX.uIsN, DX.dTru, DX.uTru, DX.uTest, DX.uAndB, DX.uOrB, DX.uNotB, DX.uAnd, DX.uOr, DX.uNot, DX.uIf, DX.uChain, DX.dIx, DX.uNoPart, DX.uPart, DX.uSl, DX.dIn, DX.uFld, DX.uCB, DX.one, DX.dLen, DX.dIsB, DX.uIs, DX.dIsO, DX.dInt, DX.dList, DX.dTuple, DX.uBM, DX.dAppend, DX.dExtend, DX.dIndex, DX.uM1, DX.uCall, DX.uMeth, DX.dTwo, DX.dRep, DX.dLenO, DX.dCmpO, DX.dNeO, DX.dInO, DX.dMakeM, DX.dMakeF, DX.isC, DX.insAt, List.getElem?_cons_zero, List.getElem?_cons_succ, List.getElem?_nil, List.set_cons_zero, List.set_cons_succ, List.length_cons, List.length_nil, DX.wipeD, DX.tyIs, DX.v_non, DX.vT_non, DX.ty_non, DX.v_bl, DX.vT_bl, DX.ty_bl, DX.v_int, DX.vT_int, DX.ty_int, DX.v_str, DX.vT_str, DX.ty_str, DX.v_byt, DX.vT_byt, DX.ty_byt, DX.v_lst, DX.vT_lst, DX.ty_lst, DX.v_tup, DX.vT_tup, DX.ty_tup, DX.v_kt, DX.vT_kt, DX.ty_kt, DX.v_kl, DX.vT_kl, DX.ty_kl, DX.v_ins, DX.vT_ins, DX.ty_ins, DX.v_val, DX.vT_val, DX.ty_val, if_true, if_false, Bool.false_eq_true, reduceIte, Bool.not_true, Bool.not_false, true_and, and_true, List.isEmpty_cons, List.isEmpty_nil, Nat.reduceAdd]
      have e : fz (μ ++ [M.lst (s1.map .int), M.lst (cl.map cc)]) μ.length 6 (.tup [.int (ns.drop k).sum, .ob (μ.length + 1)]) = .tup [.int (ns.drop k).sum, .lst (cl.map cc)] := by
        rw [fz_tup]
        simp only [List.map_cons, List.map_nil]
        rw [fz_obL (by omega) (hJ2 _ _), fz_int, List.map_map]
        congr 4
      refine ⟨ns.drop k, rfl, by decide, .inr ⟨⟨by simp, fun k m' hk hm' => .inl (by rw [at_l hk] at hm'; exact hm')⟩, ?_, ?_⟩⟩
      · rw [e]
        have c1 : cldL μ.length (cl.map cc) = true := cldL_all fun x hx => by
          obtain ⟨y, _, rfl⟩ := List.mem_map.mp hx
          rfl
        simp [cld, cldL, c1]
      · rw [e, take_n rfl]
        exact q
    · rintro n e ρ μ1 go he ⟨s1, cl, hcl, hcn, rfl, o7, o8, o9, rfl⟩ k2
      rw [List.getElem?_map] at he
      cases hb : bu[n]? with
      | none => rw [hb] at he; cases he
      | some t =>
        rw [hb] at he
        cases he
        have hdr : bu.drop n = t :: bu.drop (n + 1) := by
          rw [List.drop_eq_getElem_cons (lt_of_at hb)]
          congr 1
          have := List.getElem?_eq_getElem (lt_of_at hb)
          rw [hb] at this
          exact (Option.some.inj this).symm
        rw [hdr] at hcl
        have hlt := lt_of_at hb
        simp (maxSteps := 4000000) only [tr, v_obL (hJ1 _ _), any_int, DX.at_r0, DX.set_r0, DX.putD_nil, DX.putD_hd, DX.look_hd, DX.atI_nat, DX.at0, DX.at1, DX.at2, DX.at3, DX.eqok_int, DX.eqok_str, DX.eqok_bl, DX.deqv_int, DX.deqv_str, DX.deqv_bl, DX.uMakeM, DX.uMakeF, DX.uMakeSF, DX.uProp, DX.uGName, DX.uGNil, DX.uGCons, DX.uGTup, DX.uGSet, DX.uAsg, DX.uDrop, DX.uRet, DX.uRetN, DX.uNext, DX.uBreak, DX.uCont, DX.uNever, DX.uSeq, DX.uIfS, DX.uCut, DX.uAug, DX.uSetF, DX.uISeq, DX.uIRng1, DX.uIRng2, DX.uFor, DX.uWhile, DX.uLc, DX.uYes, DX.uRaise, DX.uTry, DX.uXf, DX.uIsX, DX.uGet, DX.uGSetO, DX.uSMeth, DX.uIEnum, DX.uIZip, DX.uGUn, DX.uPar, DX.uVar, DX.uC, DX.uNil, DX.uCons, DX.uTup, DX.uLst, DX.uLstM, DX.uOp, DX.dI, DX.dIC, DX.dEq, DX.dNe, DX.dAdd, DX.uUn, DX.uIsN, DX.dTru, DX.uTru, DX.uTest, DX.uAndB, DX.uOrB, DX.uNotB, DX.uAnd, DX.uOr, DX.uNot, DX.uIf, DX.uChain, DX.dIx, DX.uNoPart, DX.uPart, DX.uSl, DX.dIn, DX.uFld, DX.uCB, DX.one, DX.dLen, DX.dIsB, DX.uIs, DX.dIsO, DX.dInt, DX.dList, DX.dTuple, DX.uBM, DX.dAppend, DX.dExtend, DX.dIndex, DX.uM1, DX.uCall, DX.uMeth, DX.dTwo, DX.dRep, DX.dLenO, DX.dCmpO, DX.dNeO, DX.dInO, DX.dMakeM, DX.dMakeF, DX.isC, DX.insAt, List.getElem?_cons_zero, List.getElem?_cons_succ, List.getElem?_nil, List.set_cons_zero, List.set_cons_succ, List.length_cons, List.length_nil, DX.wipeD, DX.tyIs, DX.v_non, DX.vT_non, DX.ty_non, DX.v_bl, DX.vT_bl, DX.ty_bl, DX.v_int, DX.vT_int, DX.ty_int, DX.v_str, DX.vT_str, DX.ty_str, DX.v_byt, DX.vT_byt, DX.ty_byt, DX.v_lst, DX.vT_lst, DX.ty_lst, DX.v_tup, DX.vT_tup, DX.ty_tup, DX.v_kt, DX.vT_kt, DX.ty_kt, DX.v_kl, DX.vT_kl, DX.ty_kl, DX.v_ins, DX.vT_ins, DX.ty_ins, DX.v_val, DX.vT_val, DX.ty_val, if_true, if_false, Bool.false_eq_true, reduceIte, Bool.not_true, Bool.not_false, true_and, and_true, List.isEmpty_cons, List.isEmpty_nil, Nat.reduceAdd]
        have hok : dInOk (.int (t.2.2 : Nat)) (.lst (s1.map .int)) (s1.map .int) = true := by
          unfold dInOk
          rw [flat_ints]
          rfl
        refine ⟨hok, ?_⟩
        by_cases hm' : (t.2.2 : Int) ∈ s1
        · rw [if_pos (decide_eq_true hm')]
          obtain ⟨j, j1, j2, j3⟩ := first_at _ hm'
          rw [show greedy s1 (t :: bu.drop (n + 1)) = (t.1, t.2.1) :: greedy (s1.erase t.2.2) (bu.drop (n + 1)) from if_pos hm'] at hcl
          refine ⟨isLst_at (hJ1 _ _), s1, j, hJ1 _ _, j1, j2, ?_⟩
          rw [j3, set_r0, List.set_cons_zero]
          refine ⟨isLst_at (hJ2 _ _), by decide, ?_⟩
          rw [hJ2]
          refine ⟨Nat.lt_of_le_of_lt (by simp; omega : (cl.map cc).length ≤ 1000) (by decide), ?_⟩
          rw [set_rn rfl 1, List.set_cons_succ, List.set_cons_zero]
          exact k2 _ _ ⟨s1.erase t.2.2, cl ++ [(t.1, t.2.1)], by rw [List.append_assoc]; exact hcl, by simp; omega, by rw [List.map_append]; rfl, _, _, _, rfl⟩
        · rw [if_neg (by simpa using hm')]
          rw [show greedy s1 (t :: bu.drop (n + 1)) = greedy s1 (bu.drop (n + 1)) from if_neg hm'] at hcl
          exact k2 _ _ ⟨s1, cl, hcl, Nat.le_succ_of_le hcn, rfl, _, _, _, rfl⟩
  · exact h.elim

end
end Toy
set_option Elab.async false
set_option linter.all false
set_option maxRecDepth 100000
set_option maxHeartbeats 4000000
namespace Toy
open PySem PySem.Spec PyProof.Rows L2 DX
section
variable {P : Program} {w : World} {K : PySem.W.Frag} {mg : Str → Option Value} {base : Heap}
def savedD (ns : List Int) : List D := (List.range (ns.length + 1)).map fun k => .int (ns.drop k).sum
def S_saved (W : Wd P w K mg base) : DSp := fun ds μ Q E => match ds with
  | [xs, m] => ∃ (ps : List (Bool × Nat)) (d : D) (bs : List Bool), view μ xs = .lst (ps.map dd) ∧ Mkv W μ m d bs ∧ bs.length < 1000 ∧ ps.length ≤ 1000 ∧ (∀ p ∈ ps, p.2 < bs.length) ∧
    ∀ ns : List Int, ns.Perm (cnts (brun 0 ps (b0 bs)).bu) → ns.Pairwise (· ≥ ·) → Q (.lst (savedD ns)) μ
  | _ => False

theorem ok_saved (W : Wd P w K mg base) : FnD P w K mg base 7 W.f_saved (S_saved W) := by
  refine (okB W.t_saved.d sc_saved (by (intro ds μ Q E h; unfold S_saved at h; split at h <;> first | rfl | exact h.elim)) _ (fun cdv A outer s H E' g hr => ⟨_, (b_cons (s_expr (d_call (ok_check_deeds W) W.t_check_deeds.a W.t_check_deeds.d.kp g (hr.mono (by decide)) (takes_of rfl rfl rfl rfl) (a_cons (d_var 0) (a_cons (d_var 1) a_nil))))
      (b_cons (s_set 2 sc_saved.nd (d_call (ok_descending W) W.t_descending.a W.t_descending.d.kp g (hr.mono (by decide)) (takes_of rfl rfl rfl rfl) (a_cons (d_call (ok_bursts W) W.t_bursts.a W.t_bursts.d.kp g hr (takes_of rfl rfl rfl rfl) (a_cons (d_var 0) (a_cons (d_var 1) a_nil))) a_nil)))
      (b_one (s_ret (d_lc false [("many", 3)] sc_saved.nd (i_rng1 W.z_range (a_cons (d_op (op_addA rfl) sim_add (d_callB (call_lenA rfl) sim_len W.z_len (a_cons (d_var 2) a_nil)) d_int) a_nil)) (blkOk_by (own := [("many", 3)]) (N := ["deeds", "marks", "numbers", "many"]) (sc := defScope s_saved) (by decide +kernel)) (fun _ _ _ _ _ => (g_name 3 sc_saved.nd)) (fun _ _ _ _ _ => ts_nil) (fun _ _ _ _ _ => (d_callB (call_sumA rfl rfl) sim_sum W.z_sum (a_cons (d_sl false (d_var 2) (o_some (d_var 3)) o_none) a_nil))) (wip_name (by decide)) mono_name)))))⟩) (fun ds μ Q E h => ?_)).fn0 W.t_saved.b
  unfold S_saved at h
  split at h
  · rename_i xs m
    obtain ⟨ps, d, bs, hL, hm, hl, hps, hall, q⟩ := h
    rw [show startD ["deeds", "marks", "numbers", "many"] [xs, m] = [some xs, some m, none, none] from rfl]
    refine seq_step fun nx hnx => ?_
    simp (maxSteps := 4000000) only [DX.at_r0, DX.set_r0, DX.putD_nil, DX.putD_hd, DX.look_hd, DX.atI_nat, DX.at0, DX.at1, DX.at2, DX.at3, DX.eqok_int, DX.eqok_str, DX.eqok_bl, DX.deqv_int, DX.deqv_str, DX.deqv_bl, DX.uMakeM, DX.uMakeF, DX.uMakeSF, DX.uProp, DX.uGName, DX.uGNil, DX.uGCons, DX.uGTup, DX.uGSet, DX.uAsg, DX.uDrop, DX.uRet, DX.uRetN, DX.uNext, DX.uBreak, DX.uCont, DX.uNever, DX.uSeq, DX.uIfS, DX.uCut, DX.uAug, DX.uSetF, DX.uISeq, DX.uIRng1, DX.uIRng2, DX.uFor, DX.uWhile, DX.uLc, DX.uYes, DX.uRaise, DX.uTry, DX.uXf, DX.uIsX, DX.uGet, DX.uGSetO, DX.uSMeth, DX.uIEnum, DX.uIZip, DX.uGUn, DX.uPar, DX.uVar, DX.uC, DX.uNil, DX.uCons, DX.uTup, DX.uLst, DX.uLstM, DX.uOp, DX.dI, DX.dIC, DX.dEq, DX.dNe, DX.dAdd, DX.uUn, DX.uIsN, DX.dTru, DX.uTru, DX.uTest, DX.uAndB, DX.uOrB, DX.uNotB, DX.uAnd, DX.uOr, DX.uNot, DX.uIf, DX.uChain, DX.dIx, DX.uNoPart, DX.uPart, DX.uSl, DX.dIn, DX.uFld, DX.uCB, DX.one, DX.dLen, DX.dIsB, DX.uIs, DX.dIsO, DX.dInt, DX.dList, DX.dTuple, DX.uBM, DX.dAppend, DX.dExtend, DX.dIndex, DX.uM1, DX.uCall, DX.uMeth, DX.dTwo, DX.dRep, DX.dLenO, DX.dCmpO, DX.dNeO, DX.dInO, DX.dMakeM, DX.dMakeF, DX.isC, DX.insAt, List.getElem?_cons_zero, List.getElem?_cons_succ, List.getElem?_nil, List.set_cons_zero, List.set_cons_succ, List.length_cons, List.length_nil, DX.wipeD, DX.tyIs, DX.v_non, DX.vT_non, DX.ty_non, DX.v_bl, DX.vT_bl, DX.ty_bl, DX.v_int, DX.vT_int, DX.ty_int, DX.v_str, DX.vT_str, DX.ty_str, DX.v_byt, DX.vT_byt, DX.ty_byt, DX.v_lst, DX.vT_lst, DX.ty_lst, DX.v_tup, DX.vT_tup, DX.ty_tup, DX.v_kt, DX.vT_kt, DX.ty_kt, DX.v_kl, DX.vT_kl, DX.ty_kl, DX.v_ins, DX.vT_ins, DX.ty_ins, DX.v_val, DX.vT_val, DX.ty_val, if_true, if_false, Bool.false_eq_true, reduceIte, Bool.not_true, Bool.not_false, true_and, and_true, List.isEmpty_cons, List.isEmpty_nil, Nat.reduceAdd]
    refine ⟨_, d, bs, hL, hm, hl, .inr ⟨dd_ok hall, hnx _ _ ?_⟩⟩
    clear hnx nx
    refine seq_step fun nx hnx => ?_
    simp (maxSteps := 4000000) only [DX.at_r0, DX.set_r0, DX.putD_nil, DX.putD_hd, DX.look_hd, DX.atI_nat, DX.at0, DX.at1, DX.at2, DX.at3, DX.eqok_int, DX.eqok_str, DX.eqok_bl, DX.deqv_int, DX.deqv_str, DX.deqv_bl, DX.uMakeM, DX.uMakeF, DX.uMakeSF, DX.uProp, DX.uGName, DX.uGNil, DX.uGCons, DX.uGTup, DX.uGSet, DX.uAsg, DX.uDrop, DX.uRet, DX.uRetN, DX.uNext, DX.uBreak, DX.uCont, DX.uNever, DX.uSeq, DX.uIfS, DX.uCut, DX.uAug, DX.uSetF, DX.uISeq, DX.uIRng1, DX.uIRng2, DX.uFor, DX.uWhile, DX.uLc, DX.uYes, DX.uRaise, DX.uTry, DX.uXf, DX.uIsX, DX.uGet, DX.uGSetO, DX.uSMeth, DX.uIEnum, DX.uIZip, DX.uGUn, DX.uPar, DX.uVar, DX.uC, DX.uNil, DX.uCons, DX.uTup, DX.uLst, DX.uLstM, DX.uOp, DX.dI, DX.dIC, DX.dEq, DX.dNe, DX.dAdd, DX.uUn, DX.uIsN, DX.dTru, DX.uTru, DX.uTest, DX.uAndB, DX.uOrB, DX.uNotB, DX.uAnd, DX.uOr, DX.uNot, DX.uIf, DX.uChain, DX.dIx, DX.uNoPart, DX.uPart, DX.uSl, DX.dIn, DX.uFld, DX.uCB, DX.one, DX.dLen, DX.dIsB, DX.uIs, DX.dIsO, DX.dInt, DX.dList, DX.dTuple, DX.uBM, DX.dAppend, DX.dExtend, DX.dIndex, DX.uM1, DX.uCall, DX.uMeth, DX.dTwo, DX.dRep, DX.dLenO, DX.dCmpO, DX.dNeO, DX.dInO, DX.dMakeM, DX.dMakeF, DX.isC, DX.insAt, List.getElem?_cons_zero, List.getElem?_cons_succ, List.getElem?_nil, List.set_cons_zero, List.set_cons_succ, List.length_cons, List.length_nil, DX.wipeD, DX.tyIs, DX.v_non, DX.vT_non, DX.ty_non, DX.v_bl, DX.vT_bl, DX.ty_bl, DX.v_int, DX.vT_int, DX.ty_int, DX.v_str, DX.vT_str, DX.ty_str, DX.v_byt, DX.vT_byt, DX.ty_byt, DX.v_lst, DX.vT_lst, DX.ty_lst, DX.v_tup, DX.vT_tup, DX.ty_tup, DX.v_kt, DX.vT_kt, DX.ty_kt, DX.v_kl, DX.vT_kl, DX.ty_kl, DX.v_ins, DX.vT_ins, DX.ty_ins, DX.v_val, DX.vT_val, DX.ty_val, if_true, if_false, Bool.false_eq_true, reduceIte, Bool.not_true, Bool.not_false, true_and, and_true, List.isEmpty_cons, List.isEmpty_nil, Nat.reduceAdd]
    refine ⟨ps, d, bs, hL, hm, hl, hps, hall, ?_⟩
    have hbl : (brun 0 ps (b0 bs)).bu.length ≤ 1000 := by have := brun_len 0 ps (b0 bs); have h0 : (b0 bs).bu.length = 0 := rfl; omega
    generalize (brun 0 ps (b0 bs)).bu = bu at q hbl ⊢
    refine ⟨bu, rfl, hbl, fun ns h1 h2 => hnx _ _ ?_⟩
    clear hnx nx
    have q := q ns h1 h2
    have hns : ns.length ≤ 1000 := by have := h1.length_eq; unfold cnts at this; rw [List.length_map] at this; omega
    simp (maxSteps := 4000000) only [List.length_map, DX.at_r0, DX.set_r0, DX.putD_nil, DX.putD_hd, DX.look_hd, DX.atI_nat, DX.at0, DX.at1, DX.at2, DX.at3, DX.eqok_int, DX.eqok_str, DX.eqok_bl, DX.deqv_int, DX.deqv_str, DX.deqv_bl, DX.uMakeM, DX.uMakeF, DX.uMakeSF, DX.uProp, DX.uGName, DX.uGNil, DX.uGCons, DX.uGTup, DX.uGSet, DX.uAsg, DX.uDrop, DX.uRet, DX.uRetN, DX.uNext, DX.uBreak, DX.uCont, DX.uNever, DX.uSeq, DX.uIfS, DX.uCut, DX.uAug, DX.uSetF, DX.uISeq, DX.uIRng1, DX.uIRng2, DX.uFor, DX.uWhile, DX.uLc, DX.uYes, DX.uRaise, DX.uTry, DX.uXf, DX.uIsX, DX.uGet, DX.uGSetO, DX.uSMeth, DX.uIEnum, DX.uIZip, DX.uGUn, DX.uPar, DX.uVar, DX.uC, DX.uNil, DX.uCons, DX.uTup, DX.uLst, DX.uLstM, DX.uOp, DX.dI, DX.dIC, DX.dEq, DX.dNe, DX.dAdd, DX.uUn, DX.uIsN, DX.dTru, DX.uTru, DX.uTest, DX.uAndB, DX.uOrB, DX.uNotB, DX.uAnd, DX.uOr, DX.uNot, DX.uIf, DX.uChain, DX.dIx, DX.uNoPart, DX.uPart, DX.uSl, DX.dIn, DX.uFld, DX.uCB, DX.one, DX.dLen, DX.dIsB, DX.uIs, DX.dIsO, DX.dInt, DX.dList, DX.dTuple, DX.uBM, DX.dAppend, DX.dExtend, DX.dIndex, DX.uM1, DX.uCall, DX.uMeth, DX.dTwo, DX.dRep, DX.dLenO, DX.dCmpO, DX.dNeO, DX.dInO, DX.dMakeM, DX.dMakeF, DX.isC, DX.insAt, List.getElem?_cons_zero, List.getElem?_cons_succ, List.getElem?_nil, List.set_cons_zero, List.set_cons_succ, List.length_cons, List.length_nil, DX.wipeD, DX.tyIs, DX.v_non, DX.vT_non, DX.ty_non, DX.v_bl, DX.vT_bl, DX.ty_bl, DX.v_int, DX.vT_int, DX.ty_int, DX.v_str, DX.vT_str, DX.ty_str, DX.v_byt, DX.vT_byt, DX.ty_byt, DX.v_lst, DX.vT_lst, DX.ty_lst, DX.v_tup, DX.vT_tup, DX.ty_tup, DX.v_kt, DX.vT_kt, DX.ty_kt, DX.v_kl, DX.vT_kl, DX.ty_kl, DX.v_ins, DX.vT_ins, DX.ty_ins, DX.v_val, DX.vT_val, DX.ty_val, if_true, if_false, Bool.false_eq_true, reduceIte, Bool.not_true, Bool.not_false, true_and, and_true, List.isEmpty_cons, List.isEmpty_nil, Nat.reduceAdd]
    refine ⟨⟨by omega, by omega⟩, lc_map (fun n acc μ1 => μ1 = μ ∧ acc = (List.range n).map fun k => .int (ns.drop k).sum) ⟨rfl, rfl⟩ (fun _ _ _ _ => by trivial) ?_ ?_⟩
    · rintro acc μ1 ⟨rfl, rfl⟩
      rw [dints_len, show ((ns.length : Int) + 1).toNat = ns.length + 1 by omega]
      exact .inl q
    · rintro n e acc μ1 go he ⟨rfl, rfl⟩ k
      have hn := lt_of_at he
      rw [dints_len] at hn
      rw [dints_get _ _ _ hn, Int.zero_add] at he
      cases he
      simp (maxSteps := 4000000) only [cut_from, ← List.map_drop, dSum, DX.at_r0, DX.set_r0, DX.putD_nil, DX.putD_hd, DX.look_hd, DX.atI_nat, DX.at0, DX.at1, DX.at2, DX.at3, DX.eqok_int, DX.eqok_str, DX.eqok_bl, DX.deqv_int, DX.deqv_str, DX.deqv_bl, DX.uMakeM, DX.uMakeF, DX.uMakeSF, DX.uProp, DX.uGName, DX.uGNil, DX.uGCons, DX.uGTup, DX.uGSet, DX.uAsg, DX.uDrop, DX.uRet, DX.uRetN, DX.uNext, DX.uBreak, DX.uCont, DX.uNever, DX.uSeq, DX.uIfS, DX.uCut, DX.uAug, DX.uSetF, DX.uISeq, DX.uIRng1, DX.uIRng2, DX.uFor, DX.uWhile, DX.uLc, DX.uYes, DX.uRaise, DX.uTry, DX.uXf, DX.uIsX, DX.uGet, DX.uGSetO, DX.uSMeth, DX.uIEnum, DX.uIZip, DX.uGUn, DX.uPar, DX.uVar, DX.uC, DX.uNil, DX.uCons, DX.uTup, DX.uLst, DX.uLstM, DX.uOp, DX.dI, DX.dIC, DX.dEq, DX.dNe, DX.dAdd, DX.uUn, DX.uIsN, DX.dTru, DX.uTru, DX.uTest, DX.uAndB, DX.uOrB, DX.uNotB, DX.uAnd, DX.uOr, DX.uNot, DX.uIf, DX.uChain, DX.dIx, DX.uNoPart, DX.uPart, DX.uSl, DX.dIn, DX.uFld, DX.uCB, DX.one, DX.dLen, DX.dIsB, DX.uIs, DX.dIsO, DX.dInt, DX.dList, DX.dTuple, DX.uBM, DX.dAppend, DX.dExtend, DX.dIndex, DX.uM1, DX.uCall, DX.uMeth, DX.dTwo, DX.dRep, DX.dLenO, DX.dCmpO, DX.dNeO, DX.dInO, DX.dMakeM, DX.dMakeF, DX.isC, DX.insAt, List.getElem?_cons_zero, List.getElem?_cons_succ, List.getElem?_nil, List.set_cons_zero, List.set_cons_succ, List.length_cons, List.length_nil, DX.wipeD, DX.tyIs, DX.v_non, DX.vT_non, DX.ty_non, DX.v_bl, DX.vT_bl, DX.ty_bl, DX.v_int, DX.vT_int, DX.ty_int, DX.v_str, DX.vT_str, DX.ty_str, DX.v_byt, DX.vT_byt, DX.ty_byt, DX.v_lst, DX.vT_lst, DX.ty_lst, DX.v_tup, DX.vT_tup, DX.ty_tup, DX.v_kt, DX.vT_kt, DX.ty_kt, DX.v_kl, DX.vT_kl, DX.ty_kl, DX.v_ins, DX.vT_ins, DX.ty_ins, DX.v_val, DX.vT_val, DX.ty_val, if_true, if_false, Bool.false_eq_true, reduceIte, Bool.not_true, Bool.not_false, true_and, and_true, List.isEmpty_cons, List.isEmpty_nil, Nat.reduceAdd]
      refine ⟨ns.drop n, by rw [cut_from, List.map_drop], by simp; omega, k _ _ ⟨rfl, ?_⟩⟩
      rw [List.range_succ, List.map_append]
      rfl
  · exact h.elim

end
end Toy
set_option Elab.async false
set_option linter.all false
set_option maxRecDepth 100000
set_option maxHeartbeats 4000000
namespace Toy
open PySem PySem.Spec PyProof.Rows L2 DX
section
variable {P : Program} {w : World} {K : PySem.W.Frag} {mg : Str → Option Value} {base : Heap}
def pl (a b : Int) : DX.M := .lst [.int a, .int b]
def PoolOk (b : Int) : Prop := 0 ≤ b ∧ b < 2147483647
theorem dlay_ints : ∀ ns : List Int, dlayL (ns.map .int) = true
  | [] => rfl
  | n :: r => by
    show (dlay (.int n) && dlayL (r.map .int)) = true
    rw [dlay_ints r]; rfl
theorem ddep_ints : ∀ ns : List Int, ddepL (ns.map .int) ≤ 1
  | [] => by decide
  | n :: r => by
    have := ddep_ints r
    show max (ddep (.int n)) (ddepL (r.map .int)) ≤ 1
    have e : ddep (.int n) ≤ 1 := Nat.zero_le _
    exact Nat.max_le.mpr ⟨e, this⟩
theorem atI_in {xs : List D} {i : Int} (h0 : 0 ≤ i) (h1 : i < xs.length) : ∃ n : Nat, i = (n : Int) ∧ ∃ h : n < xs.length, atI xs i = some xs[n] := by
  obtain ⟨n, rfl⟩ := Int.eq_ofNat_of_zero_le h0
  exact ⟨n, rfl, by omega, by rw [DX.atI_nat]; exact List.getElem?_eq_getElem (by omega)⟩
theorem pool_ok {x : Int} : PoolOk (x % 2147483647) := ⟨Int.emod_nonneg _ (by decide), Int.emod_lt_of_pos _ (by decide)⟩

def S_law_pool (W : Wd P w K mg base) : DSp := fun ds μ Q E => match ds with
  | [sc, .int k] => ∃ ns : List Int, sc = .kl (ns.map .int) ∧ ns.length ≤ 63 ∧ 0 ≤ k ∧ k < 1000 ∧ ∀ a b, PoolOk b → Q (.ob μ.length) (μ ++ [pl a b])
  | _ => False

theorem ok_law_pool (W : Wd P w K mg base) : FnD P w K mg base 2 W.f_law_pool (S_law_pool W) := by
  refine (okB W.t_law_pool.d sc_law_pool (by (intro ds μ Q E h; unfold S_law_pool at h; split at h <;> first | rfl | exact h.elim)) _ (fun cdv A outer s H E' g hr => ⟨_, (b_cons (s_set 2 sc_law_pool.nd d_int)
      (b_cons (s_if (t_cmp (op_neA hr.units rfl) sim_ne (d_var 0) (d_lst a_nil) (nomark _)) (b_one (s_set 2 sc_law_pool.nd (d_ix (d_var 0) (d_op op_mod sim_mod (d_callTy call_int1 sim_int W.z_int (a_cons (d_var 1) a_nil)) (d_callB (call_lenA rfl) sim_len W.z_len (a_cons (d_var 0) a_nil)))))) b_nil)
      (b_cons (s_set 3 sc_law_pool.nd (d_op op_mod sim_mod (d_op op_mul sim_mul (d_callTy call_int1 sim_int W.z_int (a_cons (d_op (op_addA rfl) sim_add (d_op (op_addA rfl) sim_add (d_op op_mod sim_mod (d_callTy call_int1 sim_int W.z_int (a_cons (d_var 2) a_nil)) d_int) (d_op op_mul sim_mul d_int (d_var 1))) d_int) a_nil)) d_int) d_int))
      (b_one (s_ret (d_lstM (a_cons (d_op op_mul sim_mul (d_var 2) (d_callTy call_int1 sim_int W.z_int (a_cons (d_cmp op_ge sim_ge (d_var 2) (d_op op_pow sim_pow d_int d_int) (nomark _)) a_nil))) (a_cons (d_var 3) a_nil))))))))⟩) (fun ds μ Q E h => ?_)).fn0 W.t_law_pool.b
  unfold S_law_pool at h
  split at h
  · rename_i sc k
    obtain ⟨ns, rfl, hn, hk0, hk1, q⟩ := h
    rw [show startD ["script", "k", "cell", "seed"] [.kl (ns.map .int), .int k] = [some (.kl (ns.map .int)), some (.int k), none, none] from rfl]
    simp (maxSteps := 4000000) only [DX.at_r0, DX.set_r0, DX.putD_nil, DX.putD_hd, DX.look_hd, DX.atI_nat, DX.at0, DX.at1, DX.at2, DX.at3, DX.eqok_int, DX.eqok_str, DX.eqok_bl, DX.deqv_int, DX.deqv_str, DX.deqv_bl, DX.uMakeM, DX.uMakeF, DX.uMakeSF, DX.uProp, DX.uGName, DX.uGNil, DX.uGCons, DX.uGTup, DX.uGSet, DX.uAsg, DX.uDrop, DX.uRet, DX.uRetN, DX.uNext, DX.uBreak, DX.uCont, DX.uNever, DX.uSeq, DX.uIfS, DX.uCut, DX.uAug, DX.uSetF, DX.uISeq, DX.uIRng1, DX.uIRng2, DX.uFor, DX.uWhile, DX.uLc, DX.uYes, DX.uRaise, DX.uTry, DX.uXf, DX.uIsX, DX.uGet, DX.uGSetO, DX.uSMeth, DX.uIEnum, DX.uIZip, DX.uGUn, DX.uPar, DX.uVar, DX.uC, DX.uNil, DX.uCons, DX.uTup, DX.uLst, DX.uLstM, DX.uOp, DX.dI, DX.dIC, DX.dEq, DX.dNe, DX.dAdd, DX.uUn, DX.uIsN, DX.dTru, DX.uTru, DX.uTest, DX.uAndB, DX.uOrB, DX.uNotB, DX.uAnd, DX.uOr, DX.uNot, DX.uIf, DX.uChain, DX.dIx, DX.uNoPart, DX.uPart, DX.uSl, DX.dIn, DX.uFld, DX.uCB, DX.one, DX.dLen, DX.dIsB, DX.uIs, DX.dIsO, DX.dInt, DX.dList, DX.dTuple, DX.uBM, DX.dAppend, DX.dExtend, DX.dIndex, DX.uM1, DX.uCall, DX.uMeth, DX.dTwo, DX.dRep, DX.dLenO, DX.dCmpO, DX.dNeO, DX.dInO, DX.dMakeM, DX.dMakeF, DX.isC, DX.insAt, List.getElem?_cons_zero, List.getElem?_cons_succ, List.getElem?_nil, List.set_cons_zero, List.set_cons_succ, List.length_cons, List.length_nil, DX.wipeD, DX.tyIs, DX.v_non, DX.vT_non, DX.ty_non, DX.v_bl, DX.vT_bl, DX.ty_bl, DX.v_int, DX.vT_int, DX.ty_int, DX.v_str, DX.vT_str, DX.ty_str, DX.v_byt, DX.vT_byt, DX.ty_byt, DX.v_lst, DX.vT_lst, DX.ty_lst, DX.v_tup, DX.vT_tup, DX.ty_tup, DX.v_kt, DX.vT_kt, DX.ty_kt, DX.v_kl, DX.vT_kl, DX.ty_kl, DX.v_ins, DX.vT_ins, DX.ty_ins, DX.v_val, DX.vT_val, DX.ty_val, if_true, if_false, Bool.false_eq_true, reduceIte, Bool.not_true, Bool.not_false, true_and, and_true, List.isEmpty_cons, List.isEmpty_nil, Nat.reduceAdd]
    have e0 : dEqOk (.lst (ns.map .int)) (.lst []) = true := by
      unfold dEqOk dok
      have e1 : dlay (.lst (ns.map .int)) = true := dlay_ints ns
      have e2 : ddep (.lst (ns.map .int)) ≤ 60 := by
        have := ddep_ints ns
        show ddepL (ns.map .int) + 1 ≤ 60
        omega
      rw [e1, decide_eq_true e2]
      rfl
    have c1 : CPow 10 18 := ⟨by decide, by decide, by decide⟩
    have c2 : ∀ x : Int, CMul x 48271 := fun x => .inr ⟨by decide, by decide⟩
    have c3 : ∀ x : Int, CMul 104729 x := fun x => .inl ⟨by decide, by decide⟩
    have c4 : ∀ (x : Int) (b : Bool), CMul x (if b = true then 1 else 0) := fun x b => .inr (by cases b <;> decide)
    refine ⟨by decide, e0, ?_⟩
    cases ns with
    | nil =>
      exact ⟨by decide, c3 _, c2 _, by decide, c1, c4 _ _, by decide, .inl (q _ _ pool_ok)⟩
    | cons n r =>
      have hl : 0 < ((List.map D.int (n :: r)).length : Int) := by simp only [List.length_map, List.length_cons]; omega
      obtain ⟨j, hj, hj2, e⟩ := atI_in (xs := List.map D.int (n :: r)) (Int.emod_nonneg k (Int.ne_of_gt hl)) (Int.emod_lt_of_pos k hl)
      have dn : deqv (.lst (List.map D.int (n :: r))) (.lst []) = false := rfl
      simp (maxSteps := 4000000) only [dn, hl, e, List.getElem_map, DX.at_r0, DX.set_r0, DX.putD_nil, DX.putD_hd, DX.look_hd, DX.atI_nat, DX.at0, DX.at1, DX.at2, DX.at3, DX.eqok_int, DX.eqok_str, DX.eqok_bl, DX.deqv_int, DX.deqv_str, DX.deqv_bl, DX.uMakeM, DX.uMakeF, DX.uMakeSF, DX.uProp, DX.uGName, DX.uGNil, DX.uGCons, DX.uGTup, DX.uGSet, DX.uAsg, DX.uDrop, DX.uRet, DX.uRetN, DX.uNext, DX.uBreak, DX.uCont, DX.uNever, DX.uSeq, DX.uIfS, DX.uCut, DX.uAug, DX.uSetF, DX.uISeq, DX.uIRng1, DX.uIRng2, DX.uFor, DX.uWhile, DX.uLc, DX.uYes, DX.uRaise, DX.uTry, DX.uXf, DX.uIsX, DX.uGet, DX.uGSetO, DX.uSMeth, DX.uIEnum, DX.uIZip, DX.uGUn, DX.uPar, DX.uVar, DX.uC, DX.uNil, DX.uCons, DX.uTup, DX.uLst, DX.uLstM, DX.uOp, DX.dI, DX.dIC, DX.dEq, DX.dNe, DX.dAdd, DX.uUn, DX.uIsN, DX.dTru, DX.uTru, DX.uTest, DX.uAndB, DX.uOrB, DX.uNotB, DX.uAnd, DX.uOr, DX.uNot, DX.uIf, DX.uChain, DX.dIx, DX.uNoPart, DX.uPart, DX.uSl, DX.dIn, DX.uFld, DX.uCB, DX.one, DX.dLen, DX.dIsB, DX.uIs, DX.dIsO, DX.dInt, DX.dList, DX.dTuple, DX.uBM, DX.dAppend, DX.dExtend, DX.dIndex, DX.uM1, DX.uCall, DX.uMeth, DX.dTwo, DX.dRep, DX.dLenO, DX.dCmpO, DX.dNeO, DX.dInO, DX.dMakeM, DX.dMakeF, DX.isC, DX.insAt, List.getElem?_cons_zero, List.getElem?_cons_succ, List.getElem?_nil, List.set_cons_zero, List.set_cons_succ, List.length_cons, List.length_nil, DX.wipeD, DX.tyIs, DX.v_non, DX.vT_non, DX.ty_non, DX.v_bl, DX.vT_bl, DX.ty_bl, DX.v_int, DX.vT_int, DX.ty_int, DX.v_str, DX.vT_str, DX.ty_str, DX.v_byt, DX.vT_byt, DX.ty_byt, DX.v_lst, DX.vT_lst, DX.ty_lst, DX.v_tup, DX.vT_tup, DX.ty_tup, DX.v_kt, DX.vT_kt, DX.ty_kt, DX.v_kl, DX.vT_kl, DX.ty_kl, DX.v_ins, DX.vT_ins, DX.ty_ins, DX.v_val, DX.vT_val, DX.ty_val, if_true, if_false, Bool.false_eq_true, reduceIte, Bool.not_true, Bool.not_false, true_and, and_true, List.isEmpty_cons, List.isEmpty_nil, Nat.reduceAdd]
      exact ⟨by decide, c3 _, c2 _, by decide, c1, c4 _ _, by decide, .inl (q _ _ pool_ok)⟩
  · exact h.elim

def S_law_take (W : Wd P w K mg base) : DSp := fun ds μ Q E => match ds with
  | [.ob p, .int m] => ∃ a b, μ[p]? = some (pl a b) ∧ PoolOk b ∧ 0 < m ∧ m < 1000000 ∧ ∀ d a' b', 0 ≤ d → d < m → PoolOk b' → Q (.int d) (μ.set p (pl a' b'))
  | _ => False

theorem ok_law_take (W : Wd P w K mg base) : FnD P w K mg base 2 W.f_law_take (S_law_take W) := by
  refine (okB W.t_law_take.d sc_law_take (by (intro ds μ Q E h; unfold S_law_take at h; split at h <;> first | rfl | exact h.elim)) _ (fun cdv A outer s H E' g hr => ⟨_, (b_cons (s_if (t_cmp op_gt sim_gt (d_ix (d_var 0) d_int) d_int (nomark _)) (b_cons (s_set 2 sc_law_take.nd (d_op op_mod sim_mod (d_callTy call_int1 sim_int W.z_int (a_cons (d_ix (d_var 0) d_int) a_nil)) (d_var 1)))
      (b_cons (s_asg (d_op op_fdivW sim_fdivW (d_ix (d_var 0) d_int) (d_var 1)) (g_set (d_var 0) d_int))
      (b_one (s_ret (d_var 2))))) b_nil)
      (b_cons (s_asg (d_op op_mod sim_mod (d_callTy call_int1 sim_int W.z_int (a_cons (d_op (op_addA rfl) sim_add (d_op op_mul sim_mul (d_ix (d_var 0) d_int) d_int) d_int) a_nil)) d_int) (g_set (d_var 0) d_int))
      (b_one (s_ret (d_op op_mod sim_mod (d_callTy call_int1 sim_int W.z_int (a_cons (d_op op_fdivW sim_fdivW (d_op op_mod sim_mod (d_callTy call_int1 sim_int W.z_int (a_cons (d_op op_mul sim_mul (d_ix (d_var 0) d_int) (d_ix (d_var 0) d_int)) a_nil)) d_int) d_int) a_nil)) (d_var 1))))))⟩) (fun ds μ Q E h => ?_)).fn0 W.t_law_take.b
  unfold S_law_take at h
  split at h
  · rename_i p m
    obtain ⟨a, b, hp, hb, hm0, hm1, q⟩ := h
    rw [show startD ["pool", "many", "digit"] [.ob p, .int m] = [some (.ob p), some (.int m), none] from rfl]
    unfold pl at hp
    have lt := lt_of_at hp
    have hs : ∀ x : DX.M, (μ.set p x)[p]? = some x := fun x => List.getElem?_set_self lt
    have hv : ∀ l : List D, view (μ.set p (.lst l)) (.ob p) = .lst l := fun l => v_obL (hs _)
    have i0 : ixN 2 0 = some 0 := rfl
    have i1 : ixN 2 1 = some 1 := rfl
    have lg : m.natAbs.log2 < 9000 := (Nat.log2_lt (by omega)).mpr (Nat.lt_of_lt_of_le (by omega : m.natAbs < 2 ^ 20) (Nat.pow_le_pow_right (by decide) (by decide)))
    have c1 : CDivW a m := ⟨hm0, lg⟩
    have c2 : ∀ x : Int, CMul x 48271 := fun x => .inr ⟨by decide, by decide⟩
    have c3 : ∀ x : Int, CDivW x 64 := fun x => ⟨by decide, by decide⟩
    have c4 : ∀ x : Int, CMul (x % 2147483647) (x % 2147483647) := fun x => .inl ⟨by have := Int.emod_nonneg x (by decide : (2147483647 : Int) ≠ 0); omega, by have := Int.emod_lt_of_pos x (by decide : (0 : Int) < 2147483647); omega⟩
    simp (maxSteps := 4000000) only [v_obL hp, hp, i0, i1, hv, hs, c1, c2, c3, c4, hm0, DX.at_r0, DX.set_r0, DX.putD_nil, DX.putD_hd, DX.look_hd, DX.atI_nat, DX.at0, DX.at1, DX.at2, DX.at3, DX.eqok_int, DX.eqok_str, DX.eqok_bl, DX.deqv_int, DX.deqv_str, DX.deqv_bl, DX.uMakeM, DX.uMakeF, DX.uMakeSF, DX.uProp, DX.uGName, DX.uGNil, DX.uGCons, DX.uGTup, DX.uGSet, DX.uAsg, DX.uDrop, DX.uRet, DX.uRetN, DX.uNext, DX.uBreak, DX.uCont, DX.uNever, DX.uSeq, DX.uIfS, DX.uCut, DX.uAug, DX.uSetF, DX.uISeq, DX.uIRng1, DX.uIRng2, DX.uFor, DX.uWhile, DX.uLc, DX.uYes, DX.uRaise, DX.uTry, DX.uXf, DX.uIsX, DX.uGet, DX.uGSetO, DX.uSMeth, DX.uIEnum, DX.uIZip, DX.uGUn, DX.uPar, DX.uVar, DX.uC, DX.uNil, DX.uCons, DX.uTup, DX.uLst, DX.uLstM, DX.uOp, DX.dI, DX.dIC, DX.dEq, DX.dNe, DX.dAdd, DX.uUn, DX.uIsN, DX.dTru, DX.uTru, DX.uTest, DX.uAndB, DX.uOrB, DX.uNotB, DX.uAnd, DX.uOr, DX.uNot, DX.uIf, DX.uChain, DX.dIx, DX.uNoPart, DX.uPart, DX.uSl, DX.dIn, DX.uFld, DX.uCB, DX.one, DX.dLen, DX.dIsB, DX.uIs, DX.dIsO, DX.dInt, DX.dList, DX.dTuple, DX.uBM, DX.dAppend, DX.dExtend, DX.dIndex, DX.uM1, DX.uCall, DX.uMeth, DX.dTwo, DX.dRep, DX.dLenO, DX.dCmpO, DX.dNeO, DX.dInO, DX.dMakeM, DX.dMakeF, DX.isC, DX.insAt, List.getElem?_cons_zero, List.getElem?_cons_succ, List.getElem?_nil, List.set_cons_zero, List.set_cons_succ, List.length_cons, List.length_nil, DX.wipeD, DX.tyIs, DX.v_non, DX.vT_non, DX.ty_non, DX.v_bl, DX.vT_bl, DX.ty_bl, DX.v_int, DX.vT_int, DX.ty_int, DX.v_str, DX.vT_str, DX.ty_str, DX.v_byt, DX.vT_byt, DX.ty_byt, DX.v_lst, DX.vT_lst, DX.ty_lst, DX.v_tup, DX.vT_tup, DX.ty_tup, DX.v_kt, DX.vT_kt, DX.ty_kt, DX.v_kl, DX.vT_kl, DX.ty_kl, DX.v_ins, DX.vT_ins, DX.ty_ins, DX.v_val, DX.vT_val, DX.ty_val, if_true, if_false, Bool.false_eq_true, reduceIte, Bool.not_true, Bool.not_false, true_and, and_true, List.isEmpty_cons, List.isEmpty_nil, Nat.reduceAdd]
    by_cases ha : 0 < a
    · rw [if_pos (decide_eq_true ha)]
      exact .inl (q _ _ _ (Int.emod_nonneg _ (by omega)) (Int.emod_lt_of_pos _ hm0) hb)
    · rw [if_neg (by simpa using ha)]
      exact ⟨by decide, by decide, .inl (q _ _ _ (Int.emod_nonneg _ (by omega)) (Int.emod_lt_of_pos _ hm0) pool_ok)⟩
  · exact h.elim

end
end Toy
set_option Elab.async false
set_option linter.all false
set_option maxRecDepth 100000
set_option maxHeartbeats 4000000
namespace Toy
open PySem PySem.Spec PyProof.Rows L2 DX
section
variable {P : Program} {w : World} {K : PySem.W.Frag} {mg : Str → Option Value} {base : Heap}
def mkD (W : Wd P w K mg base) (bs : List Bool) : D := .ins W.C_Marks [("_flags", .lst (bs.map .bl))]
/-- the pool at p, what was made since behind it -/
def pm (μ : Mem) (p : Nat) (a b : Int) (l : Mem) : Mem := μ.set p (pl a b) ++ l
theorem pm_0 {μ : Mem} {p : Nat} {a b : Int} (h : μ[p]? = some (pl a b)) : μ = pm μ p a b [] := by
  unfold pm
  rw [List.append_nil]
  refine List.ext_getElem? fun i => ?_
  by_cases e : p = i
  · subst e; rw [List.getElem?_set_self (lt_of_at h), h]
  · rw [List.getElem?_set_ne e]
theorem pm_len {μ : Mem} {p : Nat} {a b : Int} {l : Mem} : (pm μ p a b l).length = μ.length + l.length := by unfold pm; simp
theorem pm_p {μ : Mem} {p : Nat} {a b : Int} {l : Mem} (h : p < μ.length) : (pm μ p a b l)[p]? = some (pl a b) := by
  unfold pm; rw [at_l (by rw [List.length_set]; exact h), List.getElem?_set_self h]
theorem pm_sp {μ : Mem} {p : Nat} {a b a' b' : Int} {l : Mem} (h : p < μ.length) : (pm μ p a b l).set p (pl a' b') = pm μ p a' b' l := by
  unfold pm; rw [set_l (by rw [List.length_set]; exact h), List.set_set]
theorem pm_n {μ : Mem} {p : Nat} {a b : Int} {l : Mem} (i : Nat) : (pm μ p a b l)[μ.length + i]? = l[i]? := at_rn (by rw [List.length_set]) i
theorem pm_n0 {μ : Mem} {p : Nat} {a b : Int} {l : Mem} : (pm μ p a b l)[μ.length]? = l[0]? := pm_n 0
theorem pm_sn {μ : Mem} {p : Nat} {a b : Int} {l : Mem} (i : Nat) {x : DX.M} : (pm μ p a b l).set (μ.length + i) x = pm μ p a b (l.set i x) := set_rn (by rw [List.length_set]) i
theorem pm_sn0 {μ : Mem} {p : Nat} {a b : Int} {l : Mem} {x : DX.M} : (pm μ p a b l).set μ.length x = pm μ p a b (l.set 0 x) := pm_sn 0
theorem pm_app {μ : Mem} {p : Nat} {a b : Int} {l m : Mem} : pm μ p a b l ++ m = pm μ p a b (l ++ m) := List.append_assoc _ _ _
theorem pm_stays {μ : Mem} {p : Nat} {a b : Int} {l : Mem} : stays μ.length μ (pm μ p a b l) := by
  refine ⟨by rw [pm_len]; omega, fun k m hk hm => ?_⟩
  unfold pm at hm
  rw [at_l (by rw [List.length_set]; exact hk)] at hm
  by_cases e : p = k
  · subst e
    rw [List.getElem?_set_self hk] at hm
    cases hm
    exact .inr rfl
  · rw [List.getElem?_set_ne e] at hm
    exact .inl hm
/-- a draw -/
theorem take_ok (W : Wd P w K mg base) {μ : Mem} {p : Nat} {a b m : Int} {l : Mem} {Q : D → Mem → Prop} {E : Addr → List (Str × D) → Mem → Prop} (h : p < μ.length) (hb : PoolOk b) (h0 : 0 < m) (h1 : m < 1000000)
    (q : ∀ (d : Nat) a' b', (d : Int) < m → PoolOk b' → Q (.int d) (pm μ p a' b' l)) : S_law_take W [.ob p, .int m] (pm μ p a b l) Q E :=
  ⟨a, b, pm_p h, hb, h0, h1, fun d a' b' d0 d1 hb' => by
    rw [pm_sp h]
    obtain ⟨n, rfl⟩ := Int.eq_ofNat_of_zero_le d0
    exact q n a' b' d1 hb'⟩

def S_law_deeds (W : Wd P w K mg base) : DSp := fun ds μ Q E => match ds with
  | [.ob p] => ∃ a b, μ[p]? = some (pl a b) ∧ PoolOk b ∧ ∀ (bs : List Bool) (ps : List (Bool × Nat)) a' b', 1 ≤ bs.length → bs.length ≤ 6 → ps.length ≤ 40 → (∀ x ∈ ps, x.2 < bs.length) → PoolOk b' → Q (.lst [.lst (ps.map dd), mkD W bs, .lst (bs.map .bl)]) (μ.set p (pl a' b'))
  | _ => False

theorem ok_law_deeds (W : Wd P w K mg base) : FnD P w K mg base 6 W.f_law_deeds (S_law_deeds W) := by
  refine (okB W.t_law_deeds.d sc_law_deeds (by (intro ds μ Q E h; unfold S_law_deeds at h; split at h <;> first | rfl | exact h.elim)) _ (fun cdv A outer s H E' g hr => ⟨_, (b_cons (s_set 1 sc_law_deeds.nd (d_op (op_addA rfl) sim_add d_int (d_call (ok_law_take W) W.t_law_take.a W.t_law_take.d.kp g (hr.mono (by decide)) (takes_of rfl rfl rfl rfl) (a_cons (d_var 0) (a_cons d_int a_nil)))))
      (b_cons (s_set 2 sc_law_deeds.nd (d_makeM W.mk_Marks (ok_Marks_init W) W.c_Marks.a g hr (takes_of rfl rfl rfl rfl) (a_cons (d_var 1) a_nil)))
      (b_cons (s_set 3 sc_law_deeds.nd (d_lstM a_nil))
      (b_cons (s_for (passes_of rfl) (i_rng1 W.z_range (a_cons (d_var 1) a_nil)) (g_name 4 sc_law_deeds.nd)
      (b_cons (s_asg (d_cmp (op_eqA hr.units rfl) sim_eq (d_call (ok_law_take W) W.t_law_take.a W.t_law_take.d.kp g (hr.mono (by decide)) (takes_of rfl rfl rfl rfl) (a_cons (d_var 0) (a_cons d_int a_nil))) d_int (nomark _)) (g_setO W.si_Marks (ok_Marks_setitem W) g (hr.mono (by decide)) (takes_of rfl rfl rfl rfl) (d_var 2) (d_var 4)))
      (b_one (s_expr (d_bm PySem.F.slot_list_append PySem.F.type_list_append mt_append sim_append (d_var 3) (a_cons (d_getO W.gi_Marks (ok_Marks_getitem W) g hr (takes_of rfl rfl rfl rfl) (d_var 2) (d_var 4)) a_nil))))))
      (b_cons (s_set 5 sc_law_deeds.nd (d_lstM a_nil))
      (b_cons (s_for (passes_of rfl) (i_rng1 W.z_range (a_cons (d_call (ok_law_take W) W.t_law_take.a W.t_law_take.d.kp g (hr.mono (by decide)) (takes_of rfl rfl rfl rfl) (a_cons (d_var 0) (a_cons d_int a_nil))) a_nil)) (g_name 6 sc_law_deeds.nd)
      (b_one (s_expr (d_bm PySem.F.slot_list_append PySem.F.type_list_append mt_append sim_append (d_var 5) (a_cons (d_tup (a_cons (d_ix (d_lst (a_cons d_str (a_cons d_str (a_cons d_str a_nil)))) (d_call (ok_law_take W) W.t_law_take.a W.t_law_take.d.kp g (hr.mono (by decide)) (takes_of rfl rfl rfl rfl) (a_cons (d_var 0) (a_cons d_int a_nil)))) (a_cons (d_call (ok_law_take W) W.t_law_take.a W.t_law_take.d.kp g (hr.mono (by decide)) (takes_of rfl rfl rfl rfl) (a_cons (d_var 0) (a_cons (d_var 1) a_nil))) a_nil))) a_nil)))))
      (b_one (s_ret (d_lst (a_cons (d_var 5) (a_cons (d_var 2) (a_cons (d_var 3) a_nil))))))))))))⟩) (fun ds μ Q E h => ?_)).fn0 W.t_law_deeds.b
  unfold S_law_deeds at h
  split at h
  · rename_i p
    obtain ⟨a, b, hp, hb, q⟩ := h
    rw [show startD ["pool", "many", "marks", "kept", "page", "deeds", "k"] [.ob p] = [some (.ob p), none, none, none, none, none, none] from rfl]
    have lt := lt_of_at hp
    simp (maxSteps := 4000000) only [pm_app, List.nil_append, DX.at_r0, DX.set_r0, DX.putD_nil, DX.putD_hd, DX.look_hd, DX.atI_nat, DX.at0, DX.at1, DX.at2, DX.at3, DX.eqok_int, DX.eqok_str, DX.eqok_bl, DX.deqv_int, DX.deqv_str, DX.deqv_bl, DX.uMakeM, DX.uMakeF, DX.uMakeSF, DX.uProp, DX.uGName, DX.uGNil, DX.uGCons, DX.uGTup, DX.uGSet, DX.uAsg, DX.uDrop, DX.uRet, DX.uRetN, DX.uNext, DX.uBreak, DX.uCont, DX.uNever, DX.uSeq, DX.uIfS, DX.uCut, DX.uAug, DX.uSetF, DX.uISeq, DX.uIRng1, DX.uIRng2, DX.uFor, DX.uWhile, DX.uLc, DX.uYes, DX.uRaise, DX.uTry, DX.uXf, DX.uIsX, DX.uGet, DX.uGSetO, DX.uSMeth, DX.uIEnum, DX.uIZip, DX.uGUn, DX.uPar, DX.uVar, DX.uC, DX.uNil, DX.uCons, DX.uTup, DX.uLst, DX.uLstM, DX.uOp, DX.dI, DX.dIC, DX.dEq, DX.dNe, DX.dAdd, DX.uUn, DX.uIsN, DX.dTru, DX.uTru, DX.uTest, DX.uAndB, DX.uOrB, DX.uNotB, DX.uAnd, DX.uOr, DX.uNot, DX.uIf, DX.uChain, DX.dIx, DX.uNoPart, DX.uPart, DX.uSl, DX.dIn, DX.uFld, DX.uCB, DX.one, DX.dLen, DX.dIsB, DX.uIs, DX.dIsO, DX.dInt, DX.dList, DX.dTuple, DX.uBM, DX.dAppend, DX.dExtend, DX.dIndex, DX.uM1, DX.uCall, DX.uMeth, DX.dTwo, DX.dRep, DX.dLenO, DX.dCmpO, DX.dNeO, DX.dInO, DX.dMakeM, DX.dMakeF, DX.isC, DX.insAt, List.getElem?_cons_zero, List.getElem?_cons_succ, List.getElem?_nil, List.set_cons_zero, List.set_cons_succ, List.length_cons, List.length_nil, DX.wipeD, DX.tyIs, DX.v_non, DX.vT_non, DX.ty_non, DX.v_bl, DX.vT_bl, DX.ty_bl, DX.v_int, DX.vT_int, DX.ty_int, DX.v_str, DX.vT_str, DX.ty_str, DX.v_byt, DX.vT_byt, DX.ty_byt, DX.v_lst, DX.vT_lst, DX.ty_lst, DX.v_tup, DX.vT_tup, DX.ty_tup, DX.v_kt, DX.vT_kt, DX.ty_kt, DX.v_kl, DX.vT_kl, DX.ty_kl, DX.v_ins, DX.vT_ins, DX.ty_ins, DX.v_val, DX.vT_val, DX.ty_val, if_true, if_false, Bool.false_eq_true, reduceIte, Bool.not_true, Bool.not_false, true_and, and_true, List.isEmpty_cons, List.isEmpty_nil, Nat.reduceAdd]
    rw [congrArg (S_law_take W [.ob p, .int 6]) (pm_0 hp)]
    refine take_ok W lt hb (by decide) (by decide) fun d a b hd hb => ?_
    simp (maxSteps := 4000000) only [S_Marks_init, pm_app, pm_len, pm_n0, pm_n, pm_sn0, pm_sn, Nat.add_zero, List.nil_append, List.cons_append, DX.at_r0, DX.set_r0, DX.putD_nil, DX.putD_hd, DX.look_hd, DX.atI_nat, DX.at0, DX.at1, DX.at2, DX.at3, DX.eqok_int, DX.eqok_str, DX.eqok_bl, DX.deqv_int, DX.deqv_str, DX.deqv_bl, DX.uMakeM, DX.uMakeF, DX.uMakeSF, DX.uProp, DX.uGName, DX.uGNil, DX.uGCons, DX.uGTup, DX.uGSet, DX.uAsg, DX.uDrop, DX.uRet, DX.uRetN, DX.uNext, DX.uBreak, DX.uCont, DX.uNever, DX.uSeq, DX.uIfS, DX.uCut, DX.uAug, DX.uSetF, DX.uISeq, DX.uIRng1, DX.uIRng2, DX.uFor, DX.uWhile, DX.uLc, DX.uYes, DX.uRaise, DX.uTry, DX.uXf, DX.uIsX, DX.uGet, DX.uGSetO, DX.uSMeth, DX.uIEnum, DX.uIZip, DX.uGUn, DX.uPar, DX.uVar, DX.uC, DX.uNil, DX.uCons, DX.uTup, DX.uLst, DX.uLstM, DX.uOp, DX.dI, DX.dIC, DX.dEq, DX.dNe, DX.dAdd, DX.uUn, DX.uIsN, DX.dTru, DX.uTru, DX.uTest, DX.uAndB, DX.uOrB, DX.uNotB, DX.uAnd, DX.uOr, DX.uNot, DX.uIf, DX.uChain, DX.dIx, DX.uNoPart, DX.uPart, DX.uSl, DX.dIn, DX.uFld, DX.uCB, DX.one, DX.dLen, DX.dIsB, DX.uIs, DX.dIsO, DX.dInt, DX.dList, DX.dTuple, DX.uBM, DX.dAppend, DX.dExtend, DX.dIndex, DX.uM1, DX.uCall, DX.uMeth, DX.dTwo, DX.dRep, DX.dLenO, DX.dCmpO, DX.dNeO, DX.dInO, DX.dMakeM, DX.dMakeF, DX.isC, DX.insAt, List.getElem?_cons_zero, List.getElem?_cons_succ, List.getElem?_nil, List.set_cons_zero, List.set_cons_succ, List.length_cons, List.length_nil, DX.wipeD, DX.tyIs, DX.v_non, DX.vT_non, DX.ty_non, DX.v_bl, DX.vT_bl, DX.ty_bl, DX.v_int, DX.vT_int, DX.ty_int, DX.v_str, DX.vT_str, DX.ty_str, DX.v_byt, DX.vT_byt, DX.ty_byt, DX.v_lst, DX.vT_lst, DX.ty_lst, DX.v_tup, DX.vT_tup, DX.ty_tup, DX.v_kt, DX.vT_kt, DX.ty_kt, DX.v_kl, DX.vT_kl, DX.ty_kl, DX.v_ins, DX.vT_ins, DX.ty_ins, DX.v_val, DX.vT_val, DX.ty_val, if_true, if_false, Bool.false_eq_true, reduceIte, Bool.not_true, Bool.not_false, true_and, and_true, List.isEmpty_cons, List.isEmpty_nil, Nat.reduceAdd]
    refine .inr ⟨1 + d, rfl, by omega, by omega, by decide, ⟨by omega, by omega⟩, ?_⟩
    refine for_map (fun n ρ μ1 => ∃ (a b : Int) (fl : List Bool) (o4 : Option D), PoolOk b ∧ fl.length = 1 + d ∧ μ1 = pm μ p a b [.ins W.C_Marks [("_flags", .ob (μ.length + 1))], .lst (fl.map .bl), .lst ((fl.take n).map .bl)] ∧ ρ = [some (.ob p), some (.int (1 + d)), some (.ob μ.length), some (.ob (μ.length + 2)), o4, none, none])
      ⟨a, b, List.replicate (1 + d) false, none, hb, by simp, by simp, rfl⟩ (fun _ _ _ _ => True.intro) ?_ ?_
    · rintro ρ μ1 ⟨a, b, fl, o4, hb, hfl, rfl, rfl⟩
      rw [dints_len, show (1 + (d : Int)).toNat = fl.length by omega, List.take_length]
      simp (maxSteps := 4000000) only [pm_app, pm_len, List.cons_append, List.nil_append, DX.at_r0, DX.set_r0, DX.putD_nil, DX.putD_hd, DX.look_hd, DX.atI_nat, DX.at0, DX.at1, DX.at2, DX.at3, DX.eqok_int, DX.eqok_str, DX.eqok_bl, DX.deqv_int, DX.deqv_str, DX.deqv_bl, DX.uMakeM, DX.uMakeF, DX.uMakeSF, DX.uProp, DX.uGName, DX.uGNil, DX.uGCons, DX.uGTup, DX.uGSet, DX.uAsg, DX.uDrop, DX.uRet, DX.uRetN, DX.uNext, DX.uBreak, DX.uCont, DX.uNever, DX.uSeq, DX.uIfS, DX.uCut, DX.uAug, DX.uSetF, DX.uISeq, DX.uIRng1, DX.uIRng2, DX.uFor, DX.uWhile, DX.uLc, DX.uYes, DX.uRaise, DX.uTry, DX.uXf, DX.uIsX, DX.uGet, DX.uGSetO, DX.uSMeth, DX.uIEnum, DX.uIZip, DX.uGUn, DX.uPar, DX.uVar, DX.uC, DX.uNil, DX.uCons, DX.uTup, DX.uLst, DX.uLstM, DX.uOp, DX.dI, DX.dIC, DX.dEq, DX.dNe, DX.dAdd, DX.uUn, DX.uIsN, DX.dTru, DX.uTru, DX.uTest, DX.uAndB, DX.uOrB, DX.uNotB, DX.uAnd, DX.uOr, DX.uNot, DX.uIf, DX.uChain, DX.dIx, DX.uNoPart, DX.uPart, DX.uSl, DX.dIn, DX.uFld, DX.uCB, DX.one, DX.dLen, DX.dIsB, DX.uIs, DX.dIsO, DX.dInt, DX.dList, DX.dTuple, DX.uBM, DX.dAppend, DX.dExtend, DX.dIndex, DX.uM1, DX.uCall, DX.uMeth, DX.dTwo, DX.dRep, DX.dLenO, DX.dCmpO, DX.dNeO, DX.dInO, DX.dMakeM, DX.dMakeF, DX.isC, DX.insAt, List.getElem?_cons_zero, List.getElem?_cons_succ, List.getElem?_nil, List.set_cons_zero, List.set_cons_succ, List.length_cons, List.length_nil, DX.wipeD, DX.tyIs, DX.v_non, DX.vT_non, DX.ty_non, DX.v_bl, DX.vT_bl, DX.ty_bl, DX.v_int, DX.vT_int, DX.ty_int, DX.v_str, DX.vT_str, DX.ty_str, DX.v_byt, DX.vT_byt, DX.ty_byt, DX.v_lst, DX.vT_lst, DX.ty_lst, DX.v_tup, DX.vT_tup, DX.ty_tup, DX.v_kt, DX.vT_kt, DX.ty_kt, DX.v_kl, DX.vT_kl, DX.ty_kl, DX.v_ins, DX.vT_ins, DX.ty_ins, DX.v_val, DX.vT_val, DX.ty_val, if_true, if_false, Bool.false_eq_true, reduceIte, Bool.not_true, Bool.not_false, true_and, and_true, List.isEmpty_cons, List.isEmpty_nil, Nat.reduceAdd]
      refine ⟨by decide, take_ok W lt hb (by decide) (by decide) fun cnt a b hcnt hb => ?_⟩
      refine ⟨⟨by omega, by omega⟩, ?_⟩
      refine for_map (fun n ρ μ1 => ∃ (a b : Int) (ps : List (Bool × Nat)) (o6 : Option D), PoolOk b ∧ ps.length = n ∧ n ≤ 40 ∧ (∀ x ∈ ps, x.2 < fl.length) ∧ μ1 = pm μ p a b [.ins W.C_Marks [("_flags", .ob (μ.length + 1))], .lst (fl.map .bl), .lst (fl.map .bl), .lst (ps.map dd)] ∧ ρ = [some (.ob p), some (.int (1 + d)), some (.ob μ.length), some (.ob (μ.length + 2)), o4, some (.ob (μ.length + 3)), o6])
        ⟨a, b, [], none, hb, rfl, Nat.zero_le _, (fun x hx => nomatch hx), rfl, rfl⟩ (fun _ _ _ _ => True.intro) ?_ ?_
      · rintro ρ μ1 ⟨a, b, ps, o6, hb, hps, h40, hall, rfl, rfl⟩
        simp (maxSteps := 4000000) only [DX.at_r0, DX.set_r0, DX.putD_nil, DX.putD_hd, DX.look_hd, DX.atI_nat, DX.at0, DX.at1, DX.at2, DX.at3, DX.eqok_int, DX.eqok_str, DX.eqok_bl, DX.deqv_int, DX.deqv_str, DX.deqv_bl, DX.uMakeM, DX.uMakeF, DX.uMakeSF, DX.uProp, DX.uGName, DX.uGNil, DX.uGCons, DX.uGTup, DX.uGSet, DX.uAsg, DX.uDrop, DX.uRet, DX.uRetN, DX.uNext, DX.uBreak, DX.uCont, DX.uNever, DX.uSeq, DX.uIfS, DX.uCut, DX.uAug, DX.uSetF, DX.uISeq, DX.uIRng1, DX.uIRng2, DX.uFor, DX.uWhile, DX.uLc, DX.uYes, DX.uRaise, DX.uTry, DX.uXf, DX.uIsX, DX.uGet, DX.uGSetO, DX.uSMeth, DX.uIEnum, DX.uIZip, DX.uGUn, DX.uPar, DX.uVar, DX.uC, DX.uNil, DX.uCons, DX.uTup, DX.uLst, DX.uLstM, DX.uOp, DX.dI, DX.dIC, DX.dEq, DX.dNe, DX.dAdd, DX.uUn, DX.uIsN, DX.dTru, DX.uTru, DX.uTest, DX.uAndB, DX.uOrB, DX.uNotB, DX.uAnd, DX.uOr, DX.uNot, DX.uIf, DX.uChain, DX.dIx, DX.uNoPart, DX.uPart, DX.uSl, DX.dIn, DX.uFld, DX.uCB, DX.one, DX.dLen, DX.dIsB, DX.uIs, DX.dIsO, DX.dInt, DX.dList, DX.dTuple, DX.uBM, DX.dAppend, DX.dExtend, DX.dIndex, DX.uM1, DX.uCall, DX.uMeth, DX.dTwo, DX.dRep, DX.dLenO, DX.dCmpO, DX.dNeO, DX.dInO, DX.dMakeM, DX.dMakeF, DX.isC, DX.insAt, List.getElem?_cons_zero, List.getElem?_cons_succ, List.getElem?_nil, List.set_cons_zero, List.set_cons_succ, List.length_cons, List.length_nil, DX.wipeD, DX.tyIs, DX.v_non, DX.vT_non, DX.ty_non, DX.v_bl, DX.vT_bl, DX.ty_bl, DX.v_int, DX.vT_int, DX.ty_int, DX.v_str, DX.vT_str, DX.ty_str, DX.v_byt, DX.vT_byt, DX.ty_byt, DX.v_lst, DX.vT_lst, DX.ty_lst, DX.v_tup, DX.vT_tup, DX.ty_tup, DX.v_kt, DX.vT_kt, DX.ty_kt, DX.v_kl, DX.vT_kl, DX.ty_kl, DX.v_ins, DX.vT_ins, DX.ty_ins, DX.v_val, DX.vT_val, DX.ty_val, if_true, if_false, Bool.false_eq_true, reduceIte, Bool.not_true, Bool.not_false, true_and, and_true, List.isEmpty_cons, List.isEmpty_nil, Nat.reduceAdd]
        have m1 : (ps.map dd).map (fz (pm μ p a b [.ins W.C_Marks [("_flags", .ob (μ.length + 1))], .lst (fl.map .bl), .lst (fl.map .bl), .lst (ps.map dd)]) μ.length 4) = ps.map dd := by
          rw [List.map_map]; exact List.map_congr_left fun x _ => rfl
        have m2 : ∀ f, (fl.map D.bl).map (fz (pm μ p a b [.ins W.C_Marks [("_flags", .ob (μ.length + 1))], .lst (fl.map .bl), .lst (fl.map .bl), .lst (ps.map dd)]) μ.length f) = fl.map .bl := fun f => by
          rw [List.map_map]; exact List.map_congr_left fun x _ => fz_bl f
        have e : fz (pm μ p a b [.ins W.C_Marks [("_flags", .ob (μ.length + 1))], .lst (fl.map .bl), .lst (fl.map .bl), .lst (ps.map dd)]) μ.length 6 (.lst [.ob (μ.length + 3), .ob μ.length, .ob (μ.length + 2)]) = .lst [.lst (ps.map dd), mkD W fl, .lst (fl.map .bl)] := by
          rw [fz_lst]
          simp only [List.map_cons, List.map_nil]
          rw [fz_obL (by omega) (pm_n 3), fz_obI (by omega) pm_n0, fz_obL (by omega) (pm_n 2), m1, m2]
          simp only [List.map_cons, List.map_nil]
          rw [fz_obL (by omega) (pm_n 1), m2]
          rfl
        refine ⟨by decide, .inr ⟨pm_stays, ?_, ?_⟩⟩
        · rw [e]
          have c1 : cldL μ.length (ps.map dd) = true := cldL_all fun x hx => by
            obtain ⟨y, _, rfl⟩ := List.mem_map.mp hx
            rfl
          simp [cld, cldL, cldF, mkD, c1, cldL_bl]
        · rw [e, show (pm μ p a b [.ins W.C_Marks [("_flags", .ob (μ.length + 1))], .lst (fl.map .bl), .lst (fl.map .bl), .lst (ps.map dd)]).take μ.length = μ.set p (pl a b) from take_n (by rw [List.length_set])]
          exact q fl ps a b (by omega) (by omega) (by omega) hall hb
      · rintro n e ρ μ1 go he ⟨a, b, ps, o6, hb, hps, h40, hall, rfl, rfl⟩ k
        have hn := lt_of_at he
        rw [dints_len] at hn
        simp (maxSteps := 4000000) only [DX.at_r0, DX.set_r0, DX.putD_nil, DX.putD_hd, DX.look_hd, DX.atI_nat, DX.at0, DX.at1, DX.at2, DX.at3, DX.eqok_int, DX.eqok_str, DX.eqok_bl, DX.deqv_int, DX.deqv_str, DX.deqv_bl, DX.uMakeM, DX.uMakeF, DX.uMakeSF, DX.uProp, DX.uGName, DX.uGNil, DX.uGCons, DX.uGTup, DX.uGSet, DX.uAsg, DX.uDrop, DX.uRet, DX.uRetN, DX.uNext, DX.uBreak, DX.uCont, DX.uNever, DX.uSeq, DX.uIfS, DX.uCut, DX.uAug, DX.uSetF, DX.uISeq, DX.uIRng1, DX.uIRng2, DX.uFor, DX.uWhile, DX.uLc, DX.uYes, DX.uRaise, DX.uTry, DX.uXf, DX.uIsX, DX.uGet, DX.uGSetO, DX.uSMeth, DX.uIEnum, DX.uIZip, DX.uGUn, DX.uPar, DX.uVar, DX.uC, DX.uNil, DX.uCons, DX.uTup, DX.uLst, DX.uLstM, DX.uOp, DX.dI, DX.dIC, DX.dEq, DX.dNe, DX.dAdd, DX.uUn, DX.uIsN, DX.dTru, DX.uTru, DX.uTest, DX.uAndB, DX.uOrB, DX.uNotB, DX.uAnd, DX.uOr, DX.uNot, DX.uIf, DX.uChain, DX.dIx, DX.uNoPart, DX.uPart, DX.uSl, DX.dIn, DX.uFld, DX.uCB, DX.one, DX.dLen, DX.dIsB, DX.uIs, DX.dIsO, DX.dInt, DX.dList, DX.dTuple, DX.uBM, DX.dAppend, DX.dExtend, DX.dIndex, DX.uM1, DX.uCall, DX.uMeth, DX.dTwo, DX.dRep, DX.dLenO, DX.dCmpO, DX.dNeO, DX.dInO, DX.dMakeM, DX.dMakeF, DX.isC, DX.insAt, List.getElem?_cons_zero, List.getElem?_cons_succ, List.getElem?_nil, List.set_cons_zero, List.set_cons_succ, List.length_cons, List.length_nil, DX.wipeD, DX.tyIs, DX.v_non, DX.vT_non, DX.ty_non, DX.v_bl, DX.vT_bl, DX.ty_bl, DX.v_int, DX.vT_int, DX.ty_int, DX.v_str, DX.vT_str, DX.ty_str, DX.v_byt, DX.vT_byt, DX.ty_byt, DX.v_lst, DX.vT_lst, DX.ty_lst, DX.v_tup, DX.vT_tup, DX.ty_tup, DX.v_kt, DX.vT_kt, DX.ty_kt, DX.v_kl, DX.vT_kl, DX.ty_kl, DX.v_ins, DX.vT_ins, DX.ty_ins, DX.v_val, DX.vT_val, DX.ty_val, if_true, if_false, Bool.false_eq_true, reduceIte, Bool.not_true, Bool.not_false, true_and, and_true, List.isEmpty_cons, List.isEmpty_nil, Nat.reduceAdd]
        refine ⟨isLst_at (pm_n 3), by decide, take_ok W lt hb (by decide) (by decide) fun w a b hw hb => ?_⟩
        have hw3 : w = 0 ∨ w = 1 ∨ w = 2 := by omega
        have hz : (ps.map dd).length < sizeLine := Nat.lt_of_le_of_lt (by simp; omega : (ps.map dd).length ≤ 40) (by decide)
        have nxt : ∀ (wr : Bool) (pg : Nat) (a b : Int), (pg : Int) < 1 + d → PoolOk b → go [some (.ob p), some (.int (1 + d)), some (.ob μ.length), some (.ob (μ.length + 2)), o4, some (.ob (μ.length + 3)), some e] (pm μ p a b [.ins W.C_Marks [("_flags", .ob (μ.length + 1))], .lst (fl.map .bl), .lst (fl.map .bl), .lst (ps.map dd ++ [dd (wr, pg)])]) := fun wr pg a b hpg hb =>
          k _ _ ⟨a, b, ps ++ [(wr, pg)], _, hb, by simp [hps], by omega, fun x hx => by
            rcases List.mem_append.mp hx with hx | hx
            · exact hall x hx
            · rw [List.mem_singleton.mp hx]; show pg < fl.length; omega, by rw [List.map_append]; rfl, rfl⟩
        rcases hw3 with rfl | rfl | rfl
        · simp (maxSteps := 4000000) only [DX.at_r0, DX.set_r0, DX.putD_nil, DX.putD_hd, DX.look_hd, DX.atI_nat, DX.at0, DX.at1, DX.at2, DX.at3, DX.eqok_int, DX.eqok_str, DX.eqok_bl, DX.deqv_int, DX.deqv_str, DX.deqv_bl, DX.uMakeM, DX.uMakeF, DX.uMakeSF, DX.uProp, DX.uGName, DX.uGNil, DX.uGCons, DX.uGTup, DX.uGSet, DX.uAsg, DX.uDrop, DX.uRet, DX.uRetN, DX.uNext, DX.uBreak, DX.uCont, DX.uNever, DX.uSeq, DX.uIfS, DX.uCut, DX.uAug, DX.uSetF, DX.uISeq, DX.uIRng1, DX.uIRng2, DX.uFor, DX.uWhile, DX.uLc, DX.uYes, DX.uRaise, DX.uTry, DX.uXf, DX.uIsX, DX.uGet, DX.uGSetO, DX.uSMeth, DX.uIEnum, DX.uIZip, DX.uGUn, DX.uPar, DX.uVar, DX.uC, DX.uNil, DX.uCons, DX.uTup, DX.uLst, DX.uLstM, DX.uOp, DX.dI, DX.dIC, DX.dEq, DX.dNe, DX.dAdd, DX.uUn, DX.uIsN, DX.dTru, DX.uTru, DX.uTest, DX.uAndB, DX.uOrB, DX.uNotB, DX.uAnd, DX.uOr, DX.uNot, DX.uIf, DX.uChain, DX.dIx, DX.uNoPart, DX.uPart, DX.uSl, DX.dIn, DX.uFld, DX.uCB, DX.one, DX.dLen, DX.dIsB, DX.uIs, DX.dIsO, DX.dInt, DX.dList, DX.dTuple, DX.uBM, DX.dAppend, DX.dExtend, DX.dIndex, DX.uM1, DX.uCall, DX.uMeth, DX.dTwo, DX.dRep, DX.dLenO, DX.dCmpO, DX.dNeO, DX.dInO, DX.dMakeM, DX.dMakeF, DX.isC, DX.insAt, List.getElem?_cons_zero, List.getElem?_cons_succ, List.getElem?_nil, List.set_cons_zero, List.set_cons_succ, List.length_cons, List.length_nil, DX.wipeD, DX.tyIs, DX.v_non, DX.vT_non, DX.ty_non, DX.v_bl, DX.vT_bl, DX.ty_bl, DX.v_int, DX.vT_int, DX.ty_int, DX.v_str, DX.vT_str, DX.ty_str, DX.v_byt, DX.vT_byt, DX.ty_byt, DX.v_lst, DX.vT_lst, DX.ty_lst, DX.v_tup, DX.vT_tup, DX.ty_tup, DX.v_kt, DX.vT_kt, DX.ty_kt, DX.v_kl, DX.vT_kl, DX.ty_kl, DX.v_ins, DX.vT_ins, DX.ty_ins, DX.v_val, DX.vT_val, DX.ty_val, if_true, if_false, Bool.false_eq_true, reduceIte, Bool.not_true, Bool.not_false, true_and, and_true, List.isEmpty_cons, List.isEmpty_nil, Nat.reduceAdd]
          refine take_ok W lt hb (by omega) (by omega) fun pg a b hpg hb => ?_
          simp (maxSteps := 4000000) only [pm_n, pm_sn, DX.at_r0, DX.set_r0, DX.putD_nil, DX.putD_hd, DX.look_hd, DX.atI_nat, DX.at0, DX.at1, DX.at2, DX.at3, DX.eqok_int, DX.eqok_str, DX.eqok_bl, DX.deqv_int, DX.deqv_str, DX.deqv_bl, DX.uMakeM, DX.uMakeF, DX.uMakeSF, DX.uProp, DX.uGName, DX.uGNil, DX.uGCons, DX.uGTup, DX.uGSet, DX.uAsg, DX.uDrop, DX.uRet, DX.uRetN, DX.uNext, DX.uBreak, DX.uCont, DX.uNever, DX.uSeq, DX.uIfS, DX.uCut, DX.uAug, DX.uSetF, DX.uISeq, DX.uIRng1, DX.uIRng2, DX.uFor, DX.uWhile, DX.uLc, DX.uYes, DX.uRaise, DX.uTry, DX.uXf, DX.uIsX, DX.uGet, DX.uGSetO, DX.uSMeth, DX.uIEnum, DX.uIZip, DX.uGUn, DX.uPar, DX.uVar, DX.uC, DX.uNil, DX.uCons, DX.uTup, DX.uLst, DX.uLstM, DX.uOp, DX.dI, DX.dIC, DX.dEq, DX.dNe, DX.dAdd, DX.uUn, DX.uIsN, DX.dTru, DX.uTru, DX.uTest, DX.uAndB, DX.uOrB, DX.uNotB, DX.uAnd, DX.uOr, DX.uNot, DX.uIf, DX.uChain, DX.dIx, DX.uNoPart, DX.uPart, DX.uSl, DX.dIn, DX.uFld, DX.uCB, DX.one, DX.dLen, DX.dIsB, DX.uIs, DX.dIsO, DX.dInt, DX.dList, DX.dTuple, DX.uBM, DX.dAppend, DX.dExtend, DX.dIndex, DX.uM1, DX.uCall, DX.uMeth, DX.dTwo, DX.dRep, DX.dLenO, DX.dCmpO, DX.dNeO, DX.dInO, DX.dMakeM, DX.dMakeF, DX.isC, DX.insAt, List.getElem?_cons_zero, List.getElem?_cons_succ, List.getElem?_nil, List.set_cons_zero, List.set_cons_succ, List.length_cons, List.length_nil, DX.wipeD, DX.tyIs, DX.v_non, DX.vT_non, DX.ty_non, DX.v_bl, DX.vT_bl, DX.ty_bl, DX.v_int, DX.vT_int, DX.ty_int, DX.v_str, DX.vT_str, DX.ty_str, DX.v_byt, DX.vT_byt, DX.ty_byt, DX.v_lst, DX.vT_lst, DX.ty_lst, DX.v_tup, DX.vT_tup, DX.ty_tup, DX.v_kt, DX.vT_kt, DX.ty_kt, DX.v_kl, DX.vT_kl, DX.ty_kl, DX.v_ins, DX.vT_ins, DX.ty_ins, DX.v_val, DX.vT_val, DX.ty_val, if_true, if_false, Bool.false_eq_true, reduceIte, Bool.not_true, Bool.not_false, true_and, and_true, List.isEmpty_cons, List.isEmpty_nil, Nat.reduceAdd]
          exact ⟨by decide, hz, nxt true pg a b hpg hb⟩
        · simp (maxSteps := 4000000) only [DX.at_r0, DX.set_r0, DX.putD_nil, DX.putD_hd, DX.look_hd, DX.atI_nat, DX.at0, DX.at1, DX.at2, DX.at3, DX.eqok_int, DX.eqok_str, DX.eqok_bl, DX.deqv_int, DX.deqv_str, DX.deqv_bl, DX.uMakeM, DX.uMakeF, DX.uMakeSF, DX.uProp, DX.uGName, DX.uGNil, DX.uGCons, DX.uGTup, DX.uGSet, DX.uAsg, DX.uDrop, DX.uRet, DX.uRetN, DX.uNext, DX.uBreak, DX.uCont, DX.uNever, DX.uSeq, DX.uIfS, DX.uCut, DX.uAug, DX.uSetF, DX.uISeq, DX.uIRng1, DX.uIRng2, DX.uFor, DX.uWhile, DX.uLc, DX.uYes, DX.uRaise, DX.uTry, DX.uXf, DX.uIsX, DX.uGet, DX.uGSetO, DX.uSMeth, DX.uIEnum, DX.uIZip, DX.uGUn, DX.uPar, DX.uVar, DX.uC, DX.uNil, DX.uCons, DX.uTup, DX.uLst, DX.uLstM, DX.uOp, DX.dI, DX.dIC, DX.dEq, DX.dNe, DX.dAdd, DX.uUn, DX.uIsN, DX.dTru, DX.uTru, DX.uTest, DX.uAndB, DX.uOrB, DX.uNotB, DX.uAnd, DX.uOr, DX.uNot, DX.uIf, DX.uChain, DX.dIx, DX.uNoPart, DX.uPart, DX.uSl, DX.dIn, DX.uFld, DX.uCB, DX.one, DX.dLen, DX.dIsB, DX.uIs, DX.dIsO, DX.dInt, DX.dList, DX.dTuple, DX.uBM, DX.dAppend, DX.dExtend, DX.dIndex, DX.uM1, DX.uCall, DX.uMeth, DX.dTwo, DX.dRep, DX.dLenO, DX.dCmpO, DX.dNeO, DX.dInO, DX.dMakeM, DX.dMakeF, DX.isC, DX.insAt, List.getElem?_cons_zero, List.getElem?_cons_succ, List.getElem?_nil, List.set_cons_zero, List.set_cons_succ, List.length_cons, List.length_nil, DX.wipeD, DX.tyIs, DX.v_non, DX.vT_non, DX.ty_non, DX.v_bl, DX.vT_bl, DX.ty_bl, DX.v_int, DX.vT_int, DX.ty_int, DX.v_str, DX.vT_str, DX.ty_str, DX.v_byt, DX.vT_byt, DX.ty_byt, DX.v_lst, DX.vT_lst, DX.ty_lst, DX.v_tup, DX.vT_tup, DX.ty_tup, DX.v_kt, DX.vT_kt, DX.ty_kt, DX.v_kl, DX.vT_kl, DX.ty_kl, DX.v_ins, DX.vT_ins, DX.ty_ins, DX.v_val, DX.vT_val, DX.ty_val, if_true, if_false, Bool.false_eq_true, reduceIte, Bool.not_true, Bool.not_false, true_and, and_true, List.isEmpty_cons, List.isEmpty_nil, Nat.reduceAdd]
          refine take_ok W lt hb (by omega) (by omega) fun pg a b hpg hb => ?_
          simp (maxSteps := 4000000) only [pm_n, pm_sn, DX.at_r0, DX.set_r0, DX.putD_nil, DX.putD_hd, DX.look_hd, DX.atI_nat, DX.at0, DX.at1, DX.at2, DX.at3, DX.eqok_int, DX.eqok_str, DX.eqok_bl, DX.deqv_int, DX.deqv_str, DX.deqv_bl, DX.uMakeM, DX.uMakeF, DX.uMakeSF, DX.uProp, DX.uGName, DX.uGNil, DX.uGCons, DX.uGTup, DX.uGSet, DX.uAsg, DX.uDrop, DX.uRet, DX.uRetN, DX.uNext, DX.uBreak, DX.uCont, DX.uNever, DX.uSeq, DX.uIfS, DX.uCut, DX.uAug, DX.uSetF, DX.uISeq, DX.uIRng1, DX.uIRng2, DX.uFor, DX.uWhile, DX.uLc, DX.uYes, DX.uRaise, DX.uTry, DX.uXf, DX.uIsX, DX.uGet, DX.uGSetO, DX.uSMeth, DX.uIEnum, DX.uIZip, DX.uGUn, DX.uPar, DX.uVar, DX.uC, DX.uNil, DX.uCons, DX.uTup, DX.uLst, DX.uLstM, DX.uOp, DX.dI, DX.dIC, DX.dEq, DX.dNe, DX.dAdd, DX.uUn, DX.uIsN, DX.dTru, DX.uTru, DX.uTest, DX.uAndB, DX.uOrB, DX.uNotB, DX.uAnd, DX.uOr, DX.uNot, DX.uIf, DX.uChain, DX.dIx, DX.uNoPart, DX.uPart, DX.uSl, DX.dIn, DX.uFld, DX.uCB, DX.one, DX.dLen, DX.dIsB, DX.uIs, DX.dIsO, DX.dInt, DX.dList, DX.dTuple, DX.uBM, DX.dAppend, DX.dExtend, DX.dIndex, DX.uM1, DX.uCall, DX.uMeth, DX.dTwo, DX.dRep, DX.dLenO, DX.dCmpO, DX.dNeO, DX.dInO, DX.dMakeM, DX.dMakeF, DX.isC, DX.insAt, List.getElem?_cons_zero, List.getElem?_cons_succ, List.getElem?_nil, List.set_cons_zero, List.set_cons_succ, List.length_cons, List.length_nil, DX.wipeD, DX.tyIs, DX.v_non, DX.vT_non, DX.ty_non, DX.v_bl, DX.vT_bl, DX.ty_bl, DX.v_int, DX.vT_int, DX.ty_int, DX.v_str, DX.vT_str, DX.ty_str, DX.v_byt, DX.vT_byt, DX.ty_byt, DX.v_lst, DX.vT_lst, DX.ty_lst, DX.v_tup, DX.vT_tup, DX.ty_tup, DX.v_kt, DX.vT_kt, DX.ty_kt, DX.v_kl, DX.vT_kl, DX.ty_kl, DX.v_ins, DX.vT_ins, DX.ty_ins, DX.v_val, DX.vT_val, DX.ty_val, if_true, if_false, Bool.false_eq_true, reduceIte, Bool.not_true, Bool.not_false, true_and, and_true, List.isEmpty_cons, List.isEmpty_nil, Nat.reduceAdd]
          exact ⟨by decide, hz, nxt false pg a b hpg hb⟩
        · simp (maxSteps := 4000000) only [DX.at_r0, DX.set_r0, DX.putD_nil, DX.putD_hd, DX.look_hd, DX.atI_nat, DX.at0, DX.at1, DX.at2, DX.at3, DX.eqok_int, DX.eqok_str, DX.eqok_bl, DX.deqv_int, DX.deqv_str, DX.deqv_bl, DX.uMakeM, DX.uMakeF, DX.uMakeSF, DX.uProp, DX.uGName, DX.uGNil, DX.uGCons, DX.uGTup, DX.uGSet, DX.uAsg, DX.uDrop, DX.uRet, DX.uRetN, DX.uNext, DX.uBreak, DX.uCont, DX.uNever, DX.uSeq, DX.uIfS, DX.uCut, DX.uAug, DX.uSetF, DX.uISeq, DX.uIRng1, DX.uIRng2, DX.uFor, DX.uWhile, DX.uLc, DX.uYes, DX.uRaise, DX.uTry, DX.uXf, DX.uIsX, DX.uGet, DX.uGSetO, DX.uSMeth, DX.uIEnum, DX.uIZip, DX.uGUn, DX.uPar, DX.uVar, DX.uC, DX.uNil, DX.uCons, DX.uTup, DX.uLst, DX.uLstM, DX.uOp, DX.dI, DX.dIC, DX.dEq, DX.dNe, DX.dAdd, DX.uUn, DX.uIsN, DX.dTru, DX.uTru, DX.uTest, DX.uAndB, DX.uOrB, DX.uNotB, DX.uAnd, DX.uOr, DX.uNot, DX.uIf, DX.uChain, DX.dIx, DX.uNoPart, DX.uPart, DX.uSl, DX.dIn, DX.uFld, DX.uCB, DX.one, DX.dLen, DX.dIsB, DX.uIs, DX.dIsO, DX.dInt, DX.dList, DX.dTuple, DX.uBM, DX.dAppend, DX.dExtend, DX.dIndex, DX.uM1, DX.uCall, DX.uMeth, DX.dTwo, DX.dRep, DX.dLenO, DX.dCmpO, DX.dNeO, DX.dInO, DX.dMakeM, DX.dMakeF, DX.isC, DX.insAt, List.getElem?_cons_zero, List.getElem?_cons_succ, List.getElem?_nil, List.set_cons_zero, List.set_cons_succ, List.length_cons, List.length_nil, DX.wipeD, DX.tyIs, DX.v_non, DX.vT_non, DX.ty_non, DX.v_bl, DX.vT_bl, DX.ty_bl, DX.v_int, DX.vT_int, DX.ty_int, DX.v_str, DX.vT_str, DX.ty_str, DX.v_byt, DX.vT_byt, DX.ty_byt, DX.v_lst, DX.vT_lst, DX.ty_lst, DX.v_tup, DX.vT_tup, DX.ty_tup, DX.v_kt, DX.vT_kt, DX.ty_kt, DX.v_kl, DX.vT_kl, DX.ty_kl, DX.v_ins, DX.vT_ins, DX.ty_ins, DX.v_val, DX.vT_val, DX.ty_val, if_true, if_false, Bool.false_eq_true, reduceIte, Bool.not_true, Bool.not_false, true_and, and_true, List.isEmpty_cons, List.isEmpty_nil, Nat.reduceAdd]
          refine take_ok W lt hb (by omega) (by omega) fun pg a b hpg hb => ?_
          simp (maxSteps := 4000000) only [pm_n, pm_sn, DX.at_r0, DX.set_r0, DX.putD_nil, DX.putD_hd, DX.look_hd, DX.atI_nat, DX.at0, DX.at1, DX.at2, DX.at3, DX.eqok_int, DX.eqok_str, DX.eqok_bl, DX.deqv_int, DX.deqv_str, DX.deqv_bl, DX.uMakeM, DX.uMakeF, DX.uMakeSF, DX.uProp, DX.uGName, DX.uGNil, DX.uGCons, DX.uGTup, DX.uGSet, DX.uAsg, DX.uDrop, DX.uRet, DX.uRetN, DX.uNext, DX.uBreak, DX.uCont, DX.uNever, DX.uSeq, DX.uIfS, DX.uCut, DX.uAug, DX.uSetF, DX.uISeq, DX.uIRng1, DX.uIRng2, DX.uFor, DX.uWhile, DX.uLc, DX.uYes, DX.uRaise, DX.uTry, DX.uXf, DX.uIsX, DX.uGet, DX.uGSetO, DX.uSMeth, DX.uIEnum, DX.uIZip, DX.uGUn, DX.uPar, DX.uVar, DX.uC, DX.uNil, DX.uCons, DX.uTup, DX.uLst, DX.uLstM, DX.uOp, DX.dI, DX.dIC, DX.dEq, DX.dNe, DX.dAdd, DX.uUn, DX.uIsN, DX.dTru, DX.uTru, DX.uTest, DX.uAndB, DX.uOrB, DX.uNotB, DX.uAnd, DX.uOr, DX.uNot, DX.uIf, DX.uChain, DX.dIx, DX.uNoPart, DX.uPart, DX.uSl, DX.dIn, DX.uFld, DX.uCB, DX.one, DX.dLen, DX.dIsB, DX.uIs, DX.dIsO, DX.dInt, DX.dList, DX.dTuple, DX.uBM, DX.dAppend, DX.dExtend, DX.dIndex, DX.uM1, DX.uCall, DX.uMeth, DX.dTwo, DX.dRep, DX.dLenO, DX.dCmpO, DX.dNeO, DX.dInO, DX.dMakeM, DX.dMakeF, DX.isC, DX.insAt, List.getElem?_cons_zero, List.getElem?_cons_succ, List.getElem?_nil, List.set_cons_zero, List.set_cons_succ, List.length_cons, List.length_nil, DX.wipeD, DX.tyIs, DX.v_non, DX.vT_non, DX.ty_non, DX.v_bl, DX.vT_bl, DX.ty_bl, DX.v_int, DX.vT_int, DX.ty_int, DX.v_str, DX.vT_str, DX.ty_str, DX.v_byt, DX.vT_byt, DX.ty_byt, DX.v_lst, DX.vT_lst, DX.ty_lst, DX.v_tup, DX.vT_tup, DX.ty_tup, DX.v_kt, DX.vT_kt, DX.ty_kt, DX.v_kl, DX.vT_kl, DX.ty_kl, DX.v_ins, DX.vT_ins, DX.ty_ins, DX.v_val, DX.vT_val, DX.ty_val, if_true, if_false, Bool.false_eq_true, reduceIte, Bool.not_true, Bool.not_false, true_and, and_true, List.isEmpty_cons, List.isEmpty_nil, Nat.reduceAdd]
          exact ⟨by decide, hz, nxt false pg a b hpg hb⟩
    · rintro n e ρ μ1 go he ⟨a, b, fl, o4, hb, hfl, rfl, rfl⟩ k
      have hn := lt_of_at he
      rw [dints_len] at hn
      rw [dints_get _ _ _ hn, Int.zero_add] at he
      cases he
      simp (maxSteps := 4000000) only [DX.at_r0, DX.set_r0, DX.putD_nil, DX.putD_hd, DX.look_hd, DX.atI_nat, DX.at0, DX.at1, DX.at2, DX.at3, DX.eqok_int, DX.eqok_str, DX.eqok_bl, DX.deqv_int, DX.deqv_str, DX.deqv_bl, DX.uMakeM, DX.uMakeF, DX.uMakeSF, DX.uProp, DX.uGName, DX.uGNil, DX.uGCons, DX.uGTup, DX.uGSet, DX.uAsg, DX.uDrop, DX.uRet, DX.uRetN, DX.uNext, DX.uBreak, DX.uCont, DX.uNever, DX.uSeq, DX.uIfS, DX.uCut, DX.uAug, DX.uSetF, DX.uISeq, DX.uIRng1, DX.uIRng2, DX.uFor, DX.uWhile, DX.uLc, DX.uYes, DX.uRaise, DX.uTry, DX.uXf, DX.uIsX, DX.uGet, DX.uGSetO, DX.uSMeth, DX.uIEnum, DX.uIZip, DX.uGUn, DX.uPar, DX.uVar, DX.uC, DX.uNil, DX.uCons, DX.uTup, DX.uLst, DX.uLstM, DX.uOp, DX.dI, DX.dIC, DX.dEq, DX.dNe, DX.dAdd, DX.uUn, DX.uIsN, DX.dTru, DX.uTru, DX.uTest, DX.uAndB, DX.uOrB, DX.uNotB, DX.uAnd, DX.uOr, DX.uNot, DX.uIf, DX.uChain, DX.dIx, DX.uNoPart, DX.uPart, DX.uSl, DX.dIn, DX.uFld, DX.uCB, DX.one, DX.dLen, DX.dIsB, DX.uIs, DX.dIsO, DX.dInt, DX.dList, DX.dTuple, DX.uBM, DX.dAppend, DX.dExtend, DX.dIndex, DX.uM1, DX.uCall, DX.uMeth, DX.dTwo, DX.dRep, DX.dLenO, DX.dCmpO, DX.dNeO, DX.dInO, DX.dMakeM, DX.dMakeF, DX.isC, DX.insAt, List.getElem?_cons_zero, List.getElem?_cons_succ, List.getElem?_nil, List.set_cons_zero, List.set_cons_succ, List.length_cons, List.length_nil, DX.wipeD, DX.tyIs, DX.v_non, DX.vT_non, DX.ty_non, DX.v_bl, DX.vT_bl, DX.ty_bl, DX.v_int, DX.vT_int, DX.ty_int, DX.v_str, DX.vT_str, DX.ty_str, DX.v_byt, DX.vT_byt, DX.ty_byt, DX.v_lst, DX.vT_lst, DX.ty_lst, DX.v_tup, DX.vT_tup, DX.ty_tup, DX.v_kt, DX.vT_kt, DX.ty_kt, DX.v_kl, DX.vT_kl, DX.ty_kl, DX.v_ins, DX.vT_ins, DX.ty_ins, DX.v_val, DX.vT_val, DX.ty_val, if_true, if_false, Bool.false_eq_true, reduceIte, Bool.not_true, Bool.not_false, true_and, and_true, List.isEmpty_cons, List.isEmpty_nil, Nat.reduceAdd]
      refine take_ok W lt hb (by decide) (by decide) fun v a b hv hb => ?_
      have hn' : n < fl.length := by omega
      have g0 : ∀ l : Mem, (pm μ p a b (M.ins W.C_Marks [("_flags", .ob (μ.length + 1))] :: l))[μ.length]? = some (M.ins W.C_Marks [("_flags", .ob (μ.length + 1))]) := fun l => pm_n0
      simp (maxSteps := 4000000) only [S_Marks_setitem, S_Marks_getitem, v_obI (g0 _), DX.at_r0, DX.set_r0, DX.putD_nil, DX.putD_hd, DX.look_hd, DX.atI_nat, DX.at0, DX.at1, DX.at2, DX.at3, DX.eqok_int, DX.eqok_str, DX.eqok_bl, DX.deqv_int, DX.deqv_str, DX.deqv_bl, DX.uMakeM, DX.uMakeF, DX.uMakeSF, DX.uProp, DX.uGName, DX.uGNil, DX.uGCons, DX.uGTup, DX.uGSet, DX.uAsg, DX.uDrop, DX.uRet, DX.uRetN, DX.uNext, DX.uBreak, DX.uCont, DX.uNever, DX.uSeq, DX.uIfS, DX.uCut, DX.uAug, DX.uSetF, DX.uISeq, DX.uIRng1, DX.uIRng2, DX.uFor, DX.uWhile, DX.uLc, DX.uYes, DX.uRaise, DX.uTry, DX.uXf, DX.uIsX, DX.uGet, DX.uGSetO, DX.uSMeth, DX.uIEnum, DX.uIZip, DX.uGUn, DX.uPar, DX.uVar, DX.uC, DX.uNil, DX.uCons, DX.uTup, DX.uLst, DX.uLstM, DX.uOp, DX.dI, DX.dIC, DX.dEq, DX.dNe, DX.dAdd, DX.uUn, DX.uIsN, DX.dTru, DX.uTru, DX.uTest, DX.uAndB, DX.uOrB, DX.uNotB, DX.uAnd, DX.uOr, DX.uNot, DX.uIf, DX.uChain, DX.dIx, DX.uNoPart, DX.uPart, DX.uSl, DX.dIn, DX.uFld, DX.uCB, DX.one, DX.dLen, DX.dIsB, DX.uIs, DX.dIsO, DX.dInt, DX.dList, DX.dTuple, DX.uBM, DX.dAppend, DX.dExtend, DX.dIndex, DX.uM1, DX.uCall, DX.uMeth, DX.dTwo, DX.dRep, DX.dLenO, DX.dCmpO, DX.dNeO, DX.dInO, DX.dMakeM, DX.dMakeF, DX.isC, DX.insAt, List.getElem?_cons_zero, List.getElem?_cons_succ, List.getElem?_nil, List.set_cons_zero, List.set_cons_succ, List.length_cons, List.length_nil, DX.wipeD, DX.tyIs, DX.v_non, DX.vT_non, DX.ty_non, DX.v_bl, DX.vT_bl, DX.ty_bl, DX.v_int, DX.vT_int, DX.ty_int, DX.v_str, DX.vT_str, DX.ty_str, DX.v_byt, DX.vT_byt, DX.ty_byt, DX.v_lst, DX.vT_lst, DX.ty_lst, DX.v_tup, DX.vT_tup, DX.ty_tup, DX.v_kt, DX.vT_kt, DX.ty_kt, DX.v_kl, DX.vT_kl, DX.ty_kl, DX.v_ins, DX.vT_ins, DX.ty_ins, DX.v_val, DX.vT_val, DX.ty_val, if_true, if_false, Bool.false_eq_true, reduceIte, Bool.not_true, Bool.not_false, true_and, and_true, List.isEmpty_cons, List.isEmpty_nil, Nat.reduceAdd]
      refine ⟨_, fl, n, rfl, pm_n 1, rfl, hn', ?_⟩
      simp (maxSteps := 4000000) only [pm_sn, v_obI (g0 _), DX.at_r0, DX.set_r0, DX.putD_nil, DX.putD_hd, DX.look_hd, DX.atI_nat, DX.at0, DX.at1, DX.at2, DX.at3, DX.eqok_int, DX.eqok_str, DX.eqok_bl, DX.deqv_int, DX.deqv_str, DX.deqv_bl, DX.uMakeM, DX.uMakeF, DX.uMakeSF, DX.uProp, DX.uGName, DX.uGNil, DX.uGCons, DX.uGTup, DX.uGSet, DX.uAsg, DX.uDrop, DX.uRet, DX.uRetN, DX.uNext, DX.uBreak, DX.uCont, DX.uNever, DX.uSeq, DX.uIfS, DX.uCut, DX.uAug, DX.uSetF, DX.uISeq, DX.uIRng1, DX.uIRng2, DX.uFor, DX.uWhile, DX.uLc, DX.uYes, DX.uRaise, DX.uTry, DX.uXf, DX.uIsX, DX.uGet, DX.uGSetO, DX.uSMeth, DX.uIEnum, DX.uIZip, DX.uGUn, DX.uPar, DX.uVar, DX.uC, DX.uNil, DX.uCons, DX.uTup, DX.uLst, DX.uLstM, DX.uOp, DX.dI, DX.dIC, DX.dEq, DX.dNe, DX.dAdd, DX.uUn, DX.uIsN, DX.dTru, DX.uTru, DX.uTest, DX.uAndB, DX.uOrB, DX.uNotB, DX.uAnd, DX.uOr, DX.uNot, DX.uIf, DX.uChain, DX.dIx, DX.uNoPart, DX.uPart, DX.uSl, DX.dIn, DX.uFld, DX.uCB, DX.one, DX.dLen, DX.dIsB, DX.uIs, DX.dIsO, DX.dInt, DX.dList, DX.dTuple, DX.uBM, DX.dAppend, DX.dExtend, DX.dIndex, DX.uM1, DX.uCall, DX.uMeth, DX.dTwo, DX.dRep, DX.dLenO, DX.dCmpO, DX.dNeO, DX.dInO, DX.dMakeM, DX.dMakeF, DX.isC, DX.insAt, List.getElem?_cons_zero, List.getElem?_cons_succ, List.getElem?_nil, List.set_cons_zero, List.set_cons_succ, List.length_cons, List.length_nil, DX.wipeD, DX.tyIs, DX.v_non, DX.vT_non, DX.ty_non, DX.v_bl, DX.vT_bl, DX.ty_bl, DX.v_int, DX.vT_int, DX.ty_int, DX.v_str, DX.vT_str, DX.ty_str, DX.v_byt, DX.vT_byt, DX.ty_byt, DX.v_lst, DX.vT_lst, DX.ty_lst, DX.v_tup, DX.vT_tup, DX.ty_tup, DX.v_kt, DX.vT_kt, DX.ty_kt, DX.v_kl, DX.vT_kl, DX.ty_kl, DX.v_ins, DX.vT_ins, DX.ty_ins, DX.v_val, DX.vT_val, DX.ty_val, if_true, if_false, Bool.false_eq_true, reduceIte, Bool.not_true, Bool.not_false, true_and, and_true, List.isEmpty_cons, List.isEmpty_nil, Nat.reduceAdd]
      refine ⟨isLst_at (pm_n 2), .ob (μ.length + 1), _, n, _, ⟨v_obI (g0 _), v_obL (pm_n 1)⟩, rfl, List.getElem?_set_self hn', ?_⟩
      simp (maxSteps := 4000000) only [pm_n, pm_sn, DX.at_r0, DX.set_r0, DX.putD_nil, DX.putD_hd, DX.look_hd, DX.atI_nat, DX.at0, DX.at1, DX.at2, DX.at3, DX.eqok_int, DX.eqok_str, DX.eqok_bl, DX.deqv_int, DX.deqv_str, DX.deqv_bl, DX.uMakeM, DX.uMakeF, DX.uMakeSF, DX.uProp, DX.uGName, DX.uGNil, DX.uGCons, DX.uGTup, DX.uGSet, DX.uAsg, DX.uDrop, DX.uRet, DX.uRetN, DX.uNext, DX.uBreak, DX.uCont, DX.uNever, DX.uSeq, DX.uIfS, DX.uCut, DX.uAug, DX.uSetF, DX.uISeq, DX.uIRng1, DX.uIRng2, DX.uFor, DX.uWhile, DX.uLc, DX.uYes, DX.uRaise, DX.uTry, DX.uXf, DX.uIsX, DX.uGet, DX.uGSetO, DX.uSMeth, DX.uIEnum, DX.uIZip, DX.uGUn, DX.uPar, DX.uVar, DX.uC, DX.uNil, DX.uCons, DX.uTup, DX.uLst, DX.uLstM, DX.uOp, DX.dI, DX.dIC, DX.dEq, DX.dNe, DX.dAdd, DX.uUn, DX.uIsN, DX.dTru, DX.uTru, DX.uTest, DX.uAndB, DX.uOrB, DX.uNotB, DX.uAnd, DX.uOr, DX.uNot, DX.uIf, DX.uChain, DX.dIx, DX.uNoPart, DX.uPart, DX.uSl, DX.dIn, DX.uFld, DX.uCB, DX.one, DX.dLen, DX.dIsB, DX.uIs, DX.dIsO, DX.dInt, DX.dList, DX.dTuple, DX.uBM, DX.dAppend, DX.dExtend, DX.dIndex, DX.uM1, DX.uCall, DX.uMeth, DX.dTwo, DX.dRep, DX.dLenO, DX.dCmpO, DX.dNeO, DX.dInO, DX.dMakeM, DX.dMakeF, DX.isC, DX.insAt, List.getElem?_cons_zero, List.getElem?_cons_succ, List.getElem?_nil, List.set_cons_zero, List.set_cons_succ, List.length_cons, List.length_nil, DX.wipeD, DX.tyIs, DX.v_non, DX.vT_non, DX.ty_non, DX.v_bl, DX.vT_bl, DX.ty_bl, DX.v_int, DX.vT_int, DX.ty_int, DX.v_str, DX.vT_str, DX.ty_str, DX.v_byt, DX.vT_byt, DX.ty_byt, DX.v_lst, DX.vT_lst, DX.ty_lst, DX.v_tup, DX.vT_tup, DX.ty_tup, DX.v_kt, DX.vT_kt, DX.ty_kt, DX.v_kl, DX.vT_kl, DX.ty_kl, DX.v_ins, DX.vT_ins, DX.ty_ins, DX.v_val, DX.vT_val, DX.ty_val, if_true, if_false, Bool.false_eq_true, reduceIte, Bool.not_true, Bool.not_false, true_and, and_true, List.isEmpty_cons, List.isEmpty_nil, Nat.reduceAdd]
      refine ⟨Nat.lt_of_le_of_lt (by simp; omega : (List.map D.bl (List.take n fl)).length ≤ 7) (by decide), k _ _ ⟨a, b, fl.set n ((v : Int) == 0), _, hb, by rw [List.length_set, hfl], ?_, rfl⟩⟩
      rw [take_snoc (List.getElem?_set_self hn'), List.take_set_of_le (Nat.le_refl n), List.map_append, List.map_set]
      rfl
  · exact h.elim

end
end Toy
set_option Elab.async false
set_option linter.all false
set_option maxRecDepth 100000
set_option maxHeartbeats 4000000
namespace Toy
open PySem PySem.Spec PyProof.Rows L2 DX
section
variable {P : Program} {w : World} {K : PySem.W.Frag} {mg : Str → Option Value} {base : Heap}
theorem deqv_refl {d : D} (h : dlay d = true) : deqv d d = true := by
  obtain ⟨p, hp, hc, _⟩ := lay_toP h
  rw [← toP_eqv hp hp]
  exact SeqAt.eqv_refl _ hc
theorem dlayL_all : ∀ {ds : List D}, (∀ d ∈ ds, dlay d = true) → dlayL ds = true
  | [], _ => rfl
  | d :: ds, h => by
    show (dlay d && dlayL ds) = true
    rw [h d List.mem_cons_self, dlayL_all fun e he => h e (List.mem_cons_of_mem _ he)]
    rfl
theorem ddepL_all {k : Nat} : ∀ {ds : List D}, (∀ d ∈ ds, ddep d ≤ k) → ddepL ds ≤ k
  | [], _ => Nat.zero_le _
  | d :: ds, h => by
    show max (ddep d) (ddepL ds) ≤ k
    exact Nat.max_le.mpr ⟨h d List.mem_cons_self, ddepL_all fun e he => h e (List.mem_cons_of_mem _ he)⟩
theorem lay_dd (ps : List (Bool × Nat)) : ∀ d ∈ ps.map dd, dlay d = true ∧ ddep d ≤ 1 := fun d hd => by
  obtain ⟨⟨w, p⟩, _, rfl⟩ := List.mem_map.mp hd
  have e1 : PyData.strOk (Str.ofString "read") = true := by decide +kernel
  have e2 : PyData.strOk (Str.ofString "write") = true := by decide +kernel
  cases w
  · refine ⟨?_, Nat.le_refl 1⟩
    show (PyData.strOk (Str.ofString "read") && (true && true)) = true
    rw [e1]; rfl
  · refine ⟨?_, Nat.le_refl 1⟩
    show (PyData.strOk (Str.ofString "write") && (true && true)) = true
    rw [e2]; rfl
theorem lay_cc (ps : List (Nat × Nat)) : ∀ d ∈ ps.map cc, dlay d = true ∧ ddep d ≤ 1 := fun d hd => by
  obtain ⟨p, _, rfl⟩ := List.mem_map.mp hd
  exact ⟨rfl, Nat.le_refl 1⟩
theorem lay_bl (ps : List Bool) : ∀ d ∈ ps.map D.bl, dlay d = true ∧ ddep d ≤ 1 := fun d hd => by
  obtain ⟨p, _, rfl⟩ := List.mem_map.mp hd
  exact ⟨rfl, Nat.zero_le 1⟩
theorem lay_lst {ds : List D} {k : Nat} (h : ∀ d ∈ ds, dlay d = true ∧ ddep d ≤ k) : dlay (.lst ds) = true ∧ ddep (.lst ds) ≤ k + 1 :=
  ⟨dlayL_all fun d hd => (h d hd).1, Nat.succ_le_succ (ddepL_all fun d hd => (h d hd).2)⟩
theorem eqok {x y : D} (hx : dlay x = true ∧ ddep x ≤ 60) (hy : dlay y = true ∧ ddep y ≤ 60) : dEqOk x y = true := by
  unfold dEqOk dok
  rw [hx.1, hy.1, decide_eq_true hx.2, decide_eq_true hy.2]
  simp

def wgo (p : Nat) : List (Bool × Nat) → Nat → Bool → List Nat
  | [], m, _ => [m]
  | d :: r, m, s => if d.2 = p then (if d.1 then m :: wgo p r 0 false else if s then wgo p r m s else wgo p r (m + 1) s) else wgo p r m s
def wall (ps : List (Bool × Nat)) (bs : List Bool) (n : Nat) : List Nat := (List.range n).flatMap fun p => wgo p ps 0 (bs.getD p false)
def worth (ps : List (Bool × Nat)) (bs : List Bool) : List Int := ((wall ps bs bs.length).filter fun m => decide (0 < m)).map fun m => ((m : Nat) : Int)
theorem dd_eq (x : Bool × Nat) (v : Bool) (p : Nat) : deqv (dd x) (.tup [.str (if v = true then "write" else "read"), .int p]) = (x.1 == v && x.2 == p) := by
  obtain ⟨w, q⟩ := x
  have e : ((q : Int) == (p : Int)) = (q == p) := by
    by_cases h : q = p
    · subst h; rw [beq_self_eq_true, beq_self_eq_true]
    · have h' : ¬ ((q : Int) = p) := by omega
      rw [beq_eq_false_iff_ne.mpr h', beq_eq_false_iff_ne.mpr h]
  have go : ∀ (a b : Str), deqv (.tup [.str a, .int (q : Nat)]) (.tup [.str b, .int (p : Nat)]) = ((a == b) && (((q : Int) == (p : Int)) && true)) := fun a b => rfl
  cases w <;> cases v <;> (refine (go _ _).trans ?_; rw [e, Bool.and_true]; congr 1)
theorem wgo_len (p : Nat) : ∀ (ps : List (Bool × Nat)) (m : Nat) (s : Bool), (wgo p ps m s).length ≤ ps.length + 1
  | [], _, _ => Nat.le_refl _
  | d :: r, m, s => by
    show (if d.2 = p then (if d.1 then m :: wgo p r 0 false else if s then wgo p r m s else wgo p r (m + 1) s) else wgo p r m s).length ≤ r.length + 1 + 1
    have h1 := wgo_len p r 0 false
    have h2 := wgo_len p r m s
    have h3 := wgo_len p r (m + 1) s
    split
    · split
      · simp; omega
      · split <;> omega
    · omega
theorem wall_len (ps : List (Bool × Nat)) (bs : List Bool) : ∀ n, (wall ps bs n).length ≤ n * (ps.length + 1)
  | 0 => Nat.zero_le _
  | n + 1 => by
    have e : wall ps bs (n + 1) = wall ps bs n ++ wgo n ps 0 (bs.getD n false) := by
      unfold wall
      rw [List.range_succ, List.flatMap_append]
      simp
    have h1 := wall_len ps bs n
    have h2 := wgo_len n ps 0 (bs.getD n false)
    rw [e, List.length_append, Nat.succ_mul]
    omega
theorem lay_d1 (x : Bool × Nat) : dlay (dd x) = true ∧ ddep (dd x) ≤ 60 := by
  obtain ⟨h1, h2⟩ := lay_dd [x] (dd x) (by simp)
  exact ⟨h1, Nat.le_trans h2 (by decide)⟩

def S_law_worths (W : Wd P w K mg base) : DSp := fun ds μ Q E => match ds with
  | [xs, ks] => ∃ (ps : List (Bool × Nat)) (bs : List Bool), xs = .lst (ps.map dd) ∧ ks = .lst (bs.map .bl) ∧ ps.length ≤ 1000 ∧ bs.length ≤ 100 ∧ ∀ ms : List Int, ms.Perm (worth ps bs) → ms.Pairwise (· ≥ ·) → Q (.lst (ms.map .int)) μ
  | _ => False

theorem ok_law_worths (W : Wd P w K mg base) : FnD P w K mg base 2 W.f_law_worths (S_law_worths W) := by
  refine (okB W.t_law_worths.d sc_law_worths (by (intro ds μ Q E h; unfold S_law_worths at h; split at h <;> first | rfl | exact h.elim)) _ (fun cdv A outer s H E' g hr => ⟨_, (b_cons (s_set 2 sc_law_worths.nd (d_lstM a_nil))
      (b_cons (s_for (passes_of rfl) (i_rng1 W.z_range (a_cons (d_callB (call_lenA rfl) sim_len W.z_len (a_cons (d_var 1) a_nil)) a_nil)) (g_name 3 sc_law_worths.nd)
      (b_cons (s_set 4 sc_law_worths.nd d_int)
      (b_cons (s_set 5 sc_law_worths.nd (d_ix (d_var 1) (d_var 3)))
      (b_one (s_for (passes_of rfl) (i_seq (d_op (op_addA rfl) sim_add (d_var 0) (d_lst (a_cons (d_tup (a_cons d_str (a_cons (d_var 3) a_nil))) a_nil)))) (g_name 6 sc_law_worths.nd)
      (b_one (s_if (t_cmp (op_eqA hr.units rfl) sim_eq (d_var 6) (d_tup (a_cons d_str (a_cons (d_var 3) a_nil))) (nomark _)) (b_cons (s_expr (d_bm PySem.F.slot_list_append PySem.F.type_list_append mt_append sim_append (d_var 2) (a_cons (d_var 4) a_nil)))
      (b_cons (s_set 4 sc_law_worths.nd d_int)
      (b_one (s_set 5 sc_law_worths.nd d_bl)))) (b_one (s_if (WD.td (w_and (t_cmp (op_eqA hr.units rfl) sim_eq (d_var 6) (d_tup (a_cons d_str (a_cons (d_var 3) a_nil))) (nomark _)) (w_and1 (t_not (t_tru (d_var 5)))))) (b_one (s_set 4 sc_law_worths.nd (d_op (op_addA rfl) sim_add (d_var 4) d_int))) b_nil)))))))))
      (b_one (s_ret (d_rev (d_callB (call_sortedA rfl) sim_sorted W.z_sorted (a_cons (d_lc false [("many", 4)] sc_law_worths.nd (i_seq (d_var 2)) (blkOk_by (own := [("many", 4)]) (N := ["deeds", "kept", "found", "page", "many", "is_set", "deed"]) (sc := defScope s_law_worths) (by decide +kernel)) (fun _ _ _ _ _ => (g_name 4 sc_law_worths.nd)) (fun _ _ _ _ _ => (ts_one (t_cmp op_gt sim_gt (d_var 4) d_int (nomark _)))) (fun _ _ _ _ _ => (d_callTy call_int1 sim_int W.z_int (a_cons (d_var 4) a_nil))) (wip_name (by decide)) mono_name) a_nil)))))))⟩) (fun ds μ Q E h => ?_)).fn0 W.t_law_worths.b
  unfold S_law_worths at h
  split at h
  · rename_i xs ks
    obtain ⟨ps, bs, rfl, rfl, hps, hbs, q⟩ := h
    rw [show startD ["deeds", "kept", "found", "page", "many", "is_set", "deed"] [.lst (ps.map dd), .lst (bs.map .bl)] = [some (.lst (ps.map dd)), some (.lst (bs.map .bl)), none, none, none, none, none] from rfl]
    refine seq_step fun nx hnx => ?_
    simp (maxSteps := 4000000) only [DX.at_r0, DX.set_r0, DX.putD_nil, DX.putD_hd, DX.look_hd, DX.atI_nat, DX.at0, DX.at1, DX.at2, DX.at3, DX.eqok_int, DX.eqok_str, DX.eqok_bl, DX.deqv_int, DX.deqv_str, DX.deqv_bl, DX.uMakeM, DX.uMakeF, DX.uMakeSF, DX.uProp, DX.uGName, DX.uGNil, DX.uGCons, DX.uGTup, DX.uGSet, DX.uAsg, DX.uDrop, DX.uRet, DX.uRetN, DX.uNext, DX.uBreak, DX.uCont, DX.uNever, DX.uSeq, DX.uIfS, DX.uCut, DX.uAug, DX.uSetF, DX.uISeq, DX.uIRng1, DX.uIRng2, DX.uFor, DX.uWhile, DX.uLc, DX.uYes, DX.uRaise, DX.uTry, DX.uXf, DX.uIsX, DX.uGet, DX.uGSetO, DX.uSMeth, DX.uIEnum, DX.uIZip, DX.uGUn, DX.uPar, DX.uVar, DX.uC, DX.uNil, DX.uCons, DX.uTup, DX.uLst, DX.uLstM, DX.uOp, DX.dI, DX.dIC, DX.dEq, DX.dNe, DX.dAdd, DX.uUn, DX.uIsN, DX.dTru, DX.uTru, DX.uTest, DX.uAndB, DX.uOrB, DX.uNotB, DX.uAnd, DX.uOr, DX.uNot, DX.uIf, DX.uChain, DX.dIx, DX.uNoPart, DX.uPart, DX.uSl, DX.dIn, DX.uFld, DX.uCB, DX.one, DX.dLen, DX.dIsB, DX.uIs, DX.dIsO, DX.dInt, DX.dList, DX.dTuple, DX.uBM, DX.dAppend, DX.dExtend, DX.dIndex, DX.uM1, DX.uCall, DX.uMeth, DX.dTwo, DX.dRep, DX.dLenO, DX.dCmpO, DX.dNeO, DX.dInO, DX.dMakeM, DX.dMakeF, DX.isC, DX.insAt, List.getElem?_cons_zero, List.getElem?_cons_succ, List.getElem?_nil, List.set_cons_zero, List.set_cons_succ, List.length_cons, List.length_nil, DX.wipeD, DX.tyIs, DX.v_non, DX.vT_non, DX.ty_non, DX.v_bl, DX.vT_bl, DX.ty_bl, DX.v_int, DX.vT_int, DX.ty_int, DX.v_str, DX.vT_str, DX.ty_str, DX.v_byt, DX.vT_byt, DX.ty_byt, DX.v_lst, DX.vT_lst, DX.ty_lst, DX.v_tup, DX.vT_tup, DX.ty_tup, DX.v_kt, DX.vT_kt, DX.ty_kt, DX.v_kl, DX.vT_kl, DX.ty_kl, DX.v_ins, DX.vT_ins, DX.ty_ins, DX.v_val, DX.vT_val, DX.ty_val, if_true, if_false, Bool.false_eq_true, reduceIte, Bool.not_true, Bool.not_false, true_and, and_true, List.isEmpty_cons, List.isEmpty_nil, Nat.reduceAdd]
    refine ⟨by decide, hnx _ _ ?_⟩
    clear hnx nx
    refine seq_step fun nx hnx => ?_
    simp (maxSteps := 4000000) only [List.length_map, DX.at_r0, DX.set_r0, DX.putD_nil, DX.putD_hd, DX.look_hd, DX.atI_nat, DX.at0, DX.at1, DX.at2, DX.at3, DX.eqok_int, DX.eqok_str, DX.eqok_bl, DX.deqv_int, DX.deqv_str, DX.deqv_bl, DX.uMakeM, DX.uMakeF, DX.uMakeSF, DX.uProp, DX.uGName, DX.uGNil, DX.uGCons, DX.uGTup, DX.uGSet, DX.uAsg, DX.uDrop, DX.uRet, DX.uRetN, DX.uNext, DX.uBreak, DX.uCont, DX.uNever, DX.uSeq, DX.uIfS, DX.uCut, DX.uAug, DX.uSetF, DX.uISeq, DX.uIRng1, DX.uIRng2, DX.uFor, DX.uWhile, DX.uLc, DX.uYes, DX.uRaise, DX.uTry, DX.uXf, DX.uIsX, DX.uGet, DX.uGSetO, DX.uSMeth, DX.uIEnum, DX.uIZip, DX.uGUn, DX.uPar, DX.uVar, DX.uC, DX.uNil, DX.uCons, DX.uTup, DX.uLst, DX.uLstM, DX.uOp, DX.dI, DX.dIC, DX.dEq, DX.dNe, DX.dAdd, DX.uUn, DX.uIsN, DX.dTru, DX.uTru, DX.uTest, DX.uAndB, DX.uOrB, DX.uNotB, DX.uAnd, DX.uOr, DX.uNot, DX.uIf, DX.uChain, DX.dIx, DX.uNoPart, DX.uPart, DX.uSl, DX.dIn, DX.uFld, DX.uCB, DX.one, DX.dLen, DX.dIsB, DX.uIs, DX.dIsO, DX.dInt, DX.dList, DX.dTuple, DX.uBM, DX.dAppend, DX.dExtend, DX.dIndex, DX.uM1, DX.uCall, DX.uMeth, DX.dTwo, DX.dRep, DX.dLenO, DX.dCmpO, DX.dNeO, DX.dInO, DX.dMakeM, DX.dMakeF, DX.isC, DX.insAt, List.getElem?_cons_zero, List.getElem?_cons_succ, List.getElem?_nil, List.set_cons_zero, List.set_cons_succ, List.length_cons, List.length_nil, DX.wipeD, DX.tyIs, DX.v_non, DX.vT_non, DX.ty_non, DX.v_bl, DX.vT_bl, DX.ty_bl, DX.v_int, DX.vT_int, DX.ty_int, DX.v_str, DX.vT_str, DX.ty_str, DX.v_byt, DX.vT_byt, DX.ty_byt, DX.v_lst, DX.vT_lst, DX.ty_lst, DX.v_tup, DX.vT_tup, DX.ty_tup, DX.v_kt, DX.vT_kt, DX.ty_kt, DX.v_kl, DX.vT_kl, DX.ty_kl, DX.v_ins, DX.vT_ins, DX.ty_ins, DX.v_val, DX.vT_val, DX.ty_val, if_true, if_false, Bool.false_eq_true, reduceIte, Bool.not_true, Bool.not_false, true_and, and_true, List.isEmpty_cons, List.isEmpty_nil, Nat.reduceAdd]
    refine ⟨⟨by omega, by omega⟩, ?_⟩
    refine for_map (fun n ρ μ1 => ∃ (o3 o4 o5 o6 : Option D), n ≤ bs.length ∧ μ1 = μ ++ [.lst ((wall ps bs n).map fun m => .int (m : Nat))] ∧ ρ = [some (.lst (ps.map dd)), some (.lst (bs.map .bl)), some (.ob μ.length), o3, o4, o5, o6]) ⟨none, none, none, none, Nat.zero_le _, rfl, rfl⟩ (fun _ _ _ _ => by trivial) ?_ ?_
    · rintro ρ μ1 ⟨o3, o4, o5, o6, _, rfl, rfl⟩
      rw [dints_len, Int.toNat_natCast]
      refine hnx _ _ ?_
      clear hnx nx
      have hJ : ∀ a, (μ ++ [M.lst a])[μ.length]? = some (M.lst a) := fun a => at_r0
      simp (maxSteps := 4000000) only [uRev, dSorted, v_obL (hJ _), DX.at_r0, DX.set_r0, DX.putD_nil, DX.putD_hd, DX.look_hd, DX.atI_nat, DX.at0, DX.at1, DX.at2, DX.at3, DX.eqok_int, DX.eqok_str, DX.eqok_bl, DX.deqv_int, DX.deqv_str, DX.deqv_bl, DX.uMakeM, DX.uMakeF, DX.uMakeSF, DX.uProp, DX.uGName, DX.uGNil, DX.uGCons, DX.uGTup, DX.uGSet, DX.uAsg, DX.uDrop, DX.uRet, DX.uRetN, DX.uNext, DX.uBreak, DX.uCont, DX.uNever, DX.uSeq, DX.uIfS, DX.uCut, DX.uAug, DX.uSetF, DX.uISeq, DX.uIRng1, DX.uIRng2, DX.uFor, DX.uWhile, DX.uLc, DX.uYes, DX.uRaise, DX.uTry, DX.uXf, DX.uIsX, DX.uGet, DX.uGSetO, DX.uSMeth, DX.uIEnum, DX.uIZip, DX.uGUn, DX.uPar, DX.uVar, DX.uC, DX.uNil, DX.uCons, DX.uTup, DX.uLst, DX.uLstM, DX.uOp, DX.dI, DX.dIC, DX.dEq, DX.dNe, DX.dAdd, DX.uUn, DX.uIsN, DX.dTru, DX.uTru, DX.uTest, DX.uAndB, DX.uOrB, DX.uNotB, DX.uAnd, DX.uOr, DX.uNot, DX.uIf, DX.uChain, DX.dIx, DX.uNoPart, DX.uPart, DX.uSl, DX.dIn, DX.uFld, DX.uCB, DX.one, DX.dLen, DX.dIsB, DX.uIs, DX.dIsO, DX.dInt, DX.dList, DX.dTuple, DX.uBM, DX.dAppend, DX.dExtend, DX.dIndex, DX.uM1, DX.uCall, DX.uMeth, DX.dTwo, DX.dRep, DX.dLenO, DX.dCmpO, DX.dNeO, DX.dInO, DX.dMakeM, DX.dMakeF, DX.isC, DX.insAt, List.getElem?_cons_zero, List.getElem?_cons_succ, List.getElem?_nil, List.set_cons_zero, List.set_cons_succ, List.length_cons, List.length_nil, DX.wipeD, DX.tyIs, DX.v_non, DX.vT_non, DX.ty_non, DX.v_bl, DX.vT_bl, DX.ty_bl, DX.v_int, DX.vT_int, DX.ty_int, DX.v_str, DX.vT_str, DX.ty_str, DX.v_byt, DX.vT_byt, DX.ty_byt, DX.v_lst, DX.vT_lst, DX.ty_lst, DX.v_tup, DX.vT_tup, DX.ty_tup, DX.v_kt, DX.vT_kt, DX.ty_kt, DX.v_kl, DX.vT_kl, DX.ty_kl, DX.v_ins, DX.vT_ins, DX.ty_ins, DX.v_val, DX.vT_val, DX.ty_val, if_true, if_false, Bool.false_eq_true, reduceIte, Bool.not_true, Bool.not_false, true_and, and_true, List.isEmpty_cons, List.isEmpty_nil, Nat.reduceAdd]
      refine lc_map (fun j acc μ1 => μ1 = μ ++ [.lst ((wall ps bs bs.length).map fun m => .int (m : Nat))] ∧ acc = (((wall ps bs bs.length).take j).filter fun m => decide (0 < m)).map fun m => .int (m : Nat)) ⟨rfl, rfl⟩ ?_ ?_ ?_
      · rintro j acc μ1 ⟨rfl, _⟩; exact v_obL (hJ _)
      · rintro acc μ1 ⟨rfl, rfl⟩
        rw [List.length_map, List.take_length]
        have ef0 : ∀ ms : List Int, fz (μ ++ [M.lst ((wall ps bs bs.length).map fun m => D.int (m : Nat))]) μ.length 6 (.lst (ms.map D.int).reverse) = .lst (ms.reverse.map .int) := fun ms => by
          rw [← List.map_reverse, fz_lst, List.map_map]
          congr 1
        refine ⟨worth ps bs, by unfold worth; rw [List.map_map]; rfl, fun ms h1 h2 => ⟨_, rfl, .inr ⟨⟨by simp, fun k m' hk hm' => .inl (by rw [at_l hk] at hm'; exact hm')⟩, ?_, ?_⟩⟩⟩
        · rw [ef0]
          exact cldL_all fun x hx => by
            obtain ⟨y, _, rfl⟩ := List.mem_map.mp hx
            rfl
        · rw [ef0, take_n rfl]
          exact q _ ((List.reverse_perm ms).trans h1) (List.pairwise_reverse.mpr h2)
      · rintro j e acc μ1 go he ⟨rfl, rfl⟩ k
        rw [List.getElem?_map] at he
        cases hw : (wall ps bs bs.length)[j]? with
        | none => rw [hw] at he; cases he
        | some c =>
          rw [hw] at he
          cases he
          simp (maxSteps := 4000000) only [List.map_cons, List.map_nil, DX.at_r0, DX.set_r0, DX.putD_nil, DX.putD_hd, DX.look_hd, DX.atI_nat, DX.at0, DX.at1, DX.at2, DX.at3, DX.eqok_int, DX.eqok_str, DX.eqok_bl, DX.deqv_int, DX.deqv_str, DX.deqv_bl, DX.uMakeM, DX.uMakeF, DX.uMakeSF, DX.uProp, DX.uGName, DX.uGNil, DX.uGCons, DX.uGTup, DX.uGSet, DX.uAsg, DX.uDrop, DX.uRet, DX.uRetN, DX.uNext, DX.uBreak, DX.uCont, DX.uNever, DX.uSeq, DX.uIfS, DX.uCut, DX.uAug, DX.uSetF, DX.uISeq, DX.uIRng1, DX.uIRng2, DX.uFor, DX.uWhile, DX.uLc, DX.uYes, DX.uRaise, DX.uTry, DX.uXf, DX.uIsX, DX.uGet, DX.uGSetO, DX.uSMeth, DX.uIEnum, DX.uIZip, DX.uGUn, DX.uPar, DX.uVar, DX.uC, DX.uNil, DX.uCons, DX.uTup, DX.uLst, DX.uLstM, DX.uOp, DX.dI, DX.dIC, DX.dEq, DX.dNe, DX.dAdd, DX.uUn, DX.uIsN, DX.dTru, DX.uTru, DX.uTest, DX.uAndB, DX.uOrB, DX.uNotB, DX.uAnd, DX.uOr, DX.uNot, DX.uIf, DX.uChain, DX.dIx, DX.uNoPart, DX.uPart, DX.uSl, DX.dIn, DX.uFld, DX.uCB, DX.one, DX.dLen, DX.dIsB, DX.uIs, DX.dIsO, DX.dInt, DX.dList, DX.dTuple, DX.uBM, DX.dAppend, DX.dExtend, DX.dIndex, DX.uM1, DX.uCall, DX.uMeth, DX.dTwo, DX.dRep, DX.dLenO, DX.dCmpO, DX.dNeO, DX.dInO, DX.dMakeM, DX.dMakeF, DX.isC, DX.insAt, List.getElem?_cons_zero, List.getElem?_cons_succ, List.getElem?_nil, List.set_cons_zero, List.set_cons_succ, List.length_cons, List.length_nil, DX.wipeD, DX.tyIs, DX.v_non, DX.vT_non, DX.ty_non, DX.v_bl, DX.vT_bl, DX.ty_bl, DX.v_int, DX.vT_int, DX.ty_int, DX.v_str, DX.vT_str, DX.ty_str, DX.v_byt, DX.vT_byt, DX.ty_byt, DX.v_lst, DX.vT_lst, DX.ty_lst, DX.v_tup, DX.vT_tup, DX.ty_tup, DX.v_kt, DX.vT_kt, DX.ty_kt, DX.v_kl, DX.vT_kl, DX.ty_kl, DX.v_ins, DX.vT_ins, DX.ty_ins, DX.v_val, DX.vT_val, DX.ty_val, if_true, if_false, Bool.false_eq_true, reduceIte, Bool.not_true, Bool.not_false, true_and, and_true, List.isEmpty_cons, List.isEmpty_nil, Nat.reduceAdd]
          by_cases hc : 0 < c
          · rw [if_pos (by simp; omega)]
            refine ⟨?_, k _ _ ⟨rfl, ?_⟩⟩
            · rw [List.length_map]
              have h1 := List.length_filter_le (fun m => decide (0 < m)) ((wall ps bs bs.length).take j)
              have h2 := List.length_take_le j (wall ps bs bs.length)
              have h2' : ((wall ps bs bs.length).take j).length ≤ (wall ps bs bs.length).length := by rw [List.length_take]; omega
              have h3 := wall_len ps bs bs.length
              have h4 : bs.length * (ps.length + 1) ≤ 100 * 1001 := Nat.mul_le_mul hbs (by omega)
              omega
            · rw [take_snoc hw, List.filter_append, List.map_append]
              simp [hc]
          · rw [if_neg (by simp; omega)]
            refine k _ _ ⟨rfl, ?_⟩
            rw [take_snoc hw, List.filter_append, List.map_append]
            simp [hc]
    · rintro n e ρ μ1 go he ⟨o3, o4, o5, o6, hn0, rfl, rfl⟩ k
      have hn := lt_of_at he
      rw [dints_len, Int.toNat_natCast] at hn
      rw [dints_get _ _ _ (by rw [Int.toNat_natCast]; exact hn), Int.zero_add] at he
      cases he
      have hbn : bs[n]? = some bs[n] := List.getElem?_eq_getElem hn
      have hJ : ∀ a, (μ ++ [M.lst a])[μ.length]? = some (M.lst a) := fun a => at_r0
      simp (maxSteps := 4000000) only [List.getElem?_map, hbn, Option.map_some, List.length_map, DX.at_r0, DX.set_r0, DX.putD_nil, DX.putD_hd, DX.look_hd, DX.atI_nat, DX.at0, DX.at1, DX.at2, DX.at3, DX.eqok_int, DX.eqok_str, DX.eqok_bl, DX.deqv_int, DX.deqv_str, DX.deqv_bl, DX.uMakeM, DX.uMakeF, DX.uMakeSF, DX.uProp, DX.uGName, DX.uGNil, DX.uGCons, DX.uGTup, DX.uGSet, DX.uAsg, DX.uDrop, DX.uRet, DX.uRetN, DX.uNext, DX.uBreak, DX.uCont, DX.uNever, DX.uSeq, DX.uIfS, DX.uCut, DX.uAug, DX.uSetF, DX.uISeq, DX.uIRng1, DX.uIRng2, DX.uFor, DX.uWhile, DX.uLc, DX.uYes, DX.uRaise, DX.uTry, DX.uXf, DX.uIsX, DX.uGet, DX.uGSetO, DX.uSMeth, DX.uIEnum, DX.uIZip, DX.uGUn, DX.uPar, DX.uVar, DX.uC, DX.uNil, DX.uCons, DX.uTup, DX.uLst, DX.uLstM, DX.uOp, DX.dI, DX.dIC, DX.dEq, DX.dNe, DX.dAdd, DX.uUn, DX.uIsN, DX.dTru, DX.uTru, DX.uTest, DX.uAndB, DX.uOrB, DX.uNotB, DX.uAnd, DX.uOr, DX.uNot, DX.uIf, DX.uChain, DX.dIx, DX.uNoPart, DX.uPart, DX.uSl, DX.dIn, DX.uFld, DX.uCB, DX.one, DX.dLen, DX.dIsB, DX.uIs, DX.dIsO, DX.dInt, DX.dList, DX.dTuple, DX.uBM, DX.dAppend, DX.dExtend, DX.dIndex, DX.uM1, DX.uCall, DX.uMeth, DX.dTwo, DX.dRep, DX.dLenO, DX.dCmpO, DX.dNeO, DX.dInO, DX.dMakeM, DX.dMakeF, DX.isC, DX.insAt, List.getElem?_cons_zero, List.getElem?_cons_succ, List.getElem?_nil, List.set_cons_zero, List.set_cons_succ, List.length_cons, List.length_nil, DX.wipeD, DX.tyIs, DX.v_non, DX.vT_non, DX.ty_non, DX.v_bl, DX.vT_bl, DX.ty_bl, DX.v_int, DX.vT_int, DX.ty_int, DX.v_str, DX.vT_str, DX.ty_str, DX.v_byt, DX.vT_byt, DX.ty_byt, DX.v_lst, DX.vT_lst, DX.ty_lst, DX.v_tup, DX.vT_tup, DX.ty_tup, DX.v_kt, DX.vT_kt, DX.ty_kt, DX.v_kl, DX.vT_kl, DX.ty_kl, DX.v_ins, DX.vT_ins, DX.ty_ins, DX.v_val, DX.vT_val, DX.ty_val, if_true, if_false, Bool.false_eq_true, reduceIte, Bool.not_true, Bool.not_false, true_and, and_true, List.isEmpty_cons, List.isEmpty_nil, Nat.reduceAdd]
      have hF : wall ps bs (n + 1) = wall ps bs n ++ wgo n ps 0 bs[n] := by
        unfold wall
        rw [List.range_succ, List.flatMap_append]
        simp [List.getD, hbn]
      refine ⟨by decide, by decide, Nat.le_trans (by omega : ps.length + 1 ≤ 1001) (by decide), ?_⟩
      refine for_map (fun j ρ μ1 => ∃ (acc : List Nat) (m : Nat) (b : Bool) (o6 : Option D), ((j ≤ ps.length ∧ acc ++ wgo n (ps.drop j) m b = wall ps bs (n + 1)) ∨ (j = ps.length + 1 ∧ acc = wall ps bs (n + 1))) ∧ μ1 = μ ++ [.lst (acc.map fun m => .int (m : Nat))] ∧ ρ = [some (.lst (ps.map dd)), some (.lst (bs.map .bl)), some (.ob μ.length), some (.int n), some (.int (m : Nat)), some (.bl b), o6]) ⟨wall ps bs n, 0, bs[n], _, .inl ⟨Nat.zero_le _, hF.symm⟩, rfl, rfl⟩ (fun _ _ _ _ => by trivial) ?_ ?_
      · rintro ρ μ1 ⟨acc, m, b, o6', h1, rfl, rfl⟩
        rw [List.length_append, List.length_map, List.length_singleton] at h1
        rcases h1 with ⟨h1, _⟩ | ⟨_, h1⟩
        · omega
        · exact k _ _ ⟨_, _, _, _, hn, by rw [h1], rfl⟩
      · rintro j e ρ μ1 go2 he ⟨acc, m, b, o6', h1, rfl, rfl⟩ k2
        have hj := lt_of_at he
        rw [List.length_append, List.length_map, List.length_singleton] at hj
        have h1 : j ≤ ps.length ∧ acc ++ wgo n (ps.drop j) m b = wall ps bs (n + 1) := by
          rcases h1 with h1 | ⟨h1, _⟩
          · exact h1
          · omega
        have hx : ∃ x : Bool × Nat, e = dd x ∧ ((j < ps.length ∧ ps[j]? = some x) ∨ (j = ps.length ∧ x = (true, n))) := by
          by_cases z : j < ps.length
          · rw [List.getElem?_append_left (by simpa using z), List.getElem?_map, List.getElem?_eq_getElem z] at he
            cases he
            exact ⟨_, rfl, .inl ⟨z, List.getElem?_eq_getElem z⟩⟩
          · have z' : j = ps.length := by omega
            rw [List.getElem?_append_right (by simp; omega), z'] at he
            simp at he
            exact ⟨(true, n), he.symm, .inr ⟨z', rfl⟩⟩
        obtain ⟨x, rfl, hx⟩ := hx
        have e1 := dd_eq x true n
        have e2 := dd_eq x false n
        rw [if_pos rfl] at e1
        rw [if_neg Bool.false_ne_true] at e2
        have k1 := eqok (lay_d1 x) (lay_d1 (true, n))
        have k3 := eqok (lay_d1 x) (lay_d1 (false, n))
        have v1 : ∀ μ, view μ (dd x) = dd x := fun _ => rfl
        have k1 : dEqOk (dd x) (.tup [.str (Str.ofString "write"), .int (n : Nat)]) = true := k1
        have k3 : dEqOk (dd x) (.tup [.str (Str.ofString "read"), .int (n : Nat)]) = true := k3
        simp (maxSteps := 4000000) only [v1, k1, k3, e1, e2, v_obL (hJ _), DX.at_r0, DX.set_r0, DX.putD_nil, DX.putD_hd, DX.look_hd, DX.atI_nat, DX.at0, DX.at1, DX.at2, DX.at3, DX.eqok_int, DX.eqok_str, DX.eqok_bl, DX.deqv_int, DX.deqv_str, DX.deqv_bl, DX.uMakeM, DX.uMakeF, DX.uMakeSF, DX.uProp, DX.uGName, DX.uGNil, DX.uGCons, DX.uGTup, DX.uGSet, DX.uAsg, DX.uDrop, DX.uRet, DX.uRetN, DX.uNext, DX.uBreak, DX.uCont, DX.uNever, DX.uSeq, DX.uIfS, DX.uCut, DX.uAug, DX.uSetF, DX.uISeq, DX.uIRng1, DX.uIRng2, DX.uFor, DX.uWhile, DX.uLc, DX.uYes, DX.uRaise, DX.uTry, DX.uXf, DX.uIsX, DX.uGet, DX.uGSetO, DX.uSMeth, DX.uIEnum, DX.uIZip, DX.uGUn, DX.uPar, DX.uVar, DX.uC, DX.uNil, DX.uCons, DX.uTup, DX.uLst, DX.uLstM, DX.uOp, DX.dI, DX.dIC, DX.dEq, DX.dNe, DX.dAdd, DX.uUn, DX.uIsN, DX.dTru, DX.uTru, DX.uTest, DX.uAndB, DX.uOrB, DX.uNotB, DX.uAnd, DX.uOr, DX.uNot, DX.uIf, DX.uChain, DX.dIx, DX.uNoPart, DX.uPart, DX.uSl, DX.dIn, DX.uFld, DX.uCB, DX.one, DX.dLen, DX.dIsB, DX.uIs, DX.dIsO, DX.dInt, DX.dList, DX.dTuple, DX.uBM, DX.dAppend, DX.dExtend, DX.dIndex, DX.uM1, DX.uCall, DX.uMeth, DX.dTwo, DX.dRep, DX.dLenO, DX.dCmpO, DX.dNeO, DX.dInO, DX.dMakeM, DX.dMakeF, DX.isC, DX.insAt, List.getElem?_cons_zero, List.getElem?_cons_succ, List.getElem?_nil, List.set_cons_zero, List.set_cons_succ, List.length_cons, List.length_nil, DX.wipeD, DX.tyIs, DX.v_non, DX.vT_non, DX.ty_non, DX.v_bl, DX.vT_bl, DX.ty_bl, DX.v_int, DX.vT_int, DX.ty_int, DX.v_str, DX.vT_str, DX.ty_str, DX.v_byt, DX.vT_byt, DX.ty_byt, DX.v_lst, DX.vT_lst, DX.ty_lst, DX.v_tup, DX.vT_tup, DX.ty_tup, DX.v_kt, DX.vT_kt, DX.ty_kt, DX.v_kl, DX.vT_kl, DX.ty_kl, DX.v_ins, DX.vT_ins, DX.ty_ins, DX.v_val, DX.vT_val, DX.ty_val, if_true, if_false, Bool.false_eq_true, reduceIte, Bool.not_true, Bool.not_false, true_and, and_true, List.isEmpty_cons, List.isEmpty_nil, Nat.reduceAdd]
        have hal : acc.length ≤ 200000 := by
          have h3 := wall_len ps bs (n + 1)
          have h4 : (n + 1) * (ps.length + 1) ≤ 100 * 1001 := Nat.mul_le_mul (by omega) (by omega)
          have h5 := congrArg List.length h1.2
          rw [List.length_append] at h5
          omega
        have hsz : (List.map (fun m => D.int (m : Nat)) acc).length < sizeLine := Nat.lt_of_le_of_lt (by simpa using hal) (by decide)
        refine ⟨by decide, ?_⟩
        rcases hx with ⟨hjl, hjx⟩ | ⟨hjl, rfl⟩
        · have hdr : ps.drop j = x :: ps.drop (j + 1) := by
            rw [List.drop_eq_getElem_cons hjl]
            congr 1
            have := List.getElem?_eq_getElem hjl
            rw [hjx] at this
            exact (Option.some.inj this).symm
          have h2 := h1.2
          rw [hdr] at h2
          obtain ⟨w, p⟩ := x
          by_cases hp : p = n
          · subst hp
            cases w with
            | true =>
              rw [if_pos (by simp)]
              refine ⟨isLst_at (hJ _), hsz, k2 _ _ ⟨acc ++ [m], 0, false, _, .inl ⟨hjl, ?_⟩, by rw [List.map_append]; rfl, rfl⟩⟩
              rw [show wgo p ((true, p) :: ps.drop (j + 1)) m b = m :: wgo p (ps.drop (j + 1)) 0 false from (if_pos rfl).trans (if_pos rfl)] at h2
              rw [List.append_assoc]
              exact h2
            | false =>
              rw [if_neg (by simp)]
              refine ⟨by decide, ?_⟩
              rw [if_pos (by simp)]
              rw [show wgo p ((false, p) :: ps.drop (j + 1)) m b = if b then wgo p (ps.drop (j + 1)) m b else wgo p (ps.drop (j + 1)) (m + 1) b from (if_pos rfl).trans (if_neg Bool.false_ne_true)] at h2
              cases b with
              | true => exact k2 _ _ ⟨acc, m, true, _, .inl ⟨hjl, h2⟩, rfl, rfl⟩
              | false => exact k2 _ _ ⟨acc, m + 1, false, _, .inl ⟨hjl, h2⟩, rfl, rfl⟩
          · rw [if_neg (by simp [hp])]
            refine ⟨by decide, ?_⟩
            rw [if_neg (by simp [hp])]
            rw [show wgo n ((w, p) :: ps.drop (j + 1)) m b = wgo n (ps.drop (j + 1)) m b from if_neg hp] at h2
            exact k2 _ _ ⟨acc, m, b, _, .inl ⟨hjl, h2⟩, rfl, rfl⟩
        · rw [if_pos (by simp)]
          have h2 := h1.2
          rw [hjl, List.drop_length] at h2
          exact ⟨isLst_at (hJ _), hsz, k2 _ _ ⟨acc ++ [m], 0, false, _, .inr ⟨by omega, h2⟩, by rw [List.map_append]; rfl, rfl⟩⟩
  · exact h.elim

end
end Toy
set_option Elab.async false
set_option linter.all false
set_option maxRecDepth 100000
set_option maxHeartbeats 4000000
namespace Toy
open PySem PySem.Spec PyProof.Rows L2 DX
/-! the sums of bursts -/
theorem bump_mid (A B : List (Nat × Nat × Nat)) (t : Nat × Nat × Nat) : bump A.length (A ++ t :: B) = A ++ (t.1, t.2.1, t.2.2 + 1) :: B := by
  unfold bump
  induction A with
  | nil => rfl
  | cons a A ih =>
    show List.modify (a :: (A ++ t :: B)) (A.length + 1) _ = _
    rw [List.modify_succ_cons, ih]
    rfl
def pgs (p : Nat) (bu : List (Nat × Nat × Nat)) : List Nat := (bu.filter fun t => decide (t.2.1 = p)).map fun t => t.2.2
theorem pgs_app (p : Nat) (a b : List (Nat × Nat × Nat)) : pgs p (a ++ b) = pgs p a ++ pgs p b := by unfold pgs; rw [List.filter_append, List.map_append]
theorem pgs_yes {p : Nat} {t : Nat × Nat × Nat} (h : t.2.1 = p) (b : List (Nat × Nat × Nat)) : pgs p (t :: b) = t.2.2 :: pgs p b := by unfold pgs; simp [h]
theorem pgs_no {p : Nat} {t : Nat × Nat × Nat} (h : t.2.1 ≠ p) (b : List (Nat × Nat × Nat)) : pgs p (t :: b) = pgs p b := by unfold pgs; simp [h]
theorem pgs_none {p : Nat} {b : List (Nat × Nat × Nat)} (h : ∀ t ∈ b, t.2.1 ≠ p) : pgs p b = [] := by
  unfold pgs
  rw [List.filter_eq_nil_iff.mpr (fun t ht => by simpa using h t ht)]
  rfl
def fp (l : List Nat) : List Nat := l.filter fun m => decide (0 < m)
def m1 (m : Nat) : List Nat := if m = 0 then [] else [m]
theorem fp_cons (m : Nat) (l : List Nat) : fp (m :: l) = m1 m ++ fp l := by
  unfold fp m1
  by_cases h : m = 0
  · subst h; simp
  · rw [if_neg h, List.filter_cons, if_pos (by simp; omega)]; rfl
/-- where a page stands after some deeds -/
inductive At (bs : List Bool) (ps : List (Bool × Nat)) (st : BS) (p : Nat) : Prop
  | off (cl : List Nat) : st.lat p = none → pgs p st.bu = cl → (∀ r, fp (wgo p (ps ++ r) 0 (bs.getD p false)) = cl ++ fp (wgo p r 0 (!st.bare p))) → At bs ps st p
  | on (cl : List Nat) (A B : List (Nat × Nat × Nat)) (i m : Nat) : st.lat p = some A.length → st.bare p = true → st.bu = A ++ (i, p, m + 1) :: B → pgs p A = cl → (∀ t ∈ B, t.2.1 ≠ p) → (∀ r, fp (wgo p (ps ++ r) 0 (bs.getD p false)) = cl ++ fp (wgo p r (m + 1) false)) → At bs ps st p
theorem wgo_w (p : Nat) (r : List (Bool × Nat)) (m : Nat) (s : Bool) : wgo p ((true, p) :: r) m s = m :: wgo p r 0 false := (if_pos rfl).trans (if_pos rfl)
theorem wgo_r (p : Nat) (r : List (Bool × Nat)) (m : Nat) : wgo p ((false, p) :: r) m false = wgo p r (m + 1) false := (if_pos rfl).trans ((if_neg Bool.false_ne_true).trans (if_neg Bool.false_ne_true))
theorem wgo_s (p : Nat) (r : List (Bool × Nat)) (m : Nat) : wgo p ((false, p) :: r) m true = wgo p r m true := (if_pos rfl).trans ((if_neg Bool.false_ne_true).trans (if_pos rfl))
theorem wgo_o {p q : Nat} (h : q ≠ p) (w : Bool) (r : List (Bool × Nat)) (m : Nat) (s : Bool) : wgo p ((w, q) :: r) m s = wgo p r m s := if_neg h
theorem snoc_ind {α : Type} {P : List α → Prop} (h0 : P []) (hs : ∀ l a, P l → P (l ++ [a])) (l : List α) : P l := by
  have h : ∀ r : List α, P r.reverse := fun r => by
    induction r with
    | nil => exact h0
    | cons a r ih => rw [List.reverse_cons]; exact hs _ _ ih
  have := h l.reverse
  rwa [List.reverse_reverse] at this
theorem bump_cons0 (t : Nat × Nat × Nat) (B : List (Nat × Nat × Nat)) : bump 0 (t :: B) = (t.1, t.2.1, t.2.2 + 1) :: B := rfl
theorem bump_consS (j : Nat) (t : Nat × Nat × Nat) (B : List (Nat × Nat × Nat)) : bump (j + 1) (t :: B) = t :: bump j B := by unfold bump; rw [List.modify_succ_cons]
theorem bump_len (j : Nat) : ∀ l : List (Nat × Nat × Nat), (bump j l).length = l.length := fun l => by unfold bump; rw [List.length_modify]
/-- a burst of another page grows -/
theorem pgs_bump {p : Nat} : ∀ {j : Nat} {l : List (Nat × Nat × Nat)} {t : Nat × Nat × Nat}, l[j]? = some t → t.2.1 ≠ p → pgs p (bump j l) = pgs p l
  | _, [], _, h, _ => by simp at h
  | 0, x :: l, t, h, hp => by
    simp at h
    subst h
    rw [bump_cons0, pgs_no (t := (x.1, x.2.1, x.2.2 + 1)) hp, pgs_no hp]
  | j + 1, x :: l, t, h, hp => by
    rw [bump_consS]
    have ih := pgs_bump (p := p) (j := j) (l := l) (t := t) (by simpa using h) hp
    by_cases z : x.2.1 = p
    · rw [pgs_yes z, pgs_yes z, ih]
    · rw [pgs_no z, pgs_no z, ih]
theorem bump_pg {p : Nat} : ∀ {j : Nat} {l : List (Nat × Nat × Nat)}, (∀ t ∈ l, t.2.1 ≠ p) → ∀ t ∈ bump j l, t.2.1 ≠ p
  | _, [], h => fun t ht => by simp [bump] at ht
  | 0, x :: l, h => fun t ht => by
    rw [bump_cons0] at ht
    rcases List.mem_cons.mp ht with rfl | ht
    · exact h x List.mem_cons_self
    · exact h t (List.mem_cons_of_mem _ ht)
  | j + 1, x :: l, h => fun t ht => by
    rw [bump_consS] at ht
    rcases List.mem_cons.mp ht with rfl | ht
    · exact h _ List.mem_cons_self
    · exact bump_pg (fun t ht => h t (List.mem_cons_of_mem _ ht)) t ht
/-- .. beside one of this page -/
theorem bump_at {p : Nat} {x : Nat × Nat × Nat} {B : List (Nat × Nat × Nat)} (hx : x.2.1 = p) (hB : ∀ t ∈ B, t.2.1 ≠ p) : ∀ {A : List (Nat × Nat × Nat)} {j : Nat} {t : Nat × Nat × Nat}, (A ++ x :: B)[j]? = some t → t.2.1 ≠ p →
    ∃ A' B', bump j (A ++ x :: B) = A' ++ x :: B' ∧ A'.length = A.length ∧ pgs p A' = pgs p A ∧ ∀ t ∈ B', t.2.1 ≠ p
  | [], 0, t, h, ht => by
    simp at h
    subst h
    exact absurd hx ht
  | [], j + 1, t, h, ht => ⟨[], bump j B, by rw [List.nil_append, bump_consS]; rfl, rfl, rfl, bump_pg hB⟩
  | a :: A, 0, t, h, ht => by
    simp at h
    subst h
    exact ⟨(a.1, a.2.1, a.2.2 + 1) :: A, B, rfl, rfl, by rw [pgs_no (t := (a.1, a.2.1, a.2.2 + 1)) ht, pgs_no ht], hB⟩
  | a :: A, j + 1, t, h, ht => by
    obtain ⟨A', B', h1, h2, h3, h4⟩ := bump_at hx hB (A := A) (j := j) (t := t) (by simpa using h) ht
    refine ⟨a :: A', B', by rw [List.cons_append, bump_consS, h1]; rfl, by simp [h2], ?_, h4⟩
    by_cases z : a.2.1 = p
    · rw [pgs_yes z, pgs_yes z, h3]
    · rw [pgs_no z, pgs_no z, h3]
theorem at_all (bs : List Bool) (ps : List (Bool × Nat)) : ∀ p, At bs ps (brun 0 ps (b0 bs)) p := by
  refine snoc_ind (P := fun ps => ∀ p, At bs ps (brun 0 ps (b0 bs)) p) (fun p => ?_) (fun ps d ihs p => ?_) ps
  · refine .off [] rfl rfl fun r => ?_
    show fp (wgo p r 0 (bs.getD p false)) = [] ++ fp (wgo p r 0 (!(!(bs.getD p false))))
    rw [Bool.not_not]
    rfl
  · rw [brun_snoc, Nat.zero_add]
    generalize brun 0 ps (b0 bs) = st at ihs ⊢
    have ih := ihs p
    obtain ⟨w, q⟩ := d
    have step : ∀ {x : List Nat} {f : List (Bool × Nat) → List Nat}, (∀ r, fp (wgo p (ps ++ r) 0 (bs.getD p false)) = x ++ f r) → ∀ r, fp (wgo p (ps ++ [(w, q)] ++ r) 0 (bs.getD p false)) = x ++ f ((w, q) :: r) := fun h r => by
      rw [List.append_assoc]; exact h _
    by_cases hq : q = p
    · subst hq
      cases w with
      | true =>
        rw [show bstep ps.length st (true, q) = ⟨fput st.bare q true, fput st.lat q none, st.bu⟩ from if_pos rfl]
        have nbq : (fput st.bare q true) q = true := if_pos rfl
        cases ih with
        | off cl h1 h2 h3 =>
          refine .off cl (if_pos rfl) h2 fun r => ?_
          show _ = cl ++ fp (wgo q r 0 (!(fput st.bare q true) q))
          rw [step h3 r, wgo_w, fp_cons, nbq]
          rfl
        | on cl A B i m h1 h2 h3 h4 h5 h6 =>
          refine .off (cl ++ [m + 1]) (if_pos rfl) ?_ fun r => ?_
          · show pgs q st.bu = _
            rw [h3, pgs_app, h4, pgs_yes (p := q) (t := (i, q, m + 1)) rfl, pgs_none h5]
          · show _ = (cl ++ [m + 1]) ++ fp (wgo q r 0 (!(fput st.bare q true) q))
            rw [step h6 r, wgo_w, fp_cons, nbq, List.append_assoc]
            rfl
      | false =>
        cases ih with
        | off cl h1 h2 h3 =>
          cases hb : st.bare q with
          | false =>
            rw [show bstep ps.length st (false, q) = st from (if_neg Bool.false_ne_true).trans (if_neg (by rw [hb]; exact Bool.false_ne_true))]
            refine .off cl h1 h2 fun r => ?_
            rw [step h3 r, hb]
            exact congrArg (fun z => cl ++ fp z) (wgo_s q r 0)
          | true =>
            have e : bstep ps.length st (false, q) = ⟨st.bare, fput st.lat q (some st.bu.length), st.bu ++ [(ps.length, q, 1)]⟩ := by
              unfold bstep; rw [if_neg Bool.false_ne_true, hb, if_pos rfl, h1]
            rw [e]
            refine .on cl st.bu [] ps.length 0 (if_pos rfl) hb rfl h2 (fun t ht => nomatch ht) fun r => ?_
            rw [step h3 r, hb]
            exact congrArg (fun z => cl ++ fp z) (wgo_r q r 0)
        | on cl A B i m h1 h2 h3 h4 h5 h6 =>
          have e : bstep ps.length st (false, q) = ⟨st.bare, st.lat, bump A.length st.bu⟩ := by
            unfold bstep; rw [if_neg Bool.false_ne_true, h2, if_pos rfl, h1]
          rw [e, h3, bump_mid]
          exact .on cl A B i (m + 1) h1 h2 rfl h4 h5 fun r => by
            rw [step h6 r]
            exact congrArg (fun z => cl ++ fp z) (wgo_r q r (m + 1))
    · have hpq : ¬ p = q := fun z => hq z.symm
      have ext : ∀ st' : BS, st'.lat p = st.lat p → st'.bare p = st.bare p → (st'.bu = st.bu ∨ (∃ t : Nat × Nat × Nat, t.2.1 ≠ p ∧ st'.bu = st.bu ++ [t]) ∨ ∃ j t, st.bu[j]? = some t ∧ t.2.1 ≠ p ∧ st'.bu = bump j st.bu) → At bs (ps ++ [(w, q)]) st' p := fun st' e1 e2 e3 => by
        cases ih with
        | off cl h1 h2 h3 =>
          refine .off cl (e1.trans h1) ?_ fun r => ?_
          · rcases e3 with e3 | ⟨t, ht, e3⟩ | ⟨j, t, hj, ht, e3⟩
            · rw [e3]; exact h2
            · rw [e3, pgs_app, h2, pgs_no ht]; exact List.append_nil _
            · rw [e3, pgs_bump hj ht]; exact h2
          · rw [step h3 r, e2, wgo_o hq]
        | on cl A B i m h1 h2 h3 h4 h5 h6 =>
          rcases e3 with e3 | ⟨t, ht, e3⟩ | ⟨j, t, hj, ht, e3⟩
          · refine .on cl A B i m (e1.trans h1) (e2.trans h2) (e3.trans h3) h4 h5 fun r => ?_
            rw [step h6 r, wgo_o hq]
          · refine .on cl A (B ++ [t]) i m (e1.trans h1) (e2.trans h2) (by rw [e3, h3, List.append_assoc]; rfl) h4 (fun x hx => ?_) fun r => ?_
            · rcases List.mem_append.mp hx with hx | hx
              · exact h5 x hx
              · rw [List.mem_singleton.mp hx]; exact ht
            · rw [step h6 r, wgo_o hq]
          · rw [h3] at hj
            obtain ⟨A', B', b1, b2, b3, b4⟩ := bump_at (x := (i, p, m + 1)) rfl h5 hj ht
            refine .on cl A' B' i m (by rw [b2]; exact e1.trans h1) (e2.trans h2) (by rw [e3, h3, b1]) (b3.trans h4) b4 fun r => ?_
            rw [step h6 r, wgo_o hq]
      cases w with
      | true =>
        rw [show bstep ps.length st (true, q) = ⟨fput st.bare q true, fput st.lat q none, st.bu⟩ from if_pos rfl]
        exact ext _ (if_neg hpq) (if_neg hpq) (.inl rfl)
      | false =>
        cases hb : st.bare q with
        | false =>
          rw [show bstep ps.length st (false, q) = st from (if_neg Bool.false_ne_true).trans (if_neg (by rw [hb]; exact Bool.false_ne_true))]
          exact ext _ rfl rfl (.inl rfl)
        | true =>
          cases ihs q with
          | off cl h1 h2 h3 =>
            rw [show bstep ps.length st (false, q) = ⟨st.bare, fput st.lat q (some st.bu.length), st.bu ++ [(ps.length, q, 1)]⟩ by unfold bstep; rw [if_neg Bool.false_ne_true, hb, if_pos rfl, h1]]
            exact ext _ (if_neg hpq) rfl (.inr (.inl ⟨_, hq, rfl⟩))
          | on cl A B i m h1 h2 h3 h4 h5 h6 =>
            rw [show bstep ps.length st (false, q) = ⟨st.bare, st.lat, bump A.length st.bu⟩ by unfold bstep; rw [if_neg Bool.false_ne_true, hb, if_pos rfl, h1]]
            exact ext _ rfl rfl (.inr (.inr ⟨A.length, (i, q, m + 1), by rw [h3, List.getElem?_append_right (Nat.le_refl _), Nat.sub_self]; rfl, hq, rfl⟩))
/-- the counts of a page in the end -/
theorem pgs_end (bs : List Bool) (ps : List (Bool × Nat)) (p : Nat) : pgs p (brun 0 ps (b0 bs)).bu = fp (wgo p ps 0 (bs.getD p false)) := by
  have h := at_all bs ps p
  generalize brun 0 ps (b0 bs) = st at h ⊢
  cases h with
  | off cl h1 h2 h3 =>
    have := h3 []
    rw [List.append_nil] at this
    rw [this, h2]
    show cl = cl ++ fp [0]
    rw [show fp [0] = [] from rfl, List.append_nil]
  | on cl A B i m h1 h2 h3 h4 h5 h6 =>
    have := h6 []
    rw [List.append_nil] at this
    rw [this, h3, pgs_app, h4, pgs_yes (p := p) (t := (i, p, m + 1)) rfl, pgs_none h5]
    show cl ++ [m + 1] = cl ++ fp [m + 1]
    rw [show fp [m + 1] = [m + 1] by unfold fp; simp]
/-- sorted by pages -/
theorem flat_put {α : Type} (f : Nat → List α) (q : Nat) (c : α) : ∀ l : List Nat, l.Nodup → q ∈ l → (l.flatMap fun p => if q = p then c :: f p else f p).Perm (c :: l.flatMap f)
  | [], _, h => nomatch h
  | p :: l, nd, h => by
    obtain ⟨n1, n2⟩ := List.nodup_cons.mp nd
    rw [List.flatMap_cons, List.flatMap_cons]
    by_cases e : q = p
    · subst e
      rw [if_pos rfl]
      have same : (l.flatMap fun p => if q = p then c :: f p else f p) = l.flatMap f := by
        unfold List.flatMap
        congr 1
        exact List.map_congr_left fun p hp => if_neg fun z => n1 (by rw [z]; exact hp)
      rw [same]
      exact List.Perm.refl _
    · rw [if_neg e]
      have hq : q ∈ l := by
        rcases List.mem_cons.mp h with z | z
        · exact absurd z e
        · exact z
      exact ((flat_put f q c l n2 hq).append_left (f p)).trans List.perm_middle
theorem split_pages (n : Nat) : ∀ bu : List (Nat × Nat × Nat), (∀ t ∈ bu, t.2.1 < n) → (bu.map fun t => t.2.2).Perm ((List.range n).flatMap fun p => pgs p bu)
  | [], _ => by
    have : ((List.range n).flatMap fun p => pgs p []) = [] := by
      rw [List.flatMap_eq_nil_iff]
      intro _ _
      rfl
    rw [this]
    exact List.Perm.refl _
  | t :: bu, h => by
    have e : ((List.range n).flatMap fun p => pgs p (t :: bu)) = (List.range n).flatMap fun p => if t.2.1 = p then t.2.2 :: pgs p bu else pgs p bu := by
      unfold List.flatMap
      congr 1
      refine List.map_congr_left fun p _ => ?_
      by_cases z : t.2.1 = p
      · rw [if_pos z, pgs_yes z]
      · rw [if_neg z, pgs_no z]
    rw [e, List.map_cons]
    exact ((split_pages n bu fun x hx => h x (List.mem_cons_of_mem _ hx)).cons _).trans (flat_put _ _ _ _ List.nodup_range (List.mem_range.mpr (h t List.mem_cons_self))).symm
/-- indices ascend; the pages are pages; each begins where its page is bare and none is open -/
structure Ok (n : Nat) (bs : List Bool) (ps : List (Bool × Nat)) (bu : List (Nat × Nat × Nat)) : Prop where
  lt : ∀ t ∈ bu, t.1 < ps.length ∧ t.2.1 < n
  pw : bu.Pairwise fun a b => a.1 < b.1
  bg : ∀ t ∈ bu, ps[t.1]? = some (false, t.2.1) ∧ (brun 0 (ps.take t.1) (b0 bs)).bare t.2.1 = true ∧ (brun 0 (ps.take t.1) (b0 bs)).lat t.2.1 = none
theorem bump_mem {j : Nat} : ∀ {l : List (Nat × Nat × Nat)} {t : Nat × Nat × Nat}, t ∈ bump j l → ∃ c, (t.1, t.2.1, c) ∈ l := by
  induction j with
  | zero =>
    intro l t h
    cases l with
    | nil => simp [bump] at h
    | cons x l =>
      rw [bump_cons0] at h
      rcases List.mem_cons.mp h with rfl | h
      · exact ⟨x.2.2, List.mem_cons_self⟩
      · exact ⟨t.2.2, List.mem_cons_of_mem _ h⟩
  | succ j ih =>
    intro l t h
    cases l with
    | nil => simp [bump] at h
    | cons x l =>
      rw [bump_consS] at h
      rcases List.mem_cons.mp h with rfl | h
      · exact ⟨t.2.2, List.mem_cons_self⟩
      · obtain ⟨c, hc⟩ := ih h
        exact ⟨c, List.mem_cons_of_mem _ hc⟩
theorem bump_fst (j : Nat) : ∀ l : List (Nat × Nat × Nat), (bump j l).map (·.1) = l.map (·.1) := by
  induction j with
  | zero => intro l; cases l <;> rfl
  | succ j ih =>
    intro l
    cases l with
    | nil => rfl
    | cons x l => rw [bump_consS, List.map_cons, List.map_cons, ih]
theorem ok_all (n : Nat) (bs : List Bool) (ps : List (Bool × Nat)) : (∀ p ∈ ps, p.2 < n) → Ok n bs ps (brun 0 ps (b0 bs)).bu := by
  refine snoc_ind (P := fun ps => (∀ p ∈ ps, p.2 < n) → Ok n bs ps (brun 0 ps (b0 bs)).bu) (fun _ => ⟨(fun t ht => nomatch ht), List.Pairwise.nil, (fun t ht => nomatch ht)⟩) (fun ps d ih h => ?_) ps
  have o := ih fun p hp => h p (List.mem_append_left _ hp)
  have hd := h d (List.mem_append_right _ List.mem_cons_self)
  rw [brun_snoc, Nat.zero_add]
  have hst : brun 0 (ps.take ps.length) (b0 bs) = brun 0 ps (b0 bs) := by rw [List.take_length]
  generalize hs : brun 0 ps (b0 bs) = st at o ih hst ⊢
  have old : ∀ bu' : List (Nat × Nat × Nat), (∀ t ∈ bu', ∃ c, (t.1, t.2.1, c) ∈ st.bu) → bu'.map (·.1) = st.bu.map (·.1) → Ok n bs (ps ++ [d]) bu' := fun bu' h1 h2 => by
    refine ⟨fun t ht => ?_, ?_, fun t ht => ?_⟩
    · obtain ⟨c, hc⟩ := h1 t ht
      have := o.lt _ hc
      exact ⟨by rw [List.length_append]; exact Nat.lt_add_right _ this.1, this.2⟩
    · have := List.pairwise_map (f := fun (t : Nat × Nat × Nat) => t.1) (R := (· < ·)).mpr o.pw
      rw [← h2] at this
      exact List.pairwise_map.mp this
    · obtain ⟨c, hc⟩ := h1 t ht
      have l := (o.lt _ hc).1
      have b := o.bg _ hc
      rw [List.getElem?_append_left l, List.take_append_of_le_length (Nat.le_of_lt l)]
      exact b
  obtain ⟨w, q⟩ := d
  unfold bstep
  cases w with
  | true => exact old _ (fun t ht => ⟨t.2.2, ht⟩) rfl
  | false =>
    cases hb : st.bare q with
    | false => exact old _ (fun t ht => ⟨t.2.2, ht⟩) rfl
    | true =>
      cases hl : st.lat q with
      | some j => exact old _ (fun t ht => bump_mem ht) (bump_fst j st.bu)
      | none =>
        have o' := old st.bu (fun t ht => ⟨t.2.2, ht⟩) rfl
        refine ⟨fun t ht => ?_, ?_, fun t ht => ?_⟩
        · rcases List.mem_append.mp ht with ht | ht
          · exact o'.lt t ht
          · rw [List.mem_singleton.mp ht]; exact ⟨by simp, hd⟩
        · refine List.pairwise_append.mpr ⟨o.pw, List.pairwise_singleton _ _, fun a ha b hb' => ?_⟩
          rw [List.mem_singleton.mp hb']
          exact (o.lt a ha).1
        · rcases List.mem_append.mp ht with ht | ht
          · exact o'.bg t ht
          · rw [List.mem_singleton.mp ht]
            refine ⟨by simp, ?_, ?_⟩
            · show (brun 0 ((ps ++ [(false, q)]).take ps.length) (b0 bs)).bare q = true
              rw [List.take_left' rfl, hs]; exact hb
            · show (brun 0 ((ps ++ [(false, q)]).take ps.length) (b0 bs)).lat q = none
              rw [List.take_left' rfl, hs]; exact hl
theorem T1 {ps : List (Bool × Nat)} {bs : List Bool} (h : ∀ p ∈ ps, p.2 < bs.length) : (cnts (brun 0 ps (b0 bs)).bu).Perm (worth ps bs) := by
  have h1 := split_pages bs.length _ fun t ht => ((ok_all bs.length bs ps h).lt t ht).2
  have e : ((List.range bs.length).flatMap fun p => pgs p (brun 0 ps (b0 bs)).bu) = (wall ps bs bs.length).filter fun m => decide (0 < m) := by
    unfold wall
    rw [List.filter_flatMap]
    unfold List.flatMap
    congr 1
    exact List.map_congr_left fun p _ => pgs_end bs ps p
  rw [e] at h1
  have h2 := h1.map fun m : Nat => (m : Int)
  rw [List.map_map] at h2
  exact h2
theorem greedy_of : ∀ (sp : List Int) (bu : List (Nat × Nat × Nat)), (greedy sp bu).Sublist (bu.map fun t => (t.1, t.2.1))
  | _, [] => List.Sublist.slnil
  | sp, t :: r => by
    show (if (t.2.2 : Int) ∈ sp then (t.1, t.2.1) :: greedy (sp.erase t.2.2) r else greedy sp r).Sublist _
    split
    · exact (greedy_of _ r).cons_cons _
    · exact (greedy_of _ r).cons _
theorem greedy_le : ∀ (sp : List Int) (bu : List (Nat × Nat × Nat)), (greedy sp bu).length ≤ sp.length
  | _, [] => Nat.zero_le _
  | sp, t :: r => by
    show (if (t.2.2 : Int) ∈ sp then (t.1, t.2.1) :: greedy (sp.erase t.2.2) r else greedy sp r).length ≤ _
    split
    · rename_i hm
      have h1 := greedy_le (sp.erase t.2.2) r
      have h2 := List.length_erase_of_mem hm
      have h3 : 0 < sp.length := List.length_pos_of_mem hm
      simp only [List.length_cons]
      omega
    · exact greedy_le _ r
theorem T3 {ps : List (Bool × Nat)} {bs : List Bool} (h : ∀ p ∈ ps, p.2 < bs.length) (sp : List Int) : (greedy sp (brun 0 ps (b0 bs)).bu).length ≤ sp.length ∧ (∀ c ∈ greedy sp (brun 0 ps (b0 bs)).bu, c.1 < ps.length ∧ c.2 < bs.length) ∧ (greedy sp (brun 0 ps (b0 bs)).bu).Pairwise (fun a b => a.1 < b.1) := by
  have o := ok_all bs.length bs ps h
  refine ⟨greedy_le _ _, fun c hc => ?_, ?_⟩
  · obtain ⟨t, ht, rfl⟩ := List.mem_map.mp ((greedy_of _ _).subset hc)
    exact o.lt t ht
  · exact (List.pairwise_map (f := fun t : Nat × Nat × Nat => (t.1, t.2.1)).mpr o.pw).sublist (greedy_of _ _)
def ch (cl : List (Nat × Nat)) (i : Nat) : Bool := cl.any fun c => decide (c.1 = i)
theorem clr_all {i q : Nat} : ∀ {cl : List (Nat × Nat)} (now : List Bool), (∀ c ∈ cl, c.1 = i → c.2 = q) → clr i cl now = if ch cl i = true then now.set q true else now
  | [], now, _ => rfl
  | (g, p) :: r, now, h => by
    show clr i r (if g = i then now.set p true else now) = _
    rw [clr_all _ fun c hc => h c (List.mem_cons_of_mem _ hc)]
    by_cases e : g = i
    · have hp : p = q := h (g, p) List.mem_cons_self e
      rw [if_pos e, hp, List.set_set, show ch ((g, q) :: r) i = true by unfold ch; simp [e], if_pos rfl]
      split <;> rfl
    · rw [if_neg e, show ch ((g, p) :: r) i = ch r i by unfold ch; simp [e]]
def left_ (cl : List (Nat × Nat)) (bu : List (Nat × Nat × Nat)) : Nat := (bu.map fun t => if ch cl t.1 = true then 0 else t.2.2).sum
theorem left_app (cl : List (Nat × Nat)) (a b : List (Nat × Nat × Nat)) : left_ cl (a ++ b) = left_ cl a + left_ cl b := by unfold left_; rw [List.map_append, List.sum_append]
theorem left_cons (cl : List (Nat × Nat)) (t : Nat × Nat × Nat) (b : List (Nat × Nat × Nat)) : left_ cl (t :: b) = (if ch cl t.1 = true then 0 else t.2.2) + left_ cl b := by unfold left_; rw [List.map_cons, List.sum_cons]
def op (cl : List (Nat × Nat)) (st : BS) (p : Nat) : Bool := match st.lat p with
  | none => !st.bare p
  | some j => ch cl ((st.bu.map (·.1)).getD j 0)
theorem run_all {ps : List (Bool × Nat)} {bs : List Bool} {cl : List (Nat × Nat)} (h : ∀ p ∈ ps, p.2 < bs.length) (hcl : ∀ c ∈ cl, ps[c.1]? = some (false, c.2) ∧ (brun 0 (ps.take c.1) (b0 bs)).bare c.2 = true ∧ (brun 0 (ps.take c.1) (b0 bs)).lat c.2 = none) (qs : List (Bool × Nat)) :
    ∀ rest, ps = qs ++ rest → (∀ p, p < bs.length → (lrun cl 0 qs (bs, 0)).1[p]? = some (op cl (brun 0 qs (b0 bs)) p)) ∧ (lrun cl 0 qs (bs, 0)).2 = left_ cl (brun 0 qs (b0 bs)).bu := by
  refine snoc_ind (P := fun qs => ∀ rest, ps = qs ++ rest → (∀ p, p < bs.length → (lrun cl 0 qs (bs, 0)).1[p]? = some (op cl (brun 0 qs (b0 bs)) p)) ∧ (lrun cl 0 qs (bs, 0)).2 = left_ cl (brun 0 qs (b0 bs)).bu) (fun _ _ => ⟨fun p hp => ?_, rfl⟩) (fun qs d ih rest e => ?_) qs
  · show bs[p]? = some (!(!(bs.getD p false)))
    rw [Bool.not_not, List.getElem?_eq_getElem hp]
    simp [List.getD, hp]
  · have e' : ps = qs ++ (d :: rest) := by rw [e, List.append_assoc]; rfl
    obtain ⟨ia, ib⟩ := ih _ e'
    have hq := h d (by rw [e']; exact List.mem_append_right _ List.mem_cons_self)
    have hat := at_all bs qs
    have key : ∀ c ∈ cl, c.1 = qs.length → d = (false, c.2) ∧ (brun 0 qs (b0 bs)).bare c.2 = true ∧ (brun 0 qs (b0 bs)).lat c.2 = none := fun c hc hi => by
      obtain ⟨h1, h2, h3⟩ := hcl c hc
      rw [hi, e', List.getElem?_append_right (Nat.le_refl _), Nat.sub_self] at h1
      rw [hi, e', List.take_left' rfl] at h2 h3
      exact ⟨Option.some.inj h1, h2, h3⟩
    rw [brun_snoc, lrun_snoc, Nat.zero_add]
    generalize brun 0 qs (b0 bs) = st at ia ib hat key ⊢
    have hlen : (lrun cl 0 qs (bs, 0)).1.length = bs.length := lrun_len _ _ _ _
    generalize lrun cl 0 qs (bs, 0) = s at ia ib hlen ⊢
    obtain ⟨w, q⟩ := d
    have hq : q < bs.length := hq
    have hc := clr_all (i := qs.length) (q := q) (cl := cl) s.1 fun c hc hi => (congrArg Prod.snd (key c hc hi).1).symm
    have no : (w = true ∨ st.bare q = false ∨ st.lat q ≠ none) → ch cl qs.length = false := fun z => by
      cases hch : ch cl qs.length with
      | false => rfl
      | true =>
        unfold ch at hch
        obtain ⟨c, hc1, hc2⟩ := List.any_eq_true.mp hch
        obtain ⟨k1, k2, k3⟩ := key c hc1 (of_decide_eq_true hc2)
        cases k1
        rcases z with z | z | z
        · cases z
        · rw [k2] at z; cases z
        · exact absurd k3 z
    have hlt : ∀ p j, st.lat p = some j → j < st.bu.length := fun p j hj => by
      cases hat p with
      | off cl' h1 => rw [h1] at hj; cases hj
      | on cl' A B i m h1 h2 h3 => rw [h1] at hj; cases hj; rw [h3]; simp
    have nq := ia q hq
    cases w with
    | true =>
      rw [no (.inl rfl), if_neg Bool.false_ne_true] at hc
      have es : lstep cl qs.length s (true, q) = (s.1.set q false, s.2) := by unfold lstep; rw [if_pos rfl, hc]
      rw [es, show bstep qs.length st (true, q) = ⟨fput st.bare q true, fput st.lat q none, st.bu⟩ from if_pos rfl]
      refine ⟨fun p hp => ?_, ib⟩
      by_cases z : p = q
      · subst z
        rw [List.getElem?_set_self (by rw [hlen]; exact hp)]
        unfold op fput
        simp
      · rw [List.getElem?_set_ne (Ne.symm z), ia p hp]
        unfold op fput
        simp [z]
    | false =>
      cases hb : st.bare q with
      | false =>
        rw [no (.inr (.inl hb)), if_neg Bool.false_ne_true] at hc
        have hl : st.lat q = none := by
          cases hat q with
          | off cl' h1 => exact h1
          | on cl' A B i m h1 h2 => rw [h2] at hb; cases hb
        have nq : s.1[q]? = some true := by rw [nq]; unfold op; rw [hl]; simp [hb]
        rw [show bstep qs.length st (false, q) = st from (if_neg Bool.false_ne_true).trans (if_neg (by rw [hb]; exact Bool.false_ne_true)),
          show lstep cl qs.length s (false, q) = (s.1, s.2) by unfold lstep; rw [if_neg Bool.false_ne_true, hc, if_pos nq]]
        exact ⟨ia, ib⟩
      | true =>
        cases hl : st.lat q with
        | none =>
          rw [show bstep qs.length st (false, q) = ⟨st.bare, fput st.lat q (some st.bu.length), st.bu ++ [(qs.length, q, 1)]⟩ by unfold bstep; rw [if_neg Bool.false_ne_true, hb, if_pos rfl, hl]]
          have nq : s.1[q]? = some false := by rw [nq]; unfold op; rw [hl]; simp [hb]
          have same : ∀ p, p ≠ q → op cl ⟨st.bare, fput st.lat q (some st.bu.length), st.bu ++ [(qs.length, q, 1)]⟩ p = op cl st p := fun p z => by
            unfold op fput
            simp only [z, if_false]
            cases hp : st.lat p with
            | none => rfl
            | some j =>
              have := hlt p j hp
              simp [List.getD, List.getElem?_append_left this]
              rw [List.getElem?_append_left (by simpa using this), List.getElem?_map]
          have self : op cl ⟨st.bare, fput st.lat q (some st.bu.length), st.bu ++ [(qs.length, q, 1)]⟩ q = ch cl qs.length := by
            unfold op fput
            simp [List.getD]
          cases hch : ch cl qs.length with
          | true =>
            rw [hch, if_pos rfl] at hc
            have nq' : (s.1.set q true)[q]? = some true := List.getElem?_set_self (by rw [hlen]; exact hq)
            rw [show lstep cl qs.length s (false, q) = (s.1.set q true, s.2) by unfold lstep; rw [if_neg Bool.false_ne_true, hc, if_pos nq']]
            refine ⟨fun p hp => ?_, ?_⟩
            · by_cases z : p = q
              · rw [z, nq', self, hch]
              · rw [List.getElem?_set_ne (Ne.symm z), same p z]; exact ia p hp
            · show s.2 = left_ cl (st.bu ++ [(qs.length, q, 1)])
              rw [left_app, left_cons, if_pos hch, ← ib]; rfl
          | false =>
            rw [hch, if_neg Bool.false_ne_true] at hc
            rw [show lstep cl qs.length s (false, q) = (s.1, s.2 + 1) by unfold lstep; rw [if_neg Bool.false_ne_true, hc, if_neg (by rw [nq]; decide)]]
            refine ⟨fun p hp => ?_, ?_⟩
            · by_cases z : p = q
              · rw [z, nq, self, hch]
              · rw [same p z]; exact ia p hp
            · show s.2 + 1 = left_ cl (st.bu ++ [(qs.length, q, 1)])
              rw [left_app, left_cons, if_neg (by rw [hch]; exact Bool.false_ne_true), ← ib]; rfl
        | some j =>
          rw [no (.inr (.inr (by rw [hl]; exact fun z => nomatch z))), if_neg Bool.false_ne_true] at hc
          rw [show bstep qs.length st (false, q) = ⟨st.bare, st.lat, bump j st.bu⟩ by unfold bstep; rw [if_neg Bool.false_ne_true, hb, if_pos rfl, hl]]
          have same : ∀ p, op cl ⟨st.bare, st.lat, bump j st.bu⟩ p = op cl st p := fun p => by
            unfold op
            rw [bump_fst]
          cases hat q with
          | off cl' h1 => rw [h1] at hl; cases hl
          | on cl' A B i m h1 h2 h3 h4 h5 h6 =>
            rw [h1] at hl
            cases hl
            have nq : s.1[q]? = some (ch cl i) := by rw [nq]; unfold op; rw [h1, h3]; simp [List.getD]
            rw [h3] at ib
            cases hch : ch cl i with
            | true =>
              rw [hch] at nq
              rw [show lstep cl qs.length s (false, q) = (s.1, s.2) by unfold lstep; rw [if_neg Bool.false_ne_true, hc, if_pos nq]]
              refine ⟨fun p hp => by rw [same]; exact ia p hp, ?_⟩
              show s.2 = left_ cl (bump A.length st.bu)
              rw [h3, bump_mid, ib, left_app, left_app, left_cons, left_cons, if_pos hch, if_pos hch]
            | false =>
              rw [hch] at nq
              rw [show lstep cl qs.length s (false, q) = (s.1, s.2 + 1) by unfold lstep; rw [if_neg Bool.false_ne_true, hc, if_neg (by rw [nq]; decide)]]
              refine ⟨fun p hp => by rw [same]; exact ia p hp, ?_⟩
              show s.2 + 1 = left_ cl (bump A.length st.bu)
              have hn : ¬ ch cl i = true := by rw [hch]; exact Bool.false_ne_true
              rw [h3, bump_mid, ib, left_app, left_app, left_cons, left_cons, if_neg hn, if_neg hn]
              show _ = _
              simp only []
              omega
theorem perm_sum {a b : List Int} (h : a.Perm b) : a.sum = b.sum := by
  induction h with
  | nil => rfl
  | cons x _ ih => rw [List.sum_cons, List.sum_cons, ih]
  | swap x y l => rw [List.sum_cons, List.sum_cons, List.sum_cons, List.sum_cons]; omega
  | trans _ _ ih1 ih2 => rw [ih1, ih2]
theorem greedy_left : ∀ (bu : List (Nat × Nat × Nat)) (sp rest : List Int), (bu.Pairwise fun a b => a.1 < b.1) → (sp ++ rest).Perm (cnts bu) → ((left_ (greedy sp bu) bu : Nat) : Int) = rest.sum
  | [], sp, rest, _, h => by
    have := h.length_eq
    have e : rest = [] := by
      cases rest with
      | nil => rfl
      | cons a r => rw [List.length_append] at this; simp [cnts] at this
    rw [e]; rfl
  | t :: r, sp, rest, pw, h => by
    obtain ⟨p1, p2⟩ := List.pairwise_cons.mp pw
    have hx : ∀ (g : List (Nat × Nat)) (c : Nat × Nat), c.1 = t.1 → left_ (c :: g) r = left_ g r := fun g c hc => by
      unfold left_
      congr 1
      refine List.map_congr_left fun x hx => ?_
      have : ¬ t.1 = x.1 := Nat.ne_of_lt (p1 x hx)
      rw [show ch (c :: g) x.1 = ch g x.1 by unfold ch; rw [List.any_cons, hc]; simp [this]]
    rw [left_cons]
    by_cases hm : (t.2.2 : Int) ∈ sp
    · rw [show greedy sp (t :: r) = (t.1, t.2.1) :: greedy (sp.erase t.2.2) r from if_pos hm, if_pos (by unfold ch; simp), hx _ _ rfl, Nat.zero_add]
      refine greedy_left r _ rest p2 ?_
      have := h.erase (t.2.2 : Int)
      rw [List.erase_append_left _ hm] at this
      rw [show (cnts (t :: r)).erase (t.2.2 : Int) = cnts r by unfold cnts; simp] at this
      exact this
    · rw [show greedy sp (t :: r) = greedy sp r from if_neg hm]
      have hr : (t.2.2 : Int) ∈ rest := by
        have := h.mem_iff.mpr (show (t.2.2 : Int) ∈ cnts (t :: r) from List.mem_cons_self)
        rcases List.mem_append.mp this with z | z
        · exact absurd z hm
        · exact z
      have := h.erase (t.2.2 : Int)
      rw [List.erase_append_right _ hm, show (cnts (t :: r)).erase (t.2.2 : Int) = cnts r by unfold cnts; simp] at this
      have ih := greedy_left r sp _ p2 this
      have hn : ¬ ch (greedy sp r) t.1 = true := fun z => by
        unfold ch at z
        obtain ⟨c, hc1, hc2⟩ := List.any_eq_true.mp z
        obtain ⟨x, hx1, hx2⟩ := List.mem_map.mp ((greedy_of _ _).subset hc1)
        have h1 := p1 x hx1
        have h2 := of_decide_eq_true hc2
        rw [← hx2] at h2
        simp at h2
        omega
      rw [if_neg hn]
      have hs := perm_sum (List.perm_cons_erase hr)
      rw [List.sum_cons] at hs
      rw [hs, ← ih]
      simp
theorem T2 {ps : List (Bool × Nat)} {bs : List Bool} (h : ∀ p ∈ ps, p.2 < bs.length) (k : Nat) {ns : List Int} (hp : ns.Perm (cnts (brun 0 ps (b0 bs)).bu)) : ((lrun (greedy (ns.take k) (brun 0 ps (b0 bs)).bu) 0 ps (bs, 0)).2 : Int) = (ns.drop k).sum := by
  have o := ok_all bs.length bs ps h
  have hr := run_all (cl := greedy (ns.take k) (brun 0 ps (b0 bs)).bu) h (fun c hc => by
    obtain ⟨t, ht, rfl⟩ := List.mem_map.mp ((greedy_of _ _).subset hc)
    exact o.bg t ht) ps [] (List.append_nil _).symm
  rw [hr.2]
  exact greedy_left _ _ _ o.pw (by rw [List.take_append_drop]; exact hp)
end Toy
set_option Elab.async false
set_option linter.all false
set_option maxRecDepth 100000
set_option maxHeartbeats 4000000
namespace Toy
open PySem PySem.Spec PyProof.Rows L2 DX
/-! any cleanings leave at least what the sums say -/
/-- the counts whose place is not in H -/
def ws (H : List Nat) : Nat → List Nat → Nat
  | _, [] => 0
  | k, t :: r => (if k ∈ H then 0 else t) + ws H (k + 1) r
theorem ws_app (H : List Nat) : ∀ (k : Nat) (a b : List Nat), ws H k (a ++ b) = ws H k a + ws H (k + a.length) b
  | _, [], _ => by simp [ws]
  | k, t :: r, b => by
    show (if k ∈ H then 0 else t) + ws H (k + 1) (r ++ b) = (if k ∈ H then 0 else t) + ws H (k + 1) r + ws H (k + (r.length + 1)) b
    rw [ws_app H (k + 1) r b, show k + 1 + r.length = k + (r.length + 1) by omega]
    omega
theorem ws_mono (H : List Nat) (j : Nat) : ∀ (k : Nat) (a : List Nat), ws (j :: H) k a ≤ ws H k a
  | _, [] => Nat.le_refl _
  | k, t :: r => by
    show (if k ∈ j :: H then 0 else t) + ws (j :: H) (k + 1) r ≤ (if k ∈ H then 0 else t) + ws H (k + 1) r
    have := ws_mono H j (k + 1) r
    by_cases h : k ∈ H
    · rw [if_pos (List.mem_cons_of_mem _ h), if_pos h]; omega
    · rw [if_neg h]; split <;> omega
theorem ws_set (H : List Nat) (j : Nat) : ∀ (k : Nat) (a : List Nat), ws ((j + k) :: H) k a = ws H k (a.set j 0)
  | k, a => by
    induction a generalizing j k with
    | nil => rfl
    | cons t r ih =>
      cases j with
      | zero =>
        show (if k ∈ (0 + k) :: H then 0 else t) + ws ((0 + k) :: H) (k + 1) r = (if k ∈ H then 0 else 0) + ws H (k + 1) r
        rw [if_pos (by simp)]
        have : ∀ (m : Nat) (l : List Nat), k < m → ws ((0 + k) :: H) m l = ws H m l := by
          intro m l
          induction l generalizing m with
          | nil => intro _; rfl
          | cons a b ib =>
            intro hm
            show (if m ∈ (0 + k) :: H then 0 else a) + ws ((0 + k) :: H) (m + 1) b = (if m ∈ H then 0 else a) + ws H (m + 1) b
            rw [ib (m + 1) (by omega)]
            have : (m ∈ (0 + k) :: H) ↔ m ∈ H := by
              rw [List.mem_cons]
              constructor
              · rintro (z | z)
                · omega
                · exact z
              · exact .inr
            simp only [this]
        rw [this (k + 1) r (by omega)]
        split <;> omega
      | succ j =>
        show (if k ∈ (j + 1 + k) :: H then 0 else t) + ws ((j + 1 + k) :: H) (k + 1) r = (if k ∈ H then 0 else t) + ws H (k + 1) (r.set j 0)
        rw [← ih j (k + 1), show j + 1 + k = j + (k + 1) by omega]
        have : (k ∈ (j + (k + 1)) :: H) ↔ k ∈ H := by
          rw [List.mem_cons]
          constructor
          · rintro (z | z)
            · omega
            · exact z
          · exact .inr
        simp only [this]
theorem ws_nil : ∀ (k : Nat) (a : List Nat), ws [] k a = a.sum
  | _, [] => rfl
  | k, t :: r => by
    show (if k ∈ ([] : List Nat) then 0 else t) + ws [] (k + 1) r = (t :: r).sum
    rw [ws_nil (k + 1) r, if_neg List.not_mem_nil, List.sum_cons]
theorem set_perm {j : Nat} {y : Nat} : ∀ {a : List Nat}, j < a.length → (a.set j y).Perm (y :: a.eraseIdx j) := by
  intro a
  induction a generalizing j with
  | nil => intro h; cases h
  | cons t r ih =>
    intro h
    cases j with
    | zero => exact List.Perm.refl _
    | succ j =>
      show (t :: r.set j y).Perm (y :: t :: r.eraseIdx j)
      exact ((ih (by simpa using h)).cons t).trans (List.Perm.swap _ _ _)
theorem eraseIdx_perm {j : Nat} : ∀ {a : List Nat} (h : j < a.length), a.Perm (a[j] :: a.eraseIdx j) := by
  intro a
  induction a generalizing j with
  | nil => intro h; cases h
  | cons t r ih =>
    intro h
    cases j with
    | zero => exact List.Perm.refl _
    | succ j =>
      have h' : j < r.length := by simpa using h
      show (t :: r).Perm (r[j] :: t :: r.eraseIdx j)
      exact ((ih h').cons t).trans (List.Perm.swap _ _ _)
/-- the largest taken away is the most that one can take away -/
theorem drop_erase {x : Int} : ∀ {ns : List Int}, ns.Pairwise (· ≥ ·) → x ∈ ns → ∀ m, (ns.drop (m + 1)).sum ≤ ((ns.erase x).drop m).sum
  | a :: r, pw, hx, m => by
    obtain ⟨p1, p2⟩ := List.pairwise_cons.mp pw
    by_cases e : a = x
    · subst e; rw [List.erase_cons_head]; exact Int.le_refl _
    · have hr : x ∈ r := (List.mem_cons.mp hx).resolve_left fun z => e z.symm
      rw [List.erase_cons_tail (by simpa using e)]
      cases m with
      | zero =>
        show r.sum ≤ (a :: r.erase x).sum
        have h1 := p1 x hr
        have h2 := perm_sum (List.perm_cons_erase hr)
        rw [List.sum_cons] at h2 ⊢
        omega
      | succ m => exact drop_erase p2 hr m
theorem drop_app0 (l : List Int) (m : Nat) : ((l ++ [0]).drop m).sum = (l.drop m).sum := by
  rw [List.drop_append]
  rw [List.sum_append]
  rcases Nat.lt_or_ge l.length m with h | h
  · rw [show ([0] : List Int).drop (m - l.length) = [] from List.drop_eq_nil_iff.mpr (by simp; omega)]; simp
  · rw [show m - l.length = 0 by omega]; simp
theorem ws_ge : ∀ (H : List Nat) (c : List Nat) (ns : List Int), ns.Perm (c.map fun t : Nat => (t : Int)) → ns.Pairwise (· ≥ ·) → (ns.drop H.length).sum ≤ (ws H 0 c : Int)
  | [], c, ns, h, _ => by
    rw [ws_nil]
    show ns.sum ≤ _
    rw [perm_sum h]
    have : ∀ c : List Nat, (c.map fun t : Nat => (t : Int)).sum = (c.sum : Nat) := by
      intro c
      induction c with
      | nil => rfl
      | cons a r ih => rw [List.map_cons, List.sum_cons, List.sum_cons, ih]; simp
    rw [this]
    exact Int.le_refl _
  | j :: H, c, ns, h, pw => by
    have nn : ∀ x ∈ ns, (0 : Int) ≤ x := fun x hx => by
      obtain ⟨t, _, rfl⟩ := List.mem_map.mp (h.mem_iff.mp hx)
      exact Int.natCast_nonneg t
    by_cases hj : j < c.length
    · have e := ws_set H j 0 c
      rw [Nat.add_zero] at e
      rw [e]
      have hx : ((c[j] : Nat) : Int) ∈ ns := h.mem_iff.mpr (List.mem_map.mpr ⟨c[j], List.getElem_mem hj, rfl⟩)
      have hp : (ns.erase ((c[j] : Nat) : Int) ++ [0]).Perm ((c.set j 0).map fun t : Nat => (t : Int)) := by
        have h1 := ((set_perm (y := 0) hj).map fun t : Nat => (t : Int)).symm
        refine (List.perm_append_comm.trans ?_).trans h1
        refine List.Perm.cons _ ?_
        have h2 := h.trans ((eraseIdx_perm hj).map fun t : Nat => (t : Int))
        have h3 := h2.erase ((c[j] : Nat) : Int)
        rw [List.map_cons, List.erase_cons_head] at h3
        exact h3
      have hw : (ns.erase ((c[j] : Nat) : Int) ++ [0]).Pairwise (· ≥ ·) := List.pairwise_append.mpr ⟨pw.sublist List.erase_sublist, List.pairwise_singleton _ _, fun a ha b hb => by
        rw [List.mem_singleton.mp hb]
        exact nn a (List.mem_of_mem_erase ha)⟩
      have ih := ws_ge H _ _ hp hw
      rw [drop_app0] at ih
      exact Int.le_trans (drop_erase pw hx H.length) ih
    · have e := ws_set H j 0 c
      rw [Nat.add_zero, List.set_eq_of_length_le (by omega)] at e
      rw [e]
      have ih := ws_ge H c ns h pw
      refine Int.le_trans ?_ ih
      show (ns.drop (H.length + 1)).sum ≤ _
      have : ns.drop H.length = [] ∨ ∃ a, a ∈ ns ∧ ns.drop H.length = a :: ns.drop (H.length + 1) := by
        rcases Nat.lt_or_ge H.length ns.length with z | z
        · exact .inr ⟨ns[H.length], List.getElem_mem z, List.drop_eq_getElem_cons z⟩
        · exact .inl (List.drop_eq_nil_iff.mpr z)
      rcases this with z | ⟨a, ha, z⟩
      · rw [z, List.drop_eq_nil_iff.mpr (by have := List.drop_eq_nil_iff.mp z; omega)]
        exact Int.le_refl _
      · rw [z, List.sum_cons]
        have := nn a ha
        omega
/-- what the bursts' counts are -/
def cn (bu : List (Nat × Nat × Nat)) : List Nat := bu.map fun t => t.2.2
theorem cn_cnts (bu : List (Nat × Nat × Nat)) : cnts bu = (cn bu).map fun t : Nat => (t : Int) := by unfold cnts cn; rw [List.map_map]; rfl
theorem ws_bump (H : List Nat) : ∀ (k j : Nat) (bu : List (Nat × Nat × Nat)), ws H k (cn (bump j bu)) ≤ ws H k (cn bu) + (if j + k ∈ H then 0 else 1)
  | k, j, [] => by
    show ws H k (cn (bump j [])) ≤ _
    have : bump j ([] : List (Nat × Nat × Nat)) = [] := by unfold bump; cases j <;> rfl
    rw [this]; exact Nat.le_add_right _ _
  | k, 0, t :: r => by
    rw [bump_cons0]
    show (if k ∈ H then 0 else t.2.2 + 1) + ws H (k + 1) (cn r) ≤ (if k ∈ H then 0 else t.2.2) + ws H (k + 1) (cn r) + (if 0 + k ∈ H then 0 else 1)
    rw [Nat.zero_add]
    split <;> omega
  | k, j + 1, t :: r => by
    rw [bump_consS]
    show (if k ∈ H then 0 else t.2.2) + ws H (k + 1) (cn (bump j r)) ≤ (if k ∈ H then 0 else t.2.2) + ws H (k + 1) (cn r) + (if j + 1 + k ∈ H then 0 else 1)
    have := ws_bump H (k + 1) j r
    rw [show j + (k + 1) = j + 1 + k by omega] at this
    omega
/-- what has been hit -/
structure Hit (n : Nat) (s : List Bool × Nat) (st : BS) (m : Nat) (H Pn : List Nat) : Prop where
  le : H.length + Pn.length ≤ m
  cnt : ws H 0 (cn st.bu) ≤ s.2
  on : ∀ p, p < n → s.1[p]? = some true → st.bare p = true → (∀ j, st.lat p = some j → j ∈ H) ∧ (st.lat p = none → p ∈ Pn)
  off : ∀ p, p < n → st.bare p = false → s.1[p]? = some true
/-- those of the cleanings that come at i -/
def at_i (cl : List (Nat × Nat)) (i : Nat) : List (Nat × Nat) := cl.filter fun c => decide (c.1 = i)
theorem hit_clr {n i : Nat} {st : BS} {c : Nat} : ∀ (cl : List (Nat × Nat)) (now : List Bool) (m : Nat) (H Pn : List Nat), now.length = n → Hit n (now, c) st m H Pn → ∃ H' Pn', Hit n (clr i cl now, c) st (m + (at_i cl i).length) H' Pn'
  | [], now, m, H, Pn, _, h => ⟨H, Pn, h⟩
  | (g, p) :: r, now, m, H, Pn, hn, h => by
    by_cases e : g = i
    · have e1 : clr i ((g, p) :: r) now = clr i r (now.set p true) := by
        show clr i r (if g = i then now.set p true else now) = _
        rw [if_pos e]
      have e2 : (at_i ((g, p) :: r) i).length = (at_i r i).length + 1 := by unfold at_i; rw [List.filter_cons, if_pos (by simpa using e)]; rfl
      have key : ∃ H' Pn', Hit n (now.set p true, c) st (m + 1) H' Pn' := by
        have off' : ∀ q, q < n → st.bare q = false → (now.set p true)[q]? = some true := fun q hq hb => by
          by_cases z : q = p
          · subst z; exact List.getElem?_set_self (by omega)
          · rw [List.getElem?_set_ne (Ne.symm z)]; exact h.off q hq hb
        have oth : ∀ q, q ≠ p → (now.set p true)[q]? = some true → now[q]? = some true := fun q z hq => by rwa [List.getElem?_set_ne (Ne.symm z)] at hq
        cases hl : st.lat p with
        | none =>
          refine ⟨H, p :: Pn, ⟨by have := h.le; simp only [List.length_cons]; omega, h.cnt, fun q hq hs hb => ?_, off'⟩⟩
          by_cases z : q = p
          · subst z; exact ⟨fun j hj => (by rw [hl] at hj; cases hj), fun _ => List.mem_cons_self⟩
          · have := h.on q hq (oth q z hs) hb
            exact ⟨this.1, fun y => List.mem_cons_of_mem _ (this.2 y)⟩
        | some j =>
          refine ⟨j :: H, Pn, ⟨by have := h.le; simp only [List.length_cons]; omega, Nat.le_trans (ws_mono H j 0 _) h.cnt, fun q hq hs hb => ?_, off'⟩⟩
          by_cases z : q = p
          · subst z; exact ⟨fun j' hj => by rw [hl] at hj; cases hj; exact List.mem_cons_self, fun y => by rw [hl] at y; cases y⟩
          · have := h.on q hq (oth q z hs) hb
            exact ⟨fun j' hj => List.mem_cons_of_mem _ (this.1 j' hj), this.2⟩
      obtain ⟨H1, P1, h1⟩ := key
      obtain ⟨H2, P2, h2⟩ := hit_clr r (now.set p true) (m + 1) H1 P1 (by rw [List.length_set]; exact hn) h1
      refine ⟨H2, P2, ?_⟩
      rw [e1, e2, show m + ((at_i r i).length + 1) = m + 1 + (at_i r i).length by omega]
      exact h2
    · have e1 : clr i ((g, p) :: r) now = clr i r now := by
        show clr i r (if g = i then now.set p true else now) = _
        rw [if_neg e]
      have e2 : at_i ((g, p) :: r) i = at_i r i := by unfold at_i; rw [List.filter_cons, if_neg (by simpa using e)]
      rw [e1, e2]
      exact hit_clr r now m H Pn hn h
theorem hit_step {n i m : Nat} {st : BS} {c : Nat} {H Pn : List Nat} {cl : List (Nat × Nat)} {s : List Bool} (d : Bool × Nat) (hd : d.2 < n) (hlen : (clr i cl s).length = n) (hlat : ∀ p j, st.lat p = some j → st.bare p = true ∧ j < st.bu.length) (h : Hit n (clr i cl s, c) st m H Pn) :
    ∃ H' Pn', Hit n (lstep cl i (s, c) d) (bstep i st d) m H' Pn' := by
  obtain ⟨w, q⟩ := d
  have hq : q < n := hd
  unfold lstep
  show ∃ H' Pn', Hit n (if w = true then ((clr i cl s).set q false, c) else if (clr i cl s)[q]? = some true then (clr i cl s, c) else (clr i cl s, c + 1)) (bstep i st (w, q)) m H' Pn'
  generalize clr i cl s = now at h hlen ⊢
  cases w with
  | true =>
    rw [if_pos rfl, show bstep i st (true, q) = ⟨fput st.bare q true, fput st.lat q none, st.bu⟩ from if_pos rfl]
    refine ⟨H, Pn, ⟨h.le, h.cnt, fun p hp hs hb => ?_, fun p hp hb => ?_⟩⟩
    · by_cases z : p = q
      · subst z
        rw [List.getElem?_set_self (by omega)] at hs
        cases hs
      · rw [List.getElem?_set_ne (Ne.symm z)] at hs
        have hb : (if p = q then true else st.bare p) = true := hb
        rw [if_neg z] at hb
        have := h.on p hp hs hb
        unfold fput
        simpa [z] using this
    · have hb : (if p = q then true else st.bare p) = false := hb
      by_cases z : p = q
      · rw [if_pos z] at hb; cases hb
      · rw [if_neg z] at hb
        rw [List.getElem?_set_ne (Ne.symm z)]
        exact h.off p hp hb
  | false =>
    rw [if_neg Bool.false_ne_true]
    cases hb : st.bare q with
    | false =>
      rw [show bstep i st (false, q) = st from (if_neg Bool.false_ne_true).trans (if_neg (by rw [hb]; exact Bool.false_ne_true)), if_pos (h.off q hq hb)]
      exact ⟨H, Pn, h⟩
    | true =>
      cases hl : st.lat q with
      | none =>
        rw [show bstep i st (false, q) = ⟨st.bare, fput st.lat q (some st.bu.length), st.bu ++ [(i, q, 1)]⟩ by unfold bstep; rw [if_neg Bool.false_ne_true, hb, if_pos rfl, hl]]
        have ewc : ∀ H : List Nat, ws H 0 (cn (st.bu ++ [(i, q, 1)])) = ws H 0 (cn st.bu) + (if st.bu.length ∈ H then 0 else 1) := fun H => by
          unfold cn
          rw [List.map_append, ws_app, List.length_map, Nat.zero_add]
          show _ + ((if st.bu.length ∈ H then 0 else 1) + 0) = _
          rfl
        by_cases hn : now[q]? = some true
        · rw [if_pos hn]
          have hP := (h.on q hq hn hb).2 hl
          refine ⟨st.bu.length :: H, Pn.erase q, ⟨?_, ?_, fun p hp hs hb' => ?_, h.off⟩⟩
          · have h1 := List.length_erase_of_mem hP
            have h2 := List.length_pos_of_mem hP
            have h3 := h.le
            simp only [List.length_cons]; omega
          · show ws (st.bu.length :: H) 0 (cn (st.bu ++ [(i, q, 1)])) ≤ c
            rw [ewc, if_pos List.mem_cons_self]
            exact Nat.le_trans (ws_mono H _ 0 _) h.cnt
          · by_cases z : p = q
            · subst z
              unfold fput
              simp
            · have := h.on p hp hs hb'
              unfold fput
              simp only [z, if_false]
              exact ⟨fun j hj => List.mem_cons_of_mem _ (this.1 j hj), fun y => (List.mem_erase_of_ne z).mpr (this.2 y)⟩
        · rw [if_neg hn]
          refine ⟨H, Pn, ⟨h.le, ?_, fun p hp hs hb' => ?_, h.off⟩⟩
          · show ws H 0 (cn (st.bu ++ [(i, q, 1)])) ≤ c + 1
            rw [ewc]
            have := h.cnt
            have hc : ws H 0 (cn st.bu) ≤ c := this
            split <;> omega
          · by_cases z : p = q
            · subst z; exact absurd hs hn
            · have := h.on p hp hs hb'
              unfold fput
              simp only [z, if_false]
              exact this
      | some j =>
        rw [show bstep i st (false, q) = ⟨st.bare, st.lat, bump j st.bu⟩ by unfold bstep; rw [if_neg Bool.false_ne_true, hb, if_pos rfl, hl]]
        have hw := ws_bump H 0 j st.bu
        have hc : ws H 0 (cn st.bu) ≤ c := h.cnt
        by_cases hn : now[q]? = some true
        · rw [if_pos hn]
          have hj := (h.on q hq hn hb).1 j hl
          rw [Nat.add_zero, if_pos hj] at hw
          exact ⟨H, Pn, ⟨h.le, Nat.le_trans hw hc, h.on, h.off⟩⟩
        · rw [if_neg hn]
          refine ⟨H, Pn, ⟨h.le, ?_, h.on, h.off⟩⟩
          show ws H 0 (cn (bump j st.bu)) ≤ c + 1
          split at hw <;> omega
/-- how many of the cleanings come ahead of i -/
def upto (cl : List (Nat × Nat)) (i : Nat) : Nat := (cl.filter fun c => decide (c.1 < i)).length
theorem upto_succ (cl : List (Nat × Nat)) (i : Nat) : upto cl (i + 1) = upto cl i + (at_i cl i).length := by
  unfold upto at_i
  induction cl with
  | nil => rfl
  | cons c r ih =>
    simp only [List.filter_cons]
    by_cases h1 : c.1 < i
    · rw [if_pos (by simp; omega), if_pos (by simpa using h1), if_neg (by simp; omega)]; simp only [List.length_cons]; omega
    · by_cases h2 : c.1 = i
      · rw [if_pos (by simp; omega), if_neg (by simpa using h1), if_pos (by simpa using h2)]; simp only [List.length_cons]; omega
      · rw [if_neg (by simp; omega), if_neg (by simpa using h1), if_neg (by simpa using h2)]; omega
theorem upto_le (cl : List (Nat × Nat)) (i : Nat) : upto cl i ≤ cl.length := List.length_filter_le _ _
theorem hit_all {ps : List (Bool × Nat)} {bs : List Bool} (cl : List (Nat × Nat)) : (∀ p ∈ ps, p.2 < bs.length) → ∃ H Pn, Hit bs.length (lrun cl 0 ps (bs, 0)) (brun 0 ps (b0 bs)) (upto cl ps.length) H Pn := by
  refine snoc_ind (P := fun ps => (∀ p ∈ ps, p.2 < bs.length) → ∃ H Pn, Hit bs.length (lrun cl 0 ps (bs, 0)) (brun 0 ps (b0 bs)) (upto cl ps.length) H Pn) (fun _ => ⟨[], [], ⟨Nat.zero_le _, Nat.le_refl _, fun p hp hs hb => ?_, fun p hp hb => ?_⟩⟩) (fun qs d ih h => ?_) ps
  · have hs : bs[p]? = some true := hs
    have hb : (!(bs.getD p false)) = true := hb
    rw [List.getD_eq_getElem?_getD, hs] at hb
    cases hb
  · have hb : (!(bs.getD p false)) = false := hb
    show bs[p]? = some true
    rw [List.getD_eq_getElem?_getD, List.getElem?_eq_getElem hp] at hb
    rw [List.getElem?_eq_getElem hp]
    simpa using hb
  · obtain ⟨H, Pn, hh⟩ := ih fun p hp => h p (List.mem_append_left _ hp)
    rw [brun_snoc, lrun_snoc, Nat.zero_add, List.length_append, List.length_singleton, upto_succ]
    have hlen : (lrun cl 0 qs (bs, 0)).1.length = bs.length := lrun_len _ _ _ _
    have hat := at_all bs qs
    generalize brun 0 qs (b0 bs) = st at hh hat ⊢
    generalize lrun cl 0 qs (bs, 0) = s at hh hlen ⊢
    obtain ⟨now, c⟩ := s
    obtain ⟨H1, P1, h1⟩ := hit_clr (i := qs.length) cl now _ H Pn hlen hh
    exact hit_step d (h d (List.mem_append_right _ List.mem_cons_self)) (by rw [clr_len]; exact hlen) (fun p j hj => by
      cases hat p with
      | off cl' e1 => rw [e1] at hj; cases hj
      | on cl' A B i m e1 e2 e3 => rw [e1] at hj; cases hj; exact ⟨e2, by rw [e3]; simp⟩) h1
/-- no cleanings leave fewer looks -/
theorem T4 {ps : List (Bool × Nat)} {bs : List Bool} {ns : List Int} (cl : List (Nat × Nat)) (h : ∀ p ∈ ps, p.2 < bs.length) (hp : ns.Perm (cnts (brun 0 ps (b0 bs)).bu)) (pw : ns.Pairwise (· ≥ ·)) : (ns.drop cl.length).sum ≤ ((lrun cl 0 ps (bs, 0)).2 : Int) := by
  obtain ⟨H, Pn, hh⟩ := hit_all cl h
  rw [cn_cnts] at hp
  have h1 := ws_ge H _ ns hp pw
  have h2 : (ws H 0 (cn (brun 0 ps (b0 bs)).bu) : Int) ≤ ((lrun cl 0 ps (bs, 0)).2 : Int) := Int.ofNat_le.mpr hh.cnt
  refine Int.le_trans ?_ (Int.le_trans h1 h2)
  have nn : ∀ x ∈ ns, (0 : Int) ≤ x := fun x hx => by
    obtain ⟨t, _, rfl⟩ := List.mem_map.mp (hp.mem_iff.mp hx)
    exact Int.natCast_nonneg t
  have hle : H.length ≤ cl.length := by have := hh.le; have := upto_le cl ps.length; omega
  obtain ⟨e, he⟩ := Nat.le.dest hle
  rw [← he, ← List.drop_drop]
  have nl : ∀ x ∈ ns.drop H.length, (0 : Int) ≤ x := fun x hx => nn x (List.mem_of_mem_drop hx)
  generalize ns.drop H.length = l at nl ⊢
  clear h1 h2 he
  induction e generalizing l with
  | zero => exact Int.le_refl _
  | succ e ih =>
    cases l with
    | nil => exact Int.le_refl _
    | cons a r =>
      have := ih r fun x hx => nl x (List.mem_cons_of_mem _ hx)
      have ha := nl a List.mem_cons_self
      rw [List.sum_cons]
      show (r.drop e).sum ≤ _
      omega
end Toy
set_option Elab.async false
set_option linter.all false
set_option maxRecDepth 100000
set_option maxHeartbeats 4000000
namespace Toy
open PySem PySem.Spec PyProof.Rows L2 DX
section
variable {P : Program} {w : World} {K : PySem.W.Frag} {mg : Str → Option Value} {base : Heap}
theorem ifb {c : Prop} {h : Decidable c} {a b : Prop} (x : c → a) (y : ¬ c → b) : @ite Prop c h a b := by
  by_cases z : c
  · rw [if_pos z]; exact x z
  · rw [if_neg z]; exact y z
theorem mkD_v {W : Wd P w K mg base} {μ : Mem} {bs : List Bool} : Mkv W μ (mkD W bs) (.lst (bs.map .bl)) bs := ⟨rfl, rfl⟩
theorem desc_eq {ns ms : List Int} (h : ns.Perm ms) (h1 : ns.Pairwise (· ≥ ·)) (h2 : ms.Pairwise (· ≥ ·)) : ns = ms := h.eq_of_pairwise (fun a b _ _ x y => Int.le_antisymm y x) h1 h2

def S_law_right (W : Wd P w K mg base) : DSp := fun ds μ Q E => match ds with
  | [.ob p, xs, m, ks] => ∃ (a b : Int) (ps : List (Bool × Nat)) (bs : List Bool), xs = .lst (ps.map dd) ∧ m = mkD W bs ∧ ks = .lst (bs.map .bl) ∧ μ[p]? = some (pl a b) ∧ PoolOk b ∧ 1 ≤ bs.length ∧ bs.length ≤ 6 ∧ ps.length ≤ 40 ∧ (∀ x ∈ ps, x.2 < bs.length) ∧ ∀ a' b', PoolOk b' → Q (.bl true) (μ.set p (pl a' b'))
  | _ => False

theorem ok_law_right (W : Wd P w K mg base) : FnD P w K mg base 8 W.f_law_right (S_law_right W) := by
  refine (okB W.t_law_right.d sc_law_right (by (intro ds μ Q E h; unfold S_law_right at h; split at h <;> first | rfl | exact h.elim)) _ (fun cdv A outer s H E' g hr => ⟨_, (b_cons (s_set 4 sc_law_right.nd (d_callTy (call_listA rfl) (sim_list false) W.z_list (a_cons (d_var 1) a_nil)))
      (b_cons (s_set 5 sc_law_right.nd (d_call (ok_saved W) W.t_saved.a W.t_saved.d.kp g hr (takes_of rfl rfl rfl rfl) (a_cons (d_var 4) (a_cons (d_var 2) a_nil))))
      (b_cons (s_if (WD.td (w_or (t_cmp (op_neA hr.units rfl) sim_ne (d_var 4) (d_var 1) (nomark _)) (w_or1 (t_cmp (op_neA hr.units rfl) sim_ne (d_lc false [("page", 14)] sc_law_right.nd (i_rng1 W.z_range (a_cons (d_callB (call_lenA rfl) sim_len W.z_len (a_cons (d_var 3) a_nil)) a_nil)) (blkOk_by (own := [("page", 14)]) (N := ["pool", "deeds", "marks", "kept", "handed", "found", "worths_here", "many", "one", "two", "writes", "at", "turn", "cleanings", "page", "k"]) (sc := defScope s_law_right) (by decide +kernel)) (fun _ _ _ _ _ => (g_name 14 sc_law_right.nd)) (fun _ _ _ _ _ => ts_nil) (fun _ _ _ _ _ => (d_getO W.gi_Marks (ok_Marks_getitem W) g (hr.mono (by decide)) takes0 (d_var 2) (d_var 14))) (wip_name (by decide)) mono_name) (d_var 3) (nomark _))))) (b_one (s_ret d_bl)) b_nil)
      (b_cons (s_set 6 sc_law_right.nd (d_call (ok_law_worths W) W.t_law_worths.a W.t_law_worths.d.kp g (hr.mono (by decide)) (takes_of rfl rfl rfl rfl) (a_cons (d_var 1) (a_cons (d_var 3) a_nil))))
      (b_cons (s_if (t_cmp (op_neA hr.units rfl) sim_ne (d_var 5) (d_lc false [("many", 7)] sc_law_right.nd (i_rng1 W.z_range (a_cons (d_op (op_addA rfl) sim_add (d_callB (call_lenA rfl) sim_len W.z_len (a_cons (d_var 6) a_nil)) d_int) a_nil)) (blkOk_by (own := [("many", 7)]) (N := ["pool", "deeds", "marks", "kept", "handed", "found", "worths_here", "many", "one", "two", "writes", "at", "turn", "cleanings", "page", "k"]) (sc := defScope s_law_right) (by decide +kernel)) (fun _ _ _ _ _ => (g_name 7 sc_law_right.nd)) (fun _ _ _ _ _ => ts_nil) (fun _ _ _ _ _ => (d_callB (call_sumA rfl rfl) sim_sum W.z_sum (a_cons (d_sl false (d_var 6) (o_some (d_var 7)) o_none) a_nil))) (wip_name (by decide)) mono_name) (nomark _)) (b_one (s_ret d_bl)) b_nil)
      (b_cons (s_for (passes_of rfl) (i_rng1 W.z_range (a_cons (d_callB (call_lenA rfl) sim_len W.z_len (a_cons (d_var 5) a_nil)) a_nil)) (g_name 7 sc_law_right.nd)
      (b_cons (s_if (t_cmp (op_neA hr.units rfl) sim_ne (d_ix (d_call (ok_least_looks W) W.t_least_looks.a W.t_least_looks.d.kp g hr (takes_of rfl rfl rfl rfl) (a_cons (d_var 1) (a_cons (d_var 2) (a_cons (d_var 7) a_nil)))) d_int) (d_ix (d_var 5) (d_var 7)) (nomark _)) (b_one (s_ret d_bl)) b_nil)
      (b_cons (s_par 8 9 sc_law_right.nd (a_cons (d_ix (d_var 5) (d_var 7)) (a_cons (d_ix (d_var 5) (d_callB (call_max2 rfl) sim_two W.z_max (a_cons d_int (a_cons (d_op op_sub sim_sub (d_var 7) d_int) a_nil)))) a_nil)))
      (b_one (s_if (WD.td (w_and (t_cmp op_gt sim_gt (d_var 7) d_int (nomark _)) (w_and1 (t_cmp op_lt sim_lt (d_op op_sub sim_sub (d_ix (d_var 5) (d_op op_sub sim_sub (d_var 7) d_int)) (d_var 9)) (d_op op_sub sim_sub (d_var 9) (d_var 8)) (nomark _))))) (b_one (s_ret d_bl)) b_nil)))))
      (b_cons (s_set 10 sc_law_right.nd (d_lstM (a_cons (d_tup (a_cons d_int (a_cons d_int a_nil))) a_nil)))
      (b_cons (s_for (passes_of rfl) (i_rng1 W.z_range (a_cons (d_callB (call_lenA rfl) sim_len W.z_len (a_cons (d_var 1) a_nil)) a_nil)) (g_name 11 sc_law_right.nd)
      (b_one (s_if (t_cmp (op_eqA hr.units rfl) sim_eq (d_ix (d_ix (d_var 1) (d_var 11)) d_int) d_str (nomark _)) (b_one (s_expr (d_bm PySem.F.slot_list_append PySem.F.type_list_append mt_append sim_append (d_var 10) (a_cons (d_tup (a_cons (d_op (op_addA rfl) sim_add (d_var 11) d_int) (a_cons (d_ix (d_ix (d_var 1) (d_var 11)) d_int) a_nil))) a_nil)))) b_nil)))
      (b_cons (s_for (passes_of rfl) (i_rng1 W.z_range (a_cons d_int a_nil)) (g_name 12 sc_law_right.nd)
      (b_cons (s_setLc true 13 [("k", 15)] sc_law_right.nd (i_rng1 W.z_range (a_cons (d_call (ok_law_take W) W.t_law_take.a W.t_law_take.d.kp g (hr.mono (by decide)) (takes_of rfl rfl rfl rfl) (a_cons (d_var 0) (a_cons d_int a_nil))) a_nil)) (blkOk_by (own := [("k", 15)]) (N := ["pool", "deeds", "marks", "kept", "handed", "found", "worths_here", "many", "one", "two", "writes", "at", "turn", "cleanings", "page", "k"]) (sc := defScope s_law_right) (by decide +kernel)) (fun _ _ _ _ _ => (g_name 15 sc_law_right.nd)) (fun _ _ _ _ _ => ts_nil) (fun _ _ _ _ _ => (d_ix (d_var 10) (d_call (ok_law_take W) W.t_law_take.a W.t_law_take.d.kp g (hr.mono (by decide)) takes0 (a_cons (d_var 0) (a_cons (d_callB (call_lenA rfl) sim_len W.z_len (a_cons (d_var 10) a_nil)) a_nil))))) (wip_name (by decide)) mono_name (sw_true rfl rfl rfl (by decide +kernel)))
      (b_cons (s_if (t_cmp (op_eqA hr.units rfl) sim_eq (d_call (ok_law_take W) W.t_law_take.a W.t_law_take.d.kp g (hr.mono (by decide)) (takes_of rfl rfl rfl rfl) (a_cons (d_var 0) (a_cons d_int a_nil))) d_int (nomark _)) (b_one (s_expr (d_bm PySem.F.slot_list_append PySem.F.type_list_append mt_append sim_append (d_var 13) (a_cons (d_tup (a_cons (d_call (ok_law_take W) W.t_law_take.a W.t_law_take.d.kp g (hr.mono (by decide)) (takes_of rfl rfl rfl rfl) (a_cons (d_var 0) (a_cons (d_op (op_addA rfl) sim_add (d_callB (call_lenA rfl) sim_len W.z_len (a_cons (d_var 1) a_nil)) d_int) a_nil))) (a_cons (d_call (ok_law_take W) W.t_law_take.a W.t_law_take.d.kp g (hr.mono (by decide)) (takes_of rfl rfl rfl rfl) (a_cons (d_var 0) (a_cons (d_callB (call_lenA rfl) sim_len W.z_len (a_cons (d_var 3) a_nil)) a_nil))) a_nil))) a_nil)))) b_nil)
      (b_one (s_if (t_cmp op_lt sim_lt (d_call (ok_looks W) W.t_looks.a W.t_looks.d.kp g hr (takes_of rfl rfl rfl rfl) (a_cons (d_var 1) (a_cons (d_var 2) (a_cons (d_var 13) a_nil)))) (d_ix (d_op (op_addA rfl) sim_add (d_var 5) (d_op op_rep (sim_rep false) (d_lst (a_cons d_int a_nil)) d_int)) (d_callB (call_min2 rfl) sim_two W.z_min (a_cons (d_callB (call_lenA rfl) sim_len W.z_len (a_cons (d_var 13) a_nil)) (a_cons (d_op op_sub sim_sub (d_callB (call_lenA rfl) sim_len W.z_len (a_cons (d_var 5) a_nil)) d_int) a_nil)))) (nomark _)) (b_one (s_ret d_bl)) b_nil)))))
      (b_one (s_ret d_bl)))))))))))⟩) (fun ds μ Q E h => ?_)).fn0 W.t_law_right.b
  unfold S_law_right at h
  split at h
  · rename_i p xs m ks
    obtain ⟨a, b, ps, bs, rfl, rfl, rfl, hp, hb, hb1, hb6, hps, hall, q⟩ := h
    rw [show startD ["pool", "deeds", "marks", "kept", "handed", "found", "worths_here", "many", "one", "two", "writes", "at", "turn", "cleanings", "page", "k"] [.ob p, .lst (ps.map dd), mkD W bs, .lst (bs.map .bl)] = [some (.ob p), some (.lst (ps.map dd)), some (mkD W bs), some (.lst (bs.map .bl)), none, none, none, none, none, none, none, none, none, none, none, none] from rfl]
    have lt := lt_of_at hp
    have l1 := lay_lst (lay_dd ps)
    have l2 := lay_lst (lay_bl bs)
    have l1' : dlay (D.lst (ps.map dd)) = true ∧ ddep (D.lst (ps.map dd)) ≤ 60 := ⟨l1.1, Nat.le_trans l1.2 (by decide)⟩
    have l2' : dlay (D.lst (bs.map .bl)) = true ∧ ddep (D.lst (bs.map .bl)) ≤ 60 := ⟨l2.1, Nat.le_trans l2.2 (by decide)⟩
    refine seq_step fun nx hnx => ?_
    simp (maxSteps := 4000000) only [DX.at_r0, DX.set_r0, DX.putD_nil, DX.putD_hd, DX.look_hd, DX.atI_nat, DX.at0, DX.at1, DX.at2, DX.at3, DX.eqok_int, DX.eqok_str, DX.eqok_bl, DX.deqv_int, DX.deqv_str, DX.deqv_bl, DX.uMakeM, DX.uMakeF, DX.uMakeSF, DX.uProp, DX.uGName, DX.uGNil, DX.uGCons, DX.uGTup, DX.uGSet, DX.uAsg, DX.uDrop, DX.uRet, DX.uRetN, DX.uNext, DX.uBreak, DX.uCont, DX.uNever, DX.uSeq, DX.uIfS, DX.uCut, DX.uAug, DX.uSetF, DX.uISeq, DX.uIRng1, DX.uIRng2, DX.uFor, DX.uWhile, DX.uLc, DX.uYes, DX.uRaise, DX.uTry, DX.uXf, DX.uIsX, DX.uGet, DX.uGSetO, DX.uSMeth, DX.uIEnum, DX.uIZip, DX.uGUn, DX.uPar, DX.uVar, DX.uC, DX.uNil, DX.uCons, DX.uTup, DX.uLst, DX.uLstM, DX.uOp, DX.dI, DX.dIC, DX.dEq, DX.dNe, DX.dAdd, DX.uUn, DX.uIsN, DX.dTru, DX.uTru, DX.uTest, DX.uAndB, DX.uOrB, DX.uNotB, DX.uAnd, DX.uOr, DX.uNot, DX.uIf, DX.uChain, DX.dIx, DX.uNoPart, DX.uPart, DX.uSl, DX.dIn, DX.uFld, DX.uCB, DX.one, DX.dLen, DX.dIsB, DX.uIs, DX.dIsO, DX.dInt, DX.dList, DX.dTuple, DX.uBM, DX.dAppend, DX.dExtend, DX.dIndex, DX.uM1, DX.uCall, DX.uMeth, DX.dTwo, DX.dRep, DX.dLenO, DX.dCmpO, DX.dNeO, DX.dInO, DX.dMakeM, DX.dMakeF, DX.isC, DX.insAt, List.getElem?_cons_zero, List.getElem?_cons_succ, List.getElem?_nil, List.set_cons_zero, List.set_cons_succ, List.length_cons, List.length_nil, DX.wipeD, DX.tyIs, DX.v_non, DX.vT_non, DX.ty_non, DX.v_bl, DX.vT_bl, DX.ty_bl, DX.v_int, DX.vT_int, DX.ty_int, DX.v_str, DX.vT_str, DX.ty_str, DX.v_byt, DX.vT_byt, DX.ty_byt, DX.v_lst, DX.vT_lst, DX.ty_lst, DX.v_tup, DX.vT_tup, DX.ty_tup, DX.v_kt, DX.vT_kt, DX.ty_kt, DX.v_kl, DX.vT_kl, DX.ty_kl, DX.v_ins, DX.vT_ins, DX.ty_ins, DX.v_val, DX.vT_val, DX.ty_val, if_true, if_false, Bool.false_eq_true, reduceIte, Bool.not_true, Bool.not_false, true_and, and_true, List.isEmpty_cons, List.isEmpty_nil, Nat.reduceAdd]
    refine hnx _ _ ?_
    clear hnx nx
    refine seq_step fun nx hnx => ?_
    simp (maxSteps := 4000000) only [DX.at_r0, DX.set_r0, DX.putD_nil, DX.putD_hd, DX.look_hd, DX.atI_nat, DX.at0, DX.at1, DX.at2, DX.at3, DX.eqok_int, DX.eqok_str, DX.eqok_bl, DX.deqv_int, DX.deqv_str, DX.deqv_bl, DX.uMakeM, DX.uMakeF, DX.uMakeSF, DX.uProp, DX.uGName, DX.uGNil, DX.uGCons, DX.uGTup, DX.uGSet, DX.uAsg, DX.uDrop, DX.uRet, DX.uRetN, DX.uNext, DX.uBreak, DX.uCont, DX.uNever, DX.uSeq, DX.uIfS, DX.uCut, DX.uAug, DX.uSetF, DX.uISeq, DX.uIRng1, DX.uIRng2, DX.uFor, DX.uWhile, DX.uLc, DX.uYes, DX.uRaise, DX.uTry, DX.uXf, DX.uIsX, DX.uGet, DX.uGSetO, DX.uSMeth, DX.uIEnum, DX.uIZip, DX.uGUn, DX.uPar, DX.uVar, DX.uC, DX.uNil, DX.uCons, DX.uTup, DX.uLst, DX.uLstM, DX.uOp, DX.dI, DX.dIC, DX.dEq, DX.dNe, DX.dAdd, DX.uUn, DX.uIsN, DX.dTru, DX.uTru, DX.uTest, DX.uAndB, DX.uOrB, DX.uNotB, DX.uAnd, DX.uOr, DX.uNot, DX.uIf, DX.uChain, DX.dIx, DX.uNoPart, DX.uPart, DX.uSl, DX.dIn, DX.uFld, DX.uCB, DX.one, DX.dLen, DX.dIsB, DX.uIs, DX.dIsO, DX.dInt, DX.dList, DX.dTuple, DX.uBM, DX.dAppend, DX.dExtend, DX.dIndex, DX.uM1, DX.uCall, DX.uMeth, DX.dTwo, DX.dRep, DX.dLenO, DX.dCmpO, DX.dNeO, DX.dInO, DX.dMakeM, DX.dMakeF, DX.isC, DX.insAt, List.getElem?_cons_zero, List.getElem?_cons_succ, List.getElem?_nil, List.set_cons_zero, List.set_cons_succ, List.length_cons, List.length_nil, DX.wipeD, DX.tyIs, DX.v_non, DX.vT_non, DX.ty_non, DX.v_bl, DX.vT_bl, DX.ty_bl, DX.v_int, DX.vT_int, DX.ty_int, DX.v_str, DX.vT_str, DX.ty_str, DX.v_byt, DX.vT_byt, DX.ty_byt, DX.v_lst, DX.vT_lst, DX.ty_lst, DX.v_tup, DX.vT_tup, DX.ty_tup, DX.v_kt, DX.vT_kt, DX.ty_kt, DX.v_kl, DX.vT_kl, DX.ty_kl, DX.v_ins, DX.vT_ins, DX.ty_ins, DX.v_val, DX.vT_val, DX.ty_val, if_true, if_false, Bool.false_eq_true, reduceIte, Bool.not_true, Bool.not_false, true_and, and_true, List.isEmpty_cons, List.isEmpty_nil, Nat.reduceAdd]
    refine ⟨ps, _, bs, rfl, mkD_v, by omega, by omega, hall, fun ns n1 n2 => hnx _ _ ?_⟩
    clear hnx nx
    refine seq_step fun nx hnx => ?_
    simp (maxSteps := 4000000) only [List.length_map, eqok l1' l1', deqv_refl l1.1, DX.at_r0, DX.set_r0, DX.putD_nil, DX.putD_hd, DX.look_hd, DX.atI_nat, DX.at0, DX.at1, DX.at2, DX.at3, DX.eqok_int, DX.eqok_str, DX.eqok_bl, DX.deqv_int, DX.deqv_str, DX.deqv_bl, DX.uMakeM, DX.uMakeF, DX.uMakeSF, DX.uProp, DX.uGName, DX.uGNil, DX.uGCons, DX.uGTup, DX.uGSet, DX.uAsg, DX.uDrop, DX.uRet, DX.uRetN, DX.uNext, DX.uBreak, DX.uCont, DX.uNever, DX.uSeq, DX.uIfS, DX.uCut, DX.uAug, DX.uSetF, DX.uISeq, DX.uIRng1, DX.uIRng2, DX.uFor, DX.uWhile, DX.uLc, DX.uYes, DX.uRaise, DX.uTry, DX.uXf, DX.uIsX, DX.uGet, DX.uGSetO, DX.uSMeth, DX.uIEnum, DX.uIZip, DX.uGUn, DX.uPar, DX.uVar, DX.uC, DX.uNil, DX.uCons, DX.uTup, DX.uLst, DX.uLstM, DX.uOp, DX.dI, DX.dIC, DX.dEq, DX.dNe, DX.dAdd, DX.uUn, DX.uIsN, DX.dTru, DX.uTru, DX.uTest, DX.uAndB, DX.uOrB, DX.uNotB, DX.uAnd, DX.uOr, DX.uNot, DX.uIf, DX.uChain, DX.dIx, DX.uNoPart, DX.uPart, DX.uSl, DX.dIn, DX.uFld, DX.uCB, DX.one, DX.dLen, DX.dIsB, DX.uIs, DX.dIsO, DX.dInt, DX.dList, DX.dTuple, DX.uBM, DX.dAppend, DX.dExtend, DX.dIndex, DX.uM1, DX.uCall, DX.uMeth, DX.dTwo, DX.dRep, DX.dLenO, DX.dCmpO, DX.dNeO, DX.dInO, DX.dMakeM, DX.dMakeF, DX.isC, DX.insAt, List.getElem?_cons_zero, List.getElem?_cons_succ, List.getElem?_nil, List.set_cons_zero, List.set_cons_succ, List.length_cons, List.length_nil, DX.wipeD, DX.tyIs, DX.v_non, DX.vT_non, DX.ty_non, DX.v_bl, DX.vT_bl, DX.ty_bl, DX.v_int, DX.vT_int, DX.ty_int, DX.v_str, DX.vT_str, DX.ty_str, DX.v_byt, DX.vT_byt, DX.ty_byt, DX.v_lst, DX.vT_lst, DX.ty_lst, DX.v_tup, DX.vT_tup, DX.ty_tup, DX.v_kt, DX.vT_kt, DX.ty_kt, DX.v_kl, DX.vT_kl, DX.ty_kl, DX.v_ins, DX.vT_ins, DX.ty_ins, DX.v_val, DX.vT_val, DX.ty_val, if_true, if_false, Bool.false_eq_true, reduceIte, Bool.not_true, Bool.not_false, true_and, and_true, List.isEmpty_cons, List.isEmpty_nil, Nat.reduceAdd]
    refine ⟨⟨by omega, by omega⟩, lc_map (fun n acc μ1 => μ1 = μ ∧ acc = (bs.take n).map .bl) ⟨rfl, rfl⟩ (fun _ _ _ _ => by trivial) ?_ ?_⟩
    rotate_left
    · rintro j e acc μ4 go2 he ⟨rfl, rfl⟩ k2
      have hj := lt_of_at he
      rw [dints_len, Int.toNat_natCast] at hj
      rw [dints_get _ _ _ (by rw [Int.toNat_natCast]; exact hj), Int.zero_add] at he
      cases he
      simp (maxSteps := 4000000) only [DX.at_r0, DX.set_r0, DX.putD_nil, DX.putD_hd, DX.look_hd, DX.atI_nat, DX.at0, DX.at1, DX.at2, DX.at3, DX.eqok_int, DX.eqok_str, DX.eqok_bl, DX.deqv_int, DX.deqv_str, DX.deqv_bl, DX.uMakeM, DX.uMakeF, DX.uMakeSF, DX.uProp, DX.uGName, DX.uGNil, DX.uGCons, DX.uGTup, DX.uGSet, DX.uAsg, DX.uDrop, DX.uRet, DX.uRetN, DX.uNext, DX.uBreak, DX.uCont, DX.uNever, DX.uSeq, DX.uIfS, DX.uCut, DX.uAug, DX.uSetF, DX.uISeq, DX.uIRng1, DX.uIRng2, DX.uFor, DX.uWhile, DX.uLc, DX.uYes, DX.uRaise, DX.uTry, DX.uXf, DX.uIsX, DX.uGet, DX.uGSetO, DX.uSMeth, DX.uIEnum, DX.uIZip, DX.uGUn, DX.uPar, DX.uVar, DX.uC, DX.uNil, DX.uCons, DX.uTup, DX.uLst, DX.uLstM, DX.uOp, DX.dI, DX.dIC, DX.dEq, DX.dNe, DX.dAdd, DX.uUn, DX.uIsN, DX.dTru, DX.uTru, DX.uTest, DX.uAndB, DX.uOrB, DX.uNotB, DX.uAnd, DX.uOr, DX.uNot, DX.uIf, DX.uChain, DX.dIx, DX.uNoPart, DX.uPart, DX.uSl, DX.dIn, DX.uFld, DX.uCB, DX.one, DX.dLen, DX.dIsB, DX.uIs, DX.dIsO, DX.dInt, DX.dList, DX.dTuple, DX.uBM, DX.dAppend, DX.dExtend, DX.dIndex, DX.uM1, DX.uCall, DX.uMeth, DX.dTwo, DX.dRep, DX.dLenO, DX.dCmpO, DX.dNeO, DX.dInO, DX.dMakeM, DX.dMakeF, DX.isC, DX.insAt, List.getElem?_cons_zero, List.getElem?_cons_succ, List.getElem?_nil, List.set_cons_zero, List.set_cons_succ, List.length_cons, List.length_nil, DX.wipeD, DX.tyIs, DX.v_non, DX.vT_non, DX.ty_non, DX.v_bl, DX.vT_bl, DX.ty_bl, DX.v_int, DX.vT_int, DX.ty_int, DX.v_str, DX.vT_str, DX.ty_str, DX.v_byt, DX.vT_byt, DX.ty_byt, DX.v_lst, DX.vT_lst, DX.ty_lst, DX.v_tup, DX.vT_tup, DX.ty_tup, DX.v_kt, DX.vT_kt, DX.ty_kt, DX.v_kl, DX.vT_kl, DX.ty_kl, DX.v_ins, DX.vT_ins, DX.ty_ins, DX.v_val, DX.vT_val, DX.ty_val, if_true, if_false, Bool.false_eq_true, reduceIte, Bool.not_true, Bool.not_false, true_and, and_true, List.isEmpty_cons, List.isEmpty_nil, Nat.reduceAdd]
      have hbn : bs[j]? = some bs[j] := List.getElem?_eq_getElem hj
      refine ⟨rfl, _, bs, j, bs[j], mkD_v, rfl, hbn, ?_⟩
      refine ⟨by simp; omega, k2 _ _ ⟨rfl, ?_⟩⟩
      rw [take_snoc hbn, List.map_append]
      rfl
    · rintro acc μ4 ⟨rfl, rfl⟩
      rw [dints_len, Int.toNat_natCast, List.take_length]
      refine ⟨eqok l2' l2', ?_⟩
      simp (maxSteps := 4000000) only [deqv_refl l2.1, DX.at_r0, DX.set_r0, DX.putD_nil, DX.putD_hd, DX.look_hd, DX.atI_nat, DX.at0, DX.at1, DX.at2, DX.at3, DX.eqok_int, DX.eqok_str, DX.eqok_bl, DX.deqv_int, DX.deqv_str, DX.deqv_bl, DX.uMakeM, DX.uMakeF, DX.uMakeSF, DX.uProp, DX.uGName, DX.uGNil, DX.uGCons, DX.uGTup, DX.uGSet, DX.uAsg, DX.uDrop, DX.uRet, DX.uRetN, DX.uNext, DX.uBreak, DX.uCont, DX.uNever, DX.uSeq, DX.uIfS, DX.uCut, DX.uAug, DX.uSetF, DX.uISeq, DX.uIRng1, DX.uIRng2, DX.uFor, DX.uWhile, DX.uLc, DX.uYes, DX.uRaise, DX.uTry, DX.uXf, DX.uIsX, DX.uGet, DX.uGSetO, DX.uSMeth, DX.uIEnum, DX.uIZip, DX.uGUn, DX.uPar, DX.uVar, DX.uC, DX.uNil, DX.uCons, DX.uTup, DX.uLst, DX.uLstM, DX.uOp, DX.dI, DX.dIC, DX.dEq, DX.dNe, DX.dAdd, DX.uUn, DX.uIsN, DX.dTru, DX.uTru, DX.uTest, DX.uAndB, DX.uOrB, DX.uNotB, DX.uAnd, DX.uOr, DX.uNot, DX.uIf, DX.uChain, DX.dIx, DX.uNoPart, DX.uPart, DX.uSl, DX.dIn, DX.uFld, DX.uCB, DX.one, DX.dLen, DX.dIsB, DX.uIs, DX.dIsO, DX.dInt, DX.dList, DX.dTuple, DX.uBM, DX.dAppend, DX.dExtend, DX.dIndex, DX.uM1, DX.uCall, DX.uMeth, DX.dTwo, DX.dRep, DX.dLenO, DX.dCmpO, DX.dNeO, DX.dInO, DX.dMakeM, DX.dMakeF, DX.isC, DX.insAt, List.getElem?_cons_zero, List.getElem?_cons_succ, List.getElem?_nil, List.set_cons_zero, List.set_cons_succ, List.length_cons, List.length_nil, DX.wipeD, DX.tyIs, DX.v_non, DX.vT_non, DX.ty_non, DX.v_bl, DX.vT_bl, DX.ty_bl, DX.v_int, DX.vT_int, DX.ty_int, DX.v_str, DX.vT_str, DX.ty_str, DX.v_byt, DX.vT_byt, DX.ty_byt, DX.v_lst, DX.vT_lst, DX.ty_lst, DX.v_tup, DX.vT_tup, DX.ty_tup, DX.v_kt, DX.vT_kt, DX.ty_kt, DX.v_kl, DX.vT_kl, DX.ty_kl, DX.v_ins, DX.vT_ins, DX.ty_ins, DX.v_val, DX.vT_val, DX.ty_val, if_true, if_false, Bool.false_eq_true, reduceIte, Bool.not_true, Bool.not_false, true_and, and_true, List.isEmpty_cons, List.isEmpty_nil, Nat.reduceAdd]
      refine hnx _ _ ?_
      clear hnx nx
      refine seq_step fun nx hnx => ?_
      simp (maxSteps := 4000000) only [DX.at_r0, DX.set_r0, DX.putD_nil, DX.putD_hd, DX.look_hd, DX.atI_nat, DX.at0, DX.at1, DX.at2, DX.at3, DX.eqok_int, DX.eqok_str, DX.eqok_bl, DX.deqv_int, DX.deqv_str, DX.deqv_bl, DX.uMakeM, DX.uMakeF, DX.uMakeSF, DX.uProp, DX.uGName, DX.uGNil, DX.uGCons, DX.uGTup, DX.uGSet, DX.uAsg, DX.uDrop, DX.uRet, DX.uRetN, DX.uNext, DX.uBreak, DX.uCont, DX.uNever, DX.uSeq, DX.uIfS, DX.uCut, DX.uAug, DX.uSetF, DX.uISeq, DX.uIRng1, DX.uIRng2, DX.uFor, DX.uWhile, DX.uLc, DX.uYes, DX.uRaise, DX.uTry, DX.uXf, DX.uIsX, DX.uGet, DX.uGSetO, DX.uSMeth, DX.uIEnum, DX.uIZip, DX.uGUn, DX.uPar, DX.uVar, DX.uC, DX.uNil, DX.uCons, DX.uTup, DX.uLst, DX.uLstM, DX.uOp, DX.dI, DX.dIC, DX.dEq, DX.dNe, DX.dAdd, DX.uUn, DX.uIsN, DX.dTru, DX.uTru, DX.uTest, DX.uAndB, DX.uOrB, DX.uNotB, DX.uAnd, DX.uOr, DX.uNot, DX.uIf, DX.uChain, DX.dIx, DX.uNoPart, DX.uPart, DX.uSl, DX.dIn, DX.uFld, DX.uCB, DX.one, DX.dLen, DX.dIsB, DX.uIs, DX.dIsO, DX.dInt, DX.dList, DX.dTuple, DX.uBM, DX.dAppend, DX.dExtend, DX.dIndex, DX.uM1, DX.uCall, DX.uMeth, DX.dTwo, DX.dRep, DX.dLenO, DX.dCmpO, DX.dNeO, DX.dInO, DX.dMakeM, DX.dMakeF, DX.isC, DX.insAt, List.getElem?_cons_zero, List.getElem?_cons_succ, List.getElem?_nil, List.set_cons_zero, List.set_cons_succ, List.length_cons, List.length_nil, DX.wipeD, DX.tyIs, DX.v_non, DX.vT_non, DX.ty_non, DX.v_bl, DX.vT_bl, DX.ty_bl, DX.v_int, DX.vT_int, DX.ty_int, DX.v_str, DX.vT_str, DX.ty_str, DX.v_byt, DX.vT_byt, DX.ty_byt, DX.v_lst, DX.vT_lst, DX.ty_lst, DX.v_tup, DX.vT_tup, DX.ty_tup, DX.v_kt, DX.vT_kt, DX.ty_kt, DX.v_kl, DX.vT_kl, DX.ty_kl, DX.v_ins, DX.vT_ins, DX.ty_ins, DX.v_val, DX.vT_val, DX.ty_val, if_true, if_false, Bool.false_eq_true, reduceIte, Bool.not_true, Bool.not_false, true_and, and_true, List.isEmpty_cons, List.isEmpty_nil, Nat.reduceAdd]
      refine ⟨ps, bs, rfl, rfl, by omega, by omega, fun ms m1 m2 => hnx _ _ ?_⟩
      clear hnx nx
      obtain rfl : ns = ms := desc_eq (n1.trans ((T1 hall).trans m1.symm)) n2 m2
      have hns : ns.length ≤ 1000 := by
        have h1 := n1.length_eq
        unfold cnts at h1
        rw [List.length_map] at h1
        have h2 := brun_len 0 ps (b0 bs)
        have h0 : (b0 bs).bu.length = 0 := rfl
        omega
      refine seq_step fun nx hnx => ?_
      simp (maxSteps := 4000000) only [List.length_map, DX.at_r0, DX.set_r0, DX.putD_nil, DX.putD_hd, DX.look_hd, DX.atI_nat, DX.at0, DX.at1, DX.at2, DX.at3, DX.eqok_int, DX.eqok_str, DX.eqok_bl, DX.deqv_int, DX.deqv_str, DX.deqv_bl, DX.uMakeM, DX.uMakeF, DX.uMakeSF, DX.uProp, DX.uGName, DX.uGNil, DX.uGCons, DX.uGTup, DX.uGSet, DX.uAsg, DX.uDrop, DX.uRet, DX.uRetN, DX.uNext, DX.uBreak, DX.uCont, DX.uNever, DX.uSeq, DX.uIfS, DX.uCut, DX.uAug, DX.uSetF, DX.uISeq, DX.uIRng1, DX.uIRng2, DX.uFor, DX.uWhile, DX.uLc, DX.uYes, DX.uRaise, DX.uTry, DX.uXf, DX.uIsX, DX.uGet, DX.uGSetO, DX.uSMeth, DX.uIEnum, DX.uIZip, DX.uGUn, DX.uPar, DX.uVar, DX.uC, DX.uNil, DX.uCons, DX.uTup, DX.uLst, DX.uLstM, DX.uOp, DX.dI, DX.dIC, DX.dEq, DX.dNe, DX.dAdd, DX.uUn, DX.uIsN, DX.dTru, DX.uTru, DX.uTest, DX.uAndB, DX.uOrB, DX.uNotB, DX.uAnd, DX.uOr, DX.uNot, DX.uIf, DX.uChain, DX.dIx, DX.uNoPart, DX.uPart, DX.uSl, DX.dIn, DX.uFld, DX.uCB, DX.one, DX.dLen, DX.dIsB, DX.uIs, DX.dIsO, DX.dInt, DX.dList, DX.dTuple, DX.uBM, DX.dAppend, DX.dExtend, DX.dIndex, DX.uM1, DX.uCall, DX.uMeth, DX.dTwo, DX.dRep, DX.dLenO, DX.dCmpO, DX.dNeO, DX.dInO, DX.dMakeM, DX.dMakeF, DX.isC, DX.insAt, List.getElem?_cons_zero, List.getElem?_cons_succ, List.getElem?_nil, List.set_cons_zero, List.set_cons_succ, List.length_cons, List.length_nil, DX.wipeD, DX.tyIs, DX.v_non, DX.vT_non, DX.ty_non, DX.v_bl, DX.vT_bl, DX.ty_bl, DX.v_int, DX.vT_int, DX.ty_int, DX.v_str, DX.vT_str, DX.ty_str, DX.v_byt, DX.vT_byt, DX.ty_byt, DX.v_lst, DX.vT_lst, DX.ty_lst, DX.v_tup, DX.vT_tup, DX.ty_tup, DX.v_kt, DX.vT_kt, DX.ty_kt, DX.v_kl, DX.vT_kl, DX.ty_kl, DX.v_ins, DX.vT_ins, DX.ty_ins, DX.v_val, DX.vT_val, DX.ty_val, if_true, if_false, Bool.false_eq_true, reduceIte, Bool.not_true, Bool.not_false, true_and, and_true, List.isEmpty_cons, List.isEmpty_nil, Nat.reduceAdd]
      refine ⟨⟨by omega, by omega⟩, lc_map (fun n acc μ1 => μ1 = μ4 ∧ acc = (List.range n).map fun k => .int (ns.drop k).sum) ⟨rfl, rfl⟩ (fun _ _ _ _ => by trivial) ?_ ?_⟩
      rotate_left
      · rintro n e acc μ1 go he ⟨rfl, rfl⟩ k
        have hn := lt_of_at he
        rw [dints_len] at hn
        rw [dints_get _ _ _ hn, Int.zero_add] at he
        cases he
        simp (maxSteps := 4000000) only [cut_from, ← List.map_drop, dSum, DX.at_r0, DX.set_r0, DX.putD_nil, DX.putD_hd, DX.look_hd, DX.atI_nat, DX.at0, DX.at1, DX.at2, DX.at3, DX.eqok_int, DX.eqok_str, DX.eqok_bl, DX.deqv_int, DX.deqv_str, DX.deqv_bl, DX.uMakeM, DX.uMakeF, DX.uMakeSF, DX.uProp, DX.uGName, DX.uGNil, DX.uGCons, DX.uGTup, DX.uGSet, DX.uAsg, DX.uDrop, DX.uRet, DX.uRetN, DX.uNext, DX.uBreak, DX.uCont, DX.uNever, DX.uSeq, DX.uIfS, DX.uCut, DX.uAug, DX.uSetF, DX.uISeq, DX.uIRng1, DX.uIRng2, DX.uFor, DX.uWhile, DX.uLc, DX.uYes, DX.uRaise, DX.uTry, DX.uXf, DX.uIsX, DX.uGet, DX.uGSetO, DX.uSMeth, DX.uIEnum, DX.uIZip, DX.uGUn, DX.uPar, DX.uVar, DX.uC, DX.uNil, DX.uCons, DX.uTup, DX.uLst, DX.uLstM, DX.uOp, DX.dI, DX.dIC, DX.dEq, DX.dNe, DX.dAdd, DX.uUn, DX.uIsN, DX.dTru, DX.uTru, DX.uTest, DX.uAndB, DX.uOrB, DX.uNotB, DX.uAnd, DX.uOr, DX.uNot, DX.uIf, DX.uChain, DX.dIx, DX.uNoPart, DX.uPart, DX.uSl, DX.dIn, DX.uFld, DX.uCB, DX.one, DX.dLen, DX.dIsB, DX.uIs, DX.dIsO, DX.dInt, DX.dList, DX.dTuple, DX.uBM, DX.dAppend, DX.dExtend, DX.dIndex, DX.uM1, DX.uCall, DX.uMeth, DX.dTwo, DX.dRep, DX.dLenO, DX.dCmpO, DX.dNeO, DX.dInO, DX.dMakeM, DX.dMakeF, DX.isC, DX.insAt, List.getElem?_cons_zero, List.getElem?_cons_succ, List.getElem?_nil, List.set_cons_zero, List.set_cons_succ, List.length_cons, List.length_nil, DX.wipeD, DX.tyIs, DX.v_non, DX.vT_non, DX.ty_non, DX.v_bl, DX.vT_bl, DX.ty_bl, DX.v_int, DX.vT_int, DX.ty_int, DX.v_str, DX.vT_str, DX.ty_str, DX.v_byt, DX.vT_byt, DX.ty_byt, DX.v_lst, DX.vT_lst, DX.ty_lst, DX.v_tup, DX.vT_tup, DX.ty_tup, DX.v_kt, DX.vT_kt, DX.ty_kt, DX.v_kl, DX.vT_kl, DX.ty_kl, DX.v_ins, DX.vT_ins, DX.ty_ins, DX.v_val, DX.vT_val, DX.ty_val, if_true, if_false, Bool.false_eq_true, reduceIte, Bool.not_true, Bool.not_false, true_and, and_true, List.isEmpty_cons, List.isEmpty_nil, Nat.reduceAdd]
        refine ⟨ns.drop n, by rw [cut_from, List.map_drop], by simp; omega, k _ _ ⟨rfl, ?_⟩⟩
        rw [List.range_succ, List.map_append]
        rfl
      · rintro acc μ1 ⟨rfl, rfl⟩
        rw [dints_len, show ((ns.length : Int) + 1).toNat = ns.length + 1 by omega]
        have lsv : dlay (D.lst (savedD ns)) = true ∧ ddep (D.lst (savedD ns)) ≤ 60 := by
          have := lay_lst (k := 0) (ds := savedD ns) (fun d hd => by
            obtain ⟨k, _, rfl⟩ := List.mem_map.mp hd
            exact ⟨rfl, Nat.le_refl _⟩)
          exact ⟨this.1, Nat.le_trans this.2 (by decide)⟩
        have esv : ((List.range (ns.length + 1)).map fun k => D.int (ns.drop k).sum) = savedD ns := rfl
        rw [esv]
        refine ⟨eqok lsv lsv, ?_⟩
        simp (maxSteps := 4000000) only [deqv_refl lsv.1, DX.at_r0, DX.set_r0, DX.putD_nil, DX.putD_hd, DX.look_hd, DX.atI_nat, DX.at0, DX.at1, DX.at2, DX.at3, DX.eqok_int, DX.eqok_str, DX.eqok_bl, DX.deqv_int, DX.deqv_str, DX.deqv_bl, DX.uMakeM, DX.uMakeF, DX.uMakeSF, DX.uProp, DX.uGName, DX.uGNil, DX.uGCons, DX.uGTup, DX.uGSet, DX.uAsg, DX.uDrop, DX.uRet, DX.uRetN, DX.uNext, DX.uBreak, DX.uCont, DX.uNever, DX.uSeq, DX.uIfS, DX.uCut, DX.uAug, DX.uSetF, DX.uISeq, DX.uIRng1, DX.uIRng2, DX.uFor, DX.uWhile, DX.uLc, DX.uYes, DX.uRaise, DX.uTry, DX.uXf, DX.uIsX, DX.uGet, DX.uGSetO, DX.uSMeth, DX.uIEnum, DX.uIZip, DX.uGUn, DX.uPar, DX.uVar, DX.uC, DX.uNil, DX.uCons, DX.uTup, DX.uLst, DX.uLstM, DX.uOp, DX.dI, DX.dIC, DX.dEq, DX.dNe, DX.dAdd, DX.uUn, DX.uIsN, DX.dTru, DX.uTru, DX.uTest, DX.uAndB, DX.uOrB, DX.uNotB, DX.uAnd, DX.uOr, DX.uNot, DX.uIf, DX.uChain, DX.dIx, DX.uNoPart, DX.uPart, DX.uSl, DX.dIn, DX.uFld, DX.uCB, DX.one, DX.dLen, DX.dIsB, DX.uIs, DX.dIsO, DX.dInt, DX.dList, DX.dTuple, DX.uBM, DX.dAppend, DX.dExtend, DX.dIndex, DX.uM1, DX.uCall, DX.uMeth, DX.dTwo, DX.dRep, DX.dLenO, DX.dCmpO, DX.dNeO, DX.dInO, DX.dMakeM, DX.dMakeF, DX.isC, DX.insAt, List.getElem?_cons_zero, List.getElem?_cons_succ, List.getElem?_nil, List.set_cons_zero, List.set_cons_succ, List.length_cons, List.length_nil, DX.wipeD, DX.tyIs, DX.v_non, DX.vT_non, DX.ty_non, DX.v_bl, DX.vT_bl, DX.ty_bl, DX.v_int, DX.vT_int, DX.ty_int, DX.v_str, DX.vT_str, DX.ty_str, DX.v_byt, DX.vT_byt, DX.ty_byt, DX.v_lst, DX.vT_lst, DX.ty_lst, DX.v_tup, DX.vT_tup, DX.ty_tup, DX.v_kt, DX.vT_kt, DX.ty_kt, DX.v_kl, DX.vT_kl, DX.ty_kl, DX.v_ins, DX.vT_ins, DX.ty_ins, DX.v_val, DX.vT_val, DX.ty_val, if_true, if_false, Bool.false_eq_true, reduceIte, Bool.not_true, Bool.not_false, true_and, and_true, List.isEmpty_cons, List.isEmpty_nil, Nat.reduceAdd]
        refine hnx _ _ ?_
        clear hnx nx
        have fl : (savedD ns).length = ns.length + 1 := by unfold savedD; rw [List.length_map, List.length_range]
        have fat : ∀ k, k ≤ ns.length → (savedD ns)[k]? = some (.int (ns.drop k).sum) := fun k hk => by
          unfold savedD
          rw [List.getElem?_map, List.getElem?_range (by omega)]
          rfl
        refine seq_step fun nx hnx => ?_
        simp (maxSteps := 4000000) only [fl, DX.at_r0, DX.set_r0, DX.putD_nil, DX.putD_hd, DX.look_hd, DX.atI_nat, DX.at0, DX.at1, DX.at2, DX.at3, DX.eqok_int, DX.eqok_str, DX.eqok_bl, DX.deqv_int, DX.deqv_str, DX.deqv_bl, DX.uMakeM, DX.uMakeF, DX.uMakeSF, DX.uProp, DX.uGName, DX.uGNil, DX.uGCons, DX.uGTup, DX.uGSet, DX.uAsg, DX.uDrop, DX.uRet, DX.uRetN, DX.uNext, DX.uBreak, DX.uCont, DX.uNever, DX.uSeq, DX.uIfS, DX.uCut, DX.uAug, DX.uSetF, DX.uISeq, DX.uIRng1, DX.uIRng2, DX.uFor, DX.uWhile, DX.uLc, DX.uYes, DX.uRaise, DX.uTry, DX.uXf, DX.uIsX, DX.uGet, DX.uGSetO, DX.uSMeth, DX.uIEnum, DX.uIZip, DX.uGUn, DX.uPar, DX.uVar, DX.uC, DX.uNil, DX.uCons, DX.uTup, DX.uLst, DX.uLstM, DX.uOp, DX.dI, DX.dIC, DX.dEq, DX.dNe, DX.dAdd, DX.uUn, DX.uIsN, DX.dTru, DX.uTru, DX.uTest, DX.uAndB, DX.uOrB, DX.uNotB, DX.uAnd, DX.uOr, DX.uNot, DX.uIf, DX.uChain, DX.dIx, DX.uNoPart, DX.uPart, DX.uSl, DX.dIn, DX.uFld, DX.uCB, DX.one, DX.dLen, DX.dIsB, DX.uIs, DX.dIsO, DX.dInt, DX.dList, DX.dTuple, DX.uBM, DX.dAppend, DX.dExtend, DX.dIndex, DX.uM1, DX.uCall, DX.uMeth, DX.dTwo, DX.dRep, DX.dLenO, DX.dCmpO, DX.dNeO, DX.dInO, DX.dMakeM, DX.dMakeF, DX.isC, DX.insAt, List.getElem?_cons_zero, List.getElem?_cons_succ, List.getElem?_nil, List.set_cons_zero, List.set_cons_succ, List.length_cons, List.length_nil, DX.wipeD, DX.tyIs, DX.v_non, DX.vT_non, DX.ty_non, DX.v_bl, DX.vT_bl, DX.ty_bl, DX.v_int, DX.vT_int, DX.ty_int, DX.v_str, DX.vT_str, DX.ty_str, DX.v_byt, DX.vT_byt, DX.ty_byt, DX.v_lst, DX.vT_lst, DX.ty_lst, DX.v_tup, DX.vT_tup, DX.ty_tup, DX.v_kt, DX.vT_kt, DX.ty_kt, DX.v_kl, DX.vT_kl, DX.ty_kl, DX.v_ins, DX.vT_ins, DX.ty_ins, DX.v_val, DX.vT_val, DX.ty_val, if_true, if_false, Bool.false_eq_true, reduceIte, Bool.not_true, Bool.not_false, true_and, and_true, List.isEmpty_cons, List.isEmpty_nil, Nat.reduceAdd]
        refine ⟨⟨by omega, by omega⟩, ?_⟩
        refine for_map (fun n ρ μ2 => μ2 = μ1 ∧ ∃ o7 o8 o9, ρ = [some (D.ob p), some (D.lst (List.map dd ps)), some (mkD W bs), some (D.lst (List.map D.bl bs)),
            some (D.lst (List.map dd ps)), some (D.lst (savedD ns)), some (D.lst (List.map D.int ns)), o7, o8, o9,
            none, none, none, none, none, none]) ⟨rfl, _, _, _, rfl⟩ (fun _ _ _ _ => True.intro) ?_ ?_
        rotate_left
        · rintro n e ρ μ2 go he ⟨rfl, o7, o8, o9, rfl⟩ k
          have hn := lt_of_at he
          rw [dints_len] at hn
          rw [dints_get _ _ _ hn, Int.zero_add] at he
          cases he
          have hn : n ≤ ns.length := by omega
          simp (maxSteps := 4000000) only [DX.at_r0, DX.set_r0, DX.putD_nil, DX.putD_hd, DX.look_hd, DX.atI_nat, DX.at0, DX.at1, DX.at2, DX.at3, DX.eqok_int, DX.eqok_str, DX.eqok_bl, DX.deqv_int, DX.deqv_str, DX.deqv_bl, DX.uMakeM, DX.uMakeF, DX.uMakeSF, DX.uProp, DX.uGName, DX.uGNil, DX.uGCons, DX.uGTup, DX.uGSet, DX.uAsg, DX.uDrop, DX.uRet, DX.uRetN, DX.uNext, DX.uBreak, DX.uCont, DX.uNever, DX.uSeq, DX.uIfS, DX.uCut, DX.uAug, DX.uSetF, DX.uISeq, DX.uIRng1, DX.uIRng2, DX.uFor, DX.uWhile, DX.uLc, DX.uYes, DX.uRaise, DX.uTry, DX.uXf, DX.uIsX, DX.uGet, DX.uGSetO, DX.uSMeth, DX.uIEnum, DX.uIZip, DX.uGUn, DX.uPar, DX.uVar, DX.uC, DX.uNil, DX.uCons, DX.uTup, DX.uLst, DX.uLstM, DX.uOp, DX.dI, DX.dIC, DX.dEq, DX.dNe, DX.dAdd, DX.uUn, DX.uIsN, DX.dTru, DX.uTru, DX.uTest, DX.uAndB, DX.uOrB, DX.uNotB, DX.uAnd, DX.uOr, DX.uNot, DX.uIf, DX.uChain, DX.dIx, DX.uNoPart, DX.uPart, DX.uSl, DX.dIn, DX.uFld, DX.uCB, DX.one, DX.dLen, DX.dIsB, DX.uIs, DX.dIsO, DX.dInt, DX.dList, DX.dTuple, DX.uBM, DX.dAppend, DX.dExtend, DX.dIndex, DX.uM1, DX.uCall, DX.uMeth, DX.dTwo, DX.dRep, DX.dLenO, DX.dCmpO, DX.dNeO, DX.dInO, DX.dMakeM, DX.dMakeF, DX.isC, DX.insAt, List.getElem?_cons_zero, List.getElem?_cons_succ, List.getElem?_nil, List.set_cons_zero, List.set_cons_succ, List.length_cons, List.length_nil, DX.wipeD, DX.tyIs, DX.v_non, DX.vT_non, DX.ty_non, DX.v_bl, DX.vT_bl, DX.ty_bl, DX.v_int, DX.vT_int, DX.ty_int, DX.v_str, DX.vT_str, DX.ty_str, DX.v_byt, DX.vT_byt, DX.ty_byt, DX.v_lst, DX.vT_lst, DX.ty_lst, DX.v_tup, DX.vT_tup, DX.ty_tup, DX.v_kt, DX.vT_kt, DX.ty_kt, DX.v_kl, DX.vT_kl, DX.ty_kl, DX.v_ins, DX.vT_ins, DX.ty_ins, DX.v_val, DX.vT_val, DX.ty_val, if_true, if_false, Bool.false_eq_true, reduceIte, Bool.not_true, Bool.not_false, true_and, and_true, List.isEmpty_cons, List.isEmpty_nil, Nat.reduceAdd]
          refine ⟨ps, _, bs, n, rfl, mkD_v, by omega, by omega, hall, rfl, fun ms m1 m2 => ?_⟩
          obtain rfl : ns = ms := desc_eq (n1.trans m1.symm) n2 m2
          have a1 := fat n hn
          simp (maxSteps := 4000000) only [a1, DX.at_r0, DX.set_r0, DX.putD_nil, DX.putD_hd, DX.look_hd, DX.atI_nat, DX.at0, DX.at1, DX.at2, DX.at3, DX.eqok_int, DX.eqok_str, DX.eqok_bl, DX.deqv_int, DX.deqv_str, DX.deqv_bl, DX.uMakeM, DX.uMakeF, DX.uMakeSF, DX.uProp, DX.uGName, DX.uGNil, DX.uGCons, DX.uGTup, DX.uGSet, DX.uAsg, DX.uDrop, DX.uRet, DX.uRetN, DX.uNext, DX.uBreak, DX.uCont, DX.uNever, DX.uSeq, DX.uIfS, DX.uCut, DX.uAug, DX.uSetF, DX.uISeq, DX.uIRng1, DX.uIRng2, DX.uFor, DX.uWhile, DX.uLc, DX.uYes, DX.uRaise, DX.uTry, DX.uXf, DX.uIsX, DX.uGet, DX.uGSetO, DX.uSMeth, DX.uIEnum, DX.uIZip, DX.uGUn, DX.uPar, DX.uVar, DX.uC, DX.uNil, DX.uCons, DX.uTup, DX.uLst, DX.uLstM, DX.uOp, DX.dI, DX.dIC, DX.dEq, DX.dNe, DX.dAdd, DX.uUn, DX.uIsN, DX.dTru, DX.uTru, DX.uTest, DX.uAndB, DX.uOrB, DX.uNotB, DX.uAnd, DX.uOr, DX.uNot, DX.uIf, DX.uChain, DX.dIx, DX.uNoPart, DX.uPart, DX.uSl, DX.dIn, DX.uFld, DX.uCB, DX.one, DX.dLen, DX.dIsB, DX.uIs, DX.dIsO, DX.dInt, DX.dList, DX.dTuple, DX.uBM, DX.dAppend, DX.dExtend, DX.dIndex, DX.uM1, DX.uCall, DX.uMeth, DX.dTwo, DX.dRep, DX.dLenO, DX.dCmpO, DX.dNeO, DX.dInO, DX.dMakeM, DX.dMakeF, DX.isC, DX.insAt, List.getElem?_cons_zero, List.getElem?_cons_succ, List.getElem?_nil, List.set_cons_zero, List.set_cons_succ, List.length_cons, List.length_nil, DX.wipeD, DX.tyIs, DX.v_non, DX.vT_non, DX.ty_non, DX.v_bl, DX.vT_bl, DX.ty_bl, DX.v_int, DX.vT_int, DX.ty_int, DX.v_str, DX.vT_str, DX.ty_str, DX.v_byt, DX.vT_byt, DX.ty_byt, DX.v_lst, DX.vT_lst, DX.ty_lst, DX.v_tup, DX.vT_tup, DX.ty_tup, DX.v_kt, DX.vT_kt, DX.ty_kt, DX.v_kl, DX.vT_kl, DX.ty_kl, DX.v_ins, DX.vT_ins, DX.ty_ins, DX.v_val, DX.vT_val, DX.ty_val, if_true, if_false, Bool.false_eq_true, reduceIte, Bool.not_true, Bool.not_false, true_and, and_true, List.isEmpty_cons, List.isEmpty_nil, Nat.reduceAdd]
          have hmx : (if (n : Int) - 1 > 0 then (n : Int) - 1 else 0) = ((n - 1 : Nat) : Int) := by split <;> omega
          rw [hmx, beq_self_eq_true]
          have a2 := fat (n - 1) (by omega)
          simp (maxSteps := 4000000) only [a2, DX.at_r0, DX.set_r0, DX.putD_nil, DX.putD_hd, DX.look_hd, DX.atI_nat, DX.at0, DX.at1, DX.at2, DX.at3, DX.eqok_int, DX.eqok_str, DX.eqok_bl, DX.deqv_int, DX.deqv_str, DX.deqv_bl, DX.uMakeM, DX.uMakeF, DX.uMakeSF, DX.uProp, DX.uGName, DX.uGNil, DX.uGCons, DX.uGTup, DX.uGSet, DX.uAsg, DX.uDrop, DX.uRet, DX.uRetN, DX.uNext, DX.uBreak, DX.uCont, DX.uNever, DX.uSeq, DX.uIfS, DX.uCut, DX.uAug, DX.uSetF, DX.uISeq, DX.uIRng1, DX.uIRng2, DX.uFor, DX.uWhile, DX.uLc, DX.uYes, DX.uRaise, DX.uTry, DX.uXf, DX.uIsX, DX.uGet, DX.uGSetO, DX.uSMeth, DX.uIEnum, DX.uIZip, DX.uGUn, DX.uPar, DX.uVar, DX.uC, DX.uNil, DX.uCons, DX.uTup, DX.uLst, DX.uLstM, DX.uOp, DX.dI, DX.dIC, DX.dEq, DX.dNe, DX.dAdd, DX.uUn, DX.uIsN, DX.dTru, DX.uTru, DX.uTest, DX.uAndB, DX.uOrB, DX.uNotB, DX.uAnd, DX.uOr, DX.uNot, DX.uIf, DX.uChain, DX.dIx, DX.uNoPart, DX.uPart, DX.uSl, DX.dIn, DX.uFld, DX.uCB, DX.one, DX.dLen, DX.dIsB, DX.uIs, DX.dIsO, DX.dInt, DX.dList, DX.dTuple, DX.uBM, DX.dAppend, DX.dExtend, DX.dIndex, DX.uM1, DX.uCall, DX.uMeth, DX.dTwo, DX.dRep, DX.dLenO, DX.dCmpO, DX.dNeO, DX.dInO, DX.dMakeM, DX.dMakeF, DX.isC, DX.insAt, List.getElem?_cons_zero, List.getElem?_cons_succ, List.getElem?_nil, List.set_cons_zero, List.set_cons_succ, List.length_cons, List.length_nil, DX.wipeD, DX.tyIs, DX.v_non, DX.vT_non, DX.ty_non, DX.v_bl, DX.vT_bl, DX.ty_bl, DX.v_int, DX.vT_int, DX.ty_int, DX.v_str, DX.vT_str, DX.ty_str, DX.v_byt, DX.vT_byt, DX.ty_byt, DX.v_lst, DX.vT_lst, DX.ty_lst, DX.v_tup, DX.vT_tup, DX.ty_tup, DX.v_kt, DX.vT_kt, DX.ty_kt, DX.v_kl, DX.vT_kl, DX.ty_kl, DX.v_ins, DX.vT_ins, DX.ty_ins, DX.v_val, DX.vT_val, DX.ty_val, if_true, if_false, Bool.false_eq_true, reduceIte, Bool.not_true, Bool.not_false, true_and, and_true, List.isEmpty_cons, List.isEmpty_nil, Nat.reduceAdd]
          by_cases hn1 : 1 < (n : Int)
          · obtain ⟨m, rfl⟩ : ∃ m, n = m + 2 := ⟨n - 2, by omega⟩
            have a3 := fat m (by omega)
            rw [if_pos (decide_eq_true hn1), show (((m + 2 : Nat) : Int) - 2) = (m : Int) by omega, show m + 2 - 1 = m + 1 by omega]
            simp (maxSteps := 4000000) only [a3, DX.at_r0, DX.set_r0, DX.putD_nil, DX.putD_hd, DX.look_hd, DX.atI_nat, DX.at0, DX.at1, DX.at2, DX.at3, DX.eqok_int, DX.eqok_str, DX.eqok_bl, DX.deqv_int, DX.deqv_str, DX.deqv_bl, DX.uMakeM, DX.uMakeF, DX.uMakeSF, DX.uProp, DX.uGName, DX.uGNil, DX.uGCons, DX.uGTup, DX.uGSet, DX.uAsg, DX.uDrop, DX.uRet, DX.uRetN, DX.uNext, DX.uBreak, DX.uCont, DX.uNever, DX.uSeq, DX.uIfS, DX.uCut, DX.uAug, DX.uSetF, DX.uISeq, DX.uIRng1, DX.uIRng2, DX.uFor, DX.uWhile, DX.uLc, DX.uYes, DX.uRaise, DX.uTry, DX.uXf, DX.uIsX, DX.uGet, DX.uGSetO, DX.uSMeth, DX.uIEnum, DX.uIZip, DX.uGUn, DX.uPar, DX.uVar, DX.uC, DX.uNil, DX.uCons, DX.uTup, DX.uLst, DX.uLstM, DX.uOp, DX.dI, DX.dIC, DX.dEq, DX.dNe, DX.dAdd, DX.uUn, DX.uIsN, DX.dTru, DX.uTru, DX.uTest, DX.uAndB, DX.uOrB, DX.uNotB, DX.uAnd, DX.uOr, DX.uNot, DX.uIf, DX.uChain, DX.dIx, DX.uNoPart, DX.uPart, DX.uSl, DX.dIn, DX.uFld, DX.uCB, DX.one, DX.dLen, DX.dIsB, DX.uIs, DX.dIsO, DX.dInt, DX.dList, DX.dTuple, DX.uBM, DX.dAppend, DX.dExtend, DX.dIndex, DX.uM1, DX.uCall, DX.uMeth, DX.dTwo, DX.dRep, DX.dLenO, DX.dCmpO, DX.dNeO, DX.dInO, DX.dMakeM, DX.dMakeF, DX.isC, DX.insAt, List.getElem?_cons_zero, List.getElem?_cons_succ, List.getElem?_nil, List.set_cons_zero, List.set_cons_succ, List.length_cons, List.length_nil, DX.wipeD, DX.tyIs, DX.v_non, DX.vT_non, DX.ty_non, DX.v_bl, DX.vT_bl, DX.ty_bl, DX.v_int, DX.vT_int, DX.ty_int, DX.v_str, DX.vT_str, DX.ty_str, DX.v_byt, DX.vT_byt, DX.ty_byt, DX.v_lst, DX.vT_lst, DX.ty_lst, DX.v_tup, DX.vT_tup, DX.ty_tup, DX.v_kt, DX.vT_kt, DX.ty_kt, DX.v_kl, DX.vT_kl, DX.ty_kl, DX.v_ins, DX.vT_ins, DX.ty_ins, DX.v_val, DX.vT_val, DX.ty_val, if_true, if_false, Bool.false_eq_true, reduceIte, Bool.not_true, Bool.not_false, true_and, and_true, List.isEmpty_cons, List.isEmpty_nil, Nat.reduceAdd]
            have h1 : m < ns.length := by omega
            have h2 : m + 1 < ns.length := by omega
            have hge : ns[m + 1] ≤ ns[m] := List.pairwise_iff_getElem.mp n2 m (m + 1) h1 h2 (by omega)
            have d1 : (ns.drop m).sum = ns[m] + (ns.drop (m + 1)).sum := by rw [List.drop_eq_getElem_cons h1, List.sum_cons]
            have d2 : (ns.drop (m + 1)).sum = ns[m + 1] + (ns.drop (m + 2)).sum := by rw [List.drop_eq_getElem_cons h2, List.sum_cons]
            rw [if_neg (by rw [decide_eq_true_iff]; omega)]
            exact k _ _ ⟨rfl, _, _, _, rfl⟩
          · rw [if_neg (by simpa using hn1)]
            exact k _ _ ⟨rfl, _, _, _, rfl⟩
        · rintro ρ μ2 ⟨rfl, o7, o8, o9, rfl⟩
          refine hnx _ _ ?_
          clear hnx nx
          refine seq_step fun nx hnx => ?_
          simp (maxSteps := 4000000) only [DX.at_r0, DX.set_r0, DX.putD_nil, DX.putD_hd, DX.look_hd, DX.atI_nat, DX.at0, DX.at1, DX.at2, DX.at3, DX.eqok_int, DX.eqok_str, DX.eqok_bl, DX.deqv_int, DX.deqv_str, DX.deqv_bl, DX.uMakeM, DX.uMakeF, DX.uMakeSF, DX.uProp, DX.uGName, DX.uGNil, DX.uGCons, DX.uGTup, DX.uGSet, DX.uAsg, DX.uDrop, DX.uRet, DX.uRetN, DX.uNext, DX.uBreak, DX.uCont, DX.uNever, DX.uSeq, DX.uIfS, DX.uCut, DX.uAug, DX.uSetF, DX.uISeq, DX.uIRng1, DX.uIRng2, DX.uFor, DX.uWhile, DX.uLc, DX.uYes, DX.uRaise, DX.uTry, DX.uXf, DX.uIsX, DX.uGet, DX.uGSetO, DX.uSMeth, DX.uIEnum, DX.uIZip, DX.uGUn, DX.uPar, DX.uVar, DX.uC, DX.uNil, DX.uCons, DX.uTup, DX.uLst, DX.uLstM, DX.uOp, DX.dI, DX.dIC, DX.dEq, DX.dNe, DX.dAdd, DX.uUn, DX.uIsN, DX.dTru, DX.uTru, DX.uTest, DX.uAndB, DX.uOrB, DX.uNotB, DX.uAnd, DX.uOr, DX.uNot, DX.uIf, DX.uChain, DX.dIx, DX.uNoPart, DX.uPart, DX.uSl, DX.dIn, DX.uFld, DX.uCB, DX.one, DX.dLen, DX.dIsB, DX.uIs, DX.dIsO, DX.dInt, DX.dList, DX.dTuple, DX.uBM, DX.dAppend, DX.dExtend, DX.dIndex, DX.uM1, DX.uCall, DX.uMeth, DX.dTwo, DX.dRep, DX.dLenO, DX.dCmpO, DX.dNeO, DX.dInO, DX.dMakeM, DX.dMakeF, DX.isC, DX.insAt, List.getElem?_cons_zero, List.getElem?_cons_succ, List.getElem?_nil, List.set_cons_zero, List.set_cons_succ, List.length_cons, List.length_nil, DX.wipeD, DX.tyIs, DX.v_non, DX.vT_non, DX.ty_non, DX.v_bl, DX.vT_bl, DX.ty_bl, DX.v_int, DX.vT_int, DX.ty_int, DX.v_str, DX.vT_str, DX.ty_str, DX.v_byt, DX.vT_byt, DX.ty_byt, DX.v_lst, DX.vT_lst, DX.ty_lst, DX.v_tup, DX.vT_tup, DX.ty_tup, DX.v_kt, DX.vT_kt, DX.ty_kt, DX.v_kl, DX.vT_kl, DX.ty_kl, DX.v_ins, DX.vT_ins, DX.ty_ins, DX.v_val, DX.vT_val, DX.ty_val, if_true, if_false, Bool.false_eq_true, reduceIte, Bool.not_true, Bool.not_false, true_and, and_true, List.isEmpty_cons, List.isEmpty_nil, Nat.reduceAdd]
          refine ⟨by decide, by decide, hnx _ _ ?_⟩
          clear hnx nx
          refine seq_step fun nx hnx => ?_
          simp (maxSteps := 4000000) only [List.length_map, DX.at_r0, DX.set_r0, DX.putD_nil, DX.putD_hd, DX.look_hd, DX.atI_nat, DX.at0, DX.at1, DX.at2, DX.at3, DX.eqok_int, DX.eqok_str, DX.eqok_bl, DX.deqv_int, DX.deqv_str, DX.deqv_bl, DX.uMakeM, DX.uMakeF, DX.uMakeSF, DX.uProp, DX.uGName, DX.uGNil, DX.uGCons, DX.uGTup, DX.uGSet, DX.uAsg, DX.uDrop, DX.uRet, DX.uRetN, DX.uNext, DX.uBreak, DX.uCont, DX.uNever, DX.uSeq, DX.uIfS, DX.uCut, DX.uAug, DX.uSetF, DX.uISeq, DX.uIRng1, DX.uIRng2, DX.uFor, DX.uWhile, DX.uLc, DX.uYes, DX.uRaise, DX.uTry, DX.uXf, DX.uIsX, DX.uGet, DX.uGSetO, DX.uSMeth, DX.uIEnum, DX.uIZip, DX.uGUn, DX.uPar, DX.uVar, DX.uC, DX.uNil, DX.uCons, DX.uTup, DX.uLst, DX.uLstM, DX.uOp, DX.dI, DX.dIC, DX.dEq, DX.dNe, DX.dAdd, DX.uUn, DX.uIsN, DX.dTru, DX.uTru, DX.uTest, DX.uAndB, DX.uOrB, DX.uNotB, DX.uAnd, DX.uOr, DX.uNot, DX.uIf, DX.uChain, DX.dIx, DX.uNoPart, DX.uPart, DX.uSl, DX.dIn, DX.uFld, DX.uCB, DX.one, DX.dLen, DX.dIsB, DX.uIs, DX.dIsO, DX.dInt, DX.dList, DX.dTuple, DX.uBM, DX.dAppend, DX.dExtend, DX.dIndex, DX.uM1, DX.uCall, DX.uMeth, DX.dTwo, DX.dRep, DX.dLenO, DX.dCmpO, DX.dNeO, DX.dInO, DX.dMakeM, DX.dMakeF, DX.isC, DX.insAt, List.getElem?_cons_zero, List.getElem?_cons_succ, List.getElem?_nil, List.set_cons_zero, List.set_cons_succ, List.length_cons, List.length_nil, DX.wipeD, DX.tyIs, DX.v_non, DX.vT_non, DX.ty_non, DX.v_bl, DX.vT_bl, DX.ty_bl, DX.v_int, DX.vT_int, DX.ty_int, DX.v_str, DX.vT_str, DX.ty_str, DX.v_byt, DX.vT_byt, DX.ty_byt, DX.v_lst, DX.vT_lst, DX.ty_lst, DX.v_tup, DX.vT_tup, DX.ty_tup, DX.v_kt, DX.vT_kt, DX.ty_kt, DX.v_kl, DX.vT_kl, DX.ty_kl, DX.v_ins, DX.vT_ins, DX.ty_ins, DX.v_val, DX.vT_val, DX.ty_val, if_true, if_false, Bool.false_eq_true, reduceIte, Bool.not_true, Bool.not_false, true_and, and_true, List.isEmpty_cons, List.isEmpty_nil, Nat.reduceAdd]
          refine ⟨⟨by omega, by omega⟩, ?_⟩
          refine for_map (fun n ρ μ1 => ∃ (o11 : Option D) (wr : List (Nat × Nat)), wr.length ≤ n + 1 ∧ 0 < wr.length ∧ n ≤ 1000 ∧ (∀ c ∈ wr, c.1 ≤ ps.length ∧ c.2 < bs.length) ∧ μ1 = μ2 ++ [M.lst (wr.map cc)] ∧ ρ = [some (D.ob p), some (D.lst (List.map dd ps)), some (mkD W bs), some (D.lst (List.map D.bl bs)),
            some (D.lst (List.map dd ps)), some (D.lst (savedD ns)), some (D.lst (List.map D.int ns)), o7, o8, o9, some (D.ob μ2.length), o11, none, none, none, none]) ⟨none, [(0, 0)], by simp, by simp, by omega, ?_, rfl, rfl⟩ (fun _ _ _ _ => True.intro) ?_ ?_
          · intro c hc
            rw [List.mem_singleton.mp hc]
            exact ⟨Nat.zero_le _, by omega⟩
          rotate_left
          · rintro n e ρ μ1 go he ⟨o11, wr, w1, w2, w3, w4, rfl, rfl⟩ k
            have hn := lt_of_at he
            rw [dints_len] at hn
            rw [dints_get _ _ _ hn, Int.zero_add] at he
            cases he
            have hn : n < ps.length := by omega
            have hp1 : ps[n]? = some ps[n] := List.getElem?_eq_getElem hn
            have hin := hall _ (List.getElem_mem hn)
            simp (maxSteps := 4000000) only [List.getElem?_map, hp1, Option.map_some, DX.at_r0, DX.set_r0, DX.putD_nil, DX.putD_hd, DX.look_hd, DX.atI_nat, DX.at0, DX.at1, DX.at2, DX.at3, DX.eqok_int, DX.eqok_str, DX.eqok_bl, DX.deqv_int, DX.deqv_str, DX.deqv_bl, DX.uMakeM, DX.uMakeF, DX.uMakeSF, DX.uProp, DX.uGName, DX.uGNil, DX.uGCons, DX.uGTup, DX.uGSet, DX.uAsg, DX.uDrop, DX.uRet, DX.uRetN, DX.uNext, DX.uBreak, DX.uCont, DX.uNever, DX.uSeq, DX.uIfS, DX.uCut, DX.uAug, DX.uSetF, DX.uISeq, DX.uIRng1, DX.uIRng2, DX.uFor, DX.uWhile, DX.uLc, DX.uYes, DX.uRaise, DX.uTry, DX.uXf, DX.uIsX, DX.uGet, DX.uGSetO, DX.uSMeth, DX.uIEnum, DX.uIZip, DX.uGUn, DX.uPar, DX.uVar, DX.uC, DX.uNil, DX.uCons, DX.uTup, DX.uLst, DX.uLstM, DX.uOp, DX.dI, DX.dIC, DX.dEq, DX.dNe, DX.dAdd, DX.uUn, DX.uIsN, DX.dTru, DX.uTru, DX.uTest, DX.uAndB, DX.uOrB, DX.uNotB, DX.uAnd, DX.uOr, DX.uNot, DX.uIf, DX.uChain, DX.dIx, DX.uNoPart, DX.uPart, DX.uSl, DX.dIn, DX.uFld, DX.uCB, DX.one, DX.dLen, DX.dIsB, DX.uIs, DX.dIsO, DX.dInt, DX.dList, DX.dTuple, DX.uBM, DX.dAppend, DX.dExtend, DX.dIndex, DX.uM1, DX.uCall, DX.uMeth, DX.dTwo, DX.dRep, DX.dLenO, DX.dCmpO, DX.dNeO, DX.dInO, DX.dMakeM, DX.dMakeF, DX.isC, DX.insAt, List.getElem?_cons_zero, List.getElem?_cons_succ, List.getElem?_nil, List.set_cons_zero, List.set_cons_succ, List.length_cons, List.length_nil, DX.wipeD, DX.tyIs, DX.v_non, DX.vT_non, DX.ty_non, DX.v_bl, DX.vT_bl, DX.ty_bl, DX.v_int, DX.vT_int, DX.ty_int, DX.v_str, DX.vT_str, DX.ty_str, DX.v_byt, DX.vT_byt, DX.ty_byt, DX.v_lst, DX.vT_lst, DX.ty_lst, DX.v_tup, DX.vT_tup, DX.ty_tup, DX.v_kt, DX.vT_kt, DX.ty_kt, DX.v_kl, DX.vT_kl, DX.ty_kl, DX.v_ins, DX.vT_ins, DX.ty_ins, DX.v_val, DX.vT_val, DX.ty_val, if_true, if_false, Bool.false_eq_true, reduceIte, Bool.not_true, Bool.not_false, true_and, and_true, List.isEmpty_cons, List.isEmpty_nil, Nat.reduceAdd]
            generalize ps[n] = pr at hin
            obtain ⟨wq, pg⟩ := pr
            cases wq with
            | true =>
              simp (maxSteps := 4000000) only [dd, BEq.rfl, DX.at_r0, DX.set_r0, DX.putD_nil, DX.putD_hd, DX.look_hd, DX.atI_nat, DX.at0, DX.at1, DX.at2, DX.at3, DX.eqok_int, DX.eqok_str, DX.eqok_bl, DX.deqv_int, DX.deqv_str, DX.deqv_bl, DX.uMakeM, DX.uMakeF, DX.uMakeSF, DX.uProp, DX.uGName, DX.uGNil, DX.uGCons, DX.uGTup, DX.uGSet, DX.uAsg, DX.uDrop, DX.uRet, DX.uRetN, DX.uNext, DX.uBreak, DX.uCont, DX.uNever, DX.uSeq, DX.uIfS, DX.uCut, DX.uAug, DX.uSetF, DX.uISeq, DX.uIRng1, DX.uIRng2, DX.uFor, DX.uWhile, DX.uLc, DX.uYes, DX.uRaise, DX.uTry, DX.uXf, DX.uIsX, DX.uGet, DX.uGSetO, DX.uSMeth, DX.uIEnum, DX.uIZip, DX.uGUn, DX.uPar, DX.uVar, DX.uC, DX.uNil, DX.uCons, DX.uTup, DX.uLst, DX.uLstM, DX.uOp, DX.dI, DX.dIC, DX.dEq, DX.dNe, DX.dAdd, DX.uUn, DX.uIsN, DX.dTru, DX.uTru, DX.uTest, DX.uAndB, DX.uOrB, DX.uNotB, DX.uAnd, DX.uOr, DX.uNot, DX.uIf, DX.uChain, DX.dIx, DX.uNoPart, DX.uPart, DX.uSl, DX.dIn, DX.uFld, DX.uCB, DX.one, DX.dLen, DX.dIsB, DX.uIs, DX.dIsO, DX.dInt, DX.dList, DX.dTuple, DX.uBM, DX.dAppend, DX.dExtend, DX.dIndex, DX.uM1, DX.uCall, DX.uMeth, DX.dTwo, DX.dRep, DX.dLenO, DX.dCmpO, DX.dNeO, DX.dInO, DX.dMakeM, DX.dMakeF, DX.isC, DX.insAt, List.getElem?_cons_zero, List.getElem?_cons_succ, List.getElem?_nil, List.set_cons_zero, List.set_cons_succ, List.length_cons, List.length_nil, DX.wipeD, DX.tyIs, DX.v_non, DX.vT_non, DX.ty_non, DX.v_bl, DX.vT_bl, DX.ty_bl, DX.v_int, DX.vT_int, DX.ty_int, DX.v_str, DX.vT_str, DX.ty_str, DX.v_byt, DX.vT_byt, DX.ty_byt, DX.v_lst, DX.vT_lst, DX.ty_lst, DX.v_tup, DX.vT_tup, DX.ty_tup, DX.v_kt, DX.vT_kt, DX.ty_kt, DX.v_kl, DX.vT_kl, DX.ty_kl, DX.v_ins, DX.vT_ins, DX.ty_ins, DX.v_val, DX.vT_val, DX.ty_val, if_true, if_false, Bool.false_eq_true, reduceIte, Bool.not_true, Bool.not_false, true_and, and_true, List.isEmpty_cons, List.isEmpty_nil, Nat.reduceAdd]
              refine ⟨isLst_at at_r0, by decide, Nat.lt_of_le_of_lt (show (wr.map cc).length ≤ 1001 by rw [List.length_map]; omega) (by decide), ?_⟩
              refine k _ _ ⟨_, wr ++ [(n + 1, pg)], by simp; omega, by simp, by omega, ?_, ?_, rfl⟩
              · intro c hc
                rcases List.mem_append.mp hc with hc | hc
                · exact w4 c hc
                · rw [List.mem_singleton.mp hc]; exact ⟨hn, hin⟩
              · rw [List.map_append]; rfl
            | false =>
              have en : (Str.ofString "read" == Str.ofString "write") = false := by decide +kernel
              simp (maxSteps := 4000000) only [dd, en, DX.at_r0, DX.set_r0, DX.putD_nil, DX.putD_hd, DX.look_hd, DX.atI_nat, DX.at0, DX.at1, DX.at2, DX.at3, DX.eqok_int, DX.eqok_str, DX.eqok_bl, DX.deqv_int, DX.deqv_str, DX.deqv_bl, DX.uMakeM, DX.uMakeF, DX.uMakeSF, DX.uProp, DX.uGName, DX.uGNil, DX.uGCons, DX.uGTup, DX.uGSet, DX.uAsg, DX.uDrop, DX.uRet, DX.uRetN, DX.uNext, DX.uBreak, DX.uCont, DX.uNever, DX.uSeq, DX.uIfS, DX.uCut, DX.uAug, DX.uSetF, DX.uISeq, DX.uIRng1, DX.uIRng2, DX.uFor, DX.uWhile, DX.uLc, DX.uYes, DX.uRaise, DX.uTry, DX.uXf, DX.uIsX, DX.uGet, DX.uGSetO, DX.uSMeth, DX.uIEnum, DX.uIZip, DX.uGUn, DX.uPar, DX.uVar, DX.uC, DX.uNil, DX.uCons, DX.uTup, DX.uLst, DX.uLstM, DX.uOp, DX.dI, DX.dIC, DX.dEq, DX.dNe, DX.dAdd, DX.uUn, DX.uIsN, DX.dTru, DX.uTru, DX.uTest, DX.uAndB, DX.uOrB, DX.uNotB, DX.uAnd, DX.uOr, DX.uNot, DX.uIf, DX.uChain, DX.dIx, DX.uNoPart, DX.uPart, DX.uSl, DX.dIn, DX.uFld, DX.uCB, DX.one, DX.dLen, DX.dIsB, DX.uIs, DX.dIsO, DX.dInt, DX.dList, DX.dTuple, DX.uBM, DX.dAppend, DX.dExtend, DX.dIndex, DX.uM1, DX.uCall, DX.uMeth, DX.dTwo, DX.dRep, DX.dLenO, DX.dCmpO, DX.dNeO, DX.dInO, DX.dMakeM, DX.dMakeF, DX.isC, DX.insAt, List.getElem?_cons_zero, List.getElem?_cons_succ, List.getElem?_nil, List.set_cons_zero, List.set_cons_succ, List.length_cons, List.length_nil, DX.wipeD, DX.tyIs, DX.v_non, DX.vT_non, DX.ty_non, DX.v_bl, DX.vT_bl, DX.ty_bl, DX.v_int, DX.vT_int, DX.ty_int, DX.v_str, DX.vT_str, DX.ty_str, DX.v_byt, DX.vT_byt, DX.ty_byt, DX.v_lst, DX.vT_lst, DX.ty_lst, DX.v_tup, DX.vT_tup, DX.ty_tup, DX.v_kt, DX.vT_kt, DX.ty_kt, DX.v_kl, DX.vT_kl, DX.ty_kl, DX.v_ins, DX.vT_ins, DX.ty_ins, DX.v_val, DX.vT_val, DX.ty_val, if_true, if_false, Bool.false_eq_true, reduceIte, Bool.not_true, Bool.not_false, true_and, and_true, List.isEmpty_cons, List.isEmpty_nil, Nat.reduceAdd]
              exact k _ _ ⟨_, wr, by omega, w2, by omega, w4, rfl, rfl⟩
          · rintro ρ μ1 ⟨o11, wr, w1, w2, w3, w4, rfl, rfl⟩
            rw [dints_len] at w1
            refine hnx _ _ ?_
            clear hnx nx
            refine seq_step fun nx hnx => ?_
            simp (maxSteps := 4000000) only [DX.at_r0, DX.set_r0, DX.putD_nil, DX.putD_hd, DX.look_hd, DX.atI_nat, DX.at0, DX.at1, DX.at2, DX.at3, DX.eqok_int, DX.eqok_str, DX.eqok_bl, DX.deqv_int, DX.deqv_str, DX.deqv_bl, DX.uMakeM, DX.uMakeF, DX.uMakeSF, DX.uProp, DX.uGName, DX.uGNil, DX.uGCons, DX.uGTup, DX.uGSet, DX.uAsg, DX.uDrop, DX.uRet, DX.uRetN, DX.uNext, DX.uBreak, DX.uCont, DX.uNever, DX.uSeq, DX.uIfS, DX.uCut, DX.uAug, DX.uSetF, DX.uISeq, DX.uIRng1, DX.uIRng2, DX.uFor, DX.uWhile, DX.uLc, DX.uYes, DX.uRaise, DX.uTry, DX.uXf, DX.uIsX, DX.uGet, DX.uGSetO, DX.uSMeth, DX.uIEnum, DX.uIZip, DX.uGUn, DX.uPar, DX.uVar, DX.uC, DX.uNil, DX.uCons, DX.uTup, DX.uLst, DX.uLstM, DX.uOp, DX.dI, DX.dIC, DX.dEq, DX.dNe, DX.dAdd, DX.uUn, DX.uIsN, DX.dTru, DX.uTru, DX.uTest, DX.uAndB, DX.uOrB, DX.uNotB, DX.uAnd, DX.uOr, DX.uNot, DX.uIf, DX.uChain, DX.dIx, DX.uNoPart, DX.uPart, DX.uSl, DX.dIn, DX.uFld, DX.uCB, DX.one, DX.dLen, DX.dIsB, DX.uIs, DX.dIsO, DX.dInt, DX.dList, DX.dTuple, DX.uBM, DX.dAppend, DX.dExtend, DX.dIndex, DX.uM1, DX.uCall, DX.uMeth, DX.dTwo, DX.dRep, DX.dLenO, DX.dCmpO, DX.dNeO, DX.dInO, DX.dMakeM, DX.dMakeF, DX.isC, DX.insAt, List.getElem?_cons_zero, List.getElem?_cons_succ, List.getElem?_nil, List.set_cons_zero, List.set_cons_succ, List.length_cons, List.length_nil, DX.wipeD, DX.tyIs, DX.v_non, DX.vT_non, DX.ty_non, DX.v_bl, DX.vT_bl, DX.ty_bl, DX.v_int, DX.vT_int, DX.ty_int, DX.v_str, DX.vT_str, DX.ty_str, DX.v_byt, DX.vT_byt, DX.ty_byt, DX.v_lst, DX.vT_lst, DX.ty_lst, DX.v_tup, DX.vT_tup, DX.ty_tup, DX.v_kt, DX.vT_kt, DX.ty_kt, DX.v_kl, DX.vT_kl, DX.ty_kl, DX.v_ins, DX.vT_ins, DX.ty_ins, DX.v_val, DX.vT_val, DX.ty_val, if_true, if_false, Bool.false_eq_true, reduceIte, Bool.not_true, Bool.not_false, true_and, and_true, List.isEmpty_cons, List.isEmpty_nil, Nat.reduceAdd]
            refine ⟨⟨by decide, by decide⟩, ?_⟩
            have hlt : p < μ2.length := lt_of_at hp
            have e0 : μ2 ++ [M.lst (wr.map cc)] = pm μ2 p a b [M.lst (wr.map cc)] := by
              have := pm_0 hp
              unfold pm at this ⊢
              rw [List.append_nil] at this
              rw [← this]
            refine for_map (fun n ρ μ1 => ∃ (l : Mem) (a b : Int) (o12 o13 o14 o15 : Option D), PoolOk b ∧ μ1 = pm μ2 p a b (M.lst (wr.map cc) :: l) ∧ ρ = [some (D.ob p), some (D.lst (List.map dd ps)), some (mkD W bs), some (D.lst (List.map D.bl bs)),
              some (D.lst (List.map dd ps)), some (D.lst (savedD ns)), some (D.lst (List.map D.int ns)), o7, o8, o9, some (D.ob μ2.length), o11, o12, o13, o14, o15]) ⟨[], a, b, none, none, none, none, hb, e0, rfl⟩ (fun _ _ _ _ => True.intro) ?_ ?_
            · rintro ρ μ1 ⟨l, a, b, o12, o13, o14, o15, hb, rfl, rfl⟩
              refine hnx _ _ ?_
              clear hnx nx
              simp (maxSteps := 4000000) only [DX.at_r0, DX.set_r0, DX.putD_nil, DX.putD_hd, DX.look_hd, DX.atI_nat, DX.at0, DX.at1, DX.at2, DX.at3, DX.eqok_int, DX.eqok_str, DX.eqok_bl, DX.deqv_int, DX.deqv_str, DX.deqv_bl, DX.uMakeM, DX.uMakeF, DX.uMakeSF, DX.uProp, DX.uGName, DX.uGNil, DX.uGCons, DX.uGTup, DX.uGSet, DX.uAsg, DX.uDrop, DX.uRet, DX.uRetN, DX.uNext, DX.uBreak, DX.uCont, DX.uNever, DX.uSeq, DX.uIfS, DX.uCut, DX.uAug, DX.uSetF, DX.uISeq, DX.uIRng1, DX.uIRng2, DX.uFor, DX.uWhile, DX.uLc, DX.uYes, DX.uRaise, DX.uTry, DX.uXf, DX.uIsX, DX.uGet, DX.uGSetO, DX.uSMeth, DX.uIEnum, DX.uIZip, DX.uGUn, DX.uPar, DX.uVar, DX.uC, DX.uNil, DX.uCons, DX.uTup, DX.uLst, DX.uLstM, DX.uOp, DX.dI, DX.dIC, DX.dEq, DX.dNe, DX.dAdd, DX.uUn, DX.uIsN, DX.dTru, DX.uTru, DX.uTest, DX.uAndB, DX.uOrB, DX.uNotB, DX.uAnd, DX.uOr, DX.uNot, DX.uIf, DX.uChain, DX.dIx, DX.uNoPart, DX.uPart, DX.uSl, DX.dIn, DX.uFld, DX.uCB, DX.one, DX.dLen, DX.dIsB, DX.uIs, DX.dIsO, DX.dInt, DX.dList, DX.dTuple, DX.uBM, DX.dAppend, DX.dExtend, DX.dIndex, DX.uM1, DX.uCall, DX.uMeth, DX.dTwo, DX.dRep, DX.dLenO, DX.dCmpO, DX.dNeO, DX.dInO, DX.dMakeM, DX.dMakeF, DX.isC, DX.insAt, List.getElem?_cons_zero, List.getElem?_cons_succ, List.getElem?_nil, List.set_cons_zero, List.set_cons_succ, List.length_cons, List.length_nil, DX.wipeD, DX.tyIs, DX.v_non, DX.vT_non, DX.ty_non, DX.v_bl, DX.vT_bl, DX.ty_bl, DX.v_int, DX.vT_int, DX.ty_int, DX.v_str, DX.vT_str, DX.ty_str, DX.v_byt, DX.vT_byt, DX.ty_byt, DX.v_lst, DX.vT_lst, DX.ty_lst, DX.v_tup, DX.vT_tup, DX.ty_tup, DX.v_kt, DX.vT_kt, DX.ty_kt, DX.v_kl, DX.vT_kl, DX.ty_kl, DX.v_ins, DX.vT_ins, DX.ty_ins, DX.v_val, DX.vT_val, DX.ty_val, if_true, if_false, Bool.false_eq_true, reduceIte, Bool.not_true, Bool.not_false, true_and, and_true, List.isEmpty_cons, List.isEmpty_nil, Nat.reduceAdd]
              refine .inr ⟨pm_stays, rfl, ?_⟩
              show Q (.bl true) ((pm μ2 p a b (M.lst (wr.map cc) :: l)).take μ2.length)
              unfold pm
              rw [take_n (by rw [List.length_set])]
              exact q a b hb
            · rintro n e ρ μ1 go he ⟨l, a, b, o12, o13, o14, o15, hb, rfl, rfl⟩ k
              have hn := lt_of_at he
              rw [dints_len] at hn
              rw [dints_get _ _ _ hn, Int.zero_add] at he
              cases he
              refine seq_step fun nx2 hnx2 => ?_
              simp (maxSteps := 4000000) only [DX.at_r0, DX.set_r0, DX.putD_nil, DX.putD_hd, DX.look_hd, DX.atI_nat, DX.at0, DX.at1, DX.at2, DX.at3, DX.eqok_int, DX.eqok_str, DX.eqok_bl, DX.deqv_int, DX.deqv_str, DX.deqv_bl, DX.uMakeM, DX.uMakeF, DX.uMakeSF, DX.uProp, DX.uGName, DX.uGNil, DX.uGCons, DX.uGTup, DX.uGSet, DX.uAsg, DX.uDrop, DX.uRet, DX.uRetN, DX.uNext, DX.uBreak, DX.uCont, DX.uNever, DX.uSeq, DX.uIfS, DX.uCut, DX.uAug, DX.uSetF, DX.uISeq, DX.uIRng1, DX.uIRng2, DX.uFor, DX.uWhile, DX.uLc, DX.uYes, DX.uRaise, DX.uTry, DX.uXf, DX.uIsX, DX.uGet, DX.uGSetO, DX.uSMeth, DX.uIEnum, DX.uIZip, DX.uGUn, DX.uPar, DX.uVar, DX.uC, DX.uNil, DX.uCons, DX.uTup, DX.uLst, DX.uLstM, DX.uOp, DX.dI, DX.dIC, DX.dEq, DX.dNe, DX.dAdd, DX.uUn, DX.uIsN, DX.dTru, DX.uTru, DX.uTest, DX.uAndB, DX.uOrB, DX.uNotB, DX.uAnd, DX.uOr, DX.uNot, DX.uIf, DX.uChain, DX.dIx, DX.uNoPart, DX.uPart, DX.uSl, DX.dIn, DX.uFld, DX.uCB, DX.one, DX.dLen, DX.dIsB, DX.uIs, DX.dIsO, DX.dInt, DX.dList, DX.dTuple, DX.uBM, DX.dAppend, DX.dExtend, DX.dIndex, DX.uM1, DX.uCall, DX.uMeth, DX.dTwo, DX.dRep, DX.dLenO, DX.dCmpO, DX.dNeO, DX.dInO, DX.dMakeM, DX.dMakeF, DX.isC, DX.insAt, List.getElem?_cons_zero, List.getElem?_cons_succ, List.getElem?_nil, List.set_cons_zero, List.set_cons_succ, List.length_cons, List.length_nil, DX.wipeD, DX.tyIs, DX.v_non, DX.vT_non, DX.ty_non, DX.v_bl, DX.vT_bl, DX.ty_bl, DX.v_int, DX.vT_int, DX.ty_int, DX.v_str, DX.vT_str, DX.ty_str, DX.v_byt, DX.vT_byt, DX.ty_byt, DX.v_lst, DX.vT_lst, DX.ty_lst, DX.v_tup, DX.vT_tup, DX.ty_tup, DX.v_kt, DX.vT_kt, DX.ty_kt, DX.v_kl, DX.vT_kl, DX.ty_kl, DX.v_ins, DX.vT_ins, DX.ty_ins, DX.v_val, DX.vT_val, DX.ty_val, if_true, if_false, Bool.false_eq_true, reduceIte, Bool.not_true, Bool.not_false, true_and, and_true, List.isEmpty_cons, List.isEmpty_nil, Nat.reduceAdd]
              refine take_ok W hlt hb (by decide) (by decide) fun cnt a b hcnt hb => ?_
              have wv : view (pm μ2 p a b (M.lst (wr.map cc) :: l)) (.ob μ2.length) = .lst (wr.map cc) := v_obL pm_n0
              refine ⟨⟨by omega, by omega⟩, ?_⟩
              refine lc_map (fun n acc μ1 => ∃ (a b : Int) (cl : List (Nat × Nat)), PoolOk b ∧ cl.length = n ∧ n ≤ 6 ∧ acc = cl.map cc ∧ (∀ c ∈ cl, c.1 ≤ ps.length ∧ c.2 < bs.length) ∧ μ1 = pm μ2 p a b (M.lst (wr.map cc) :: l)) ⟨a, b, [], hb, rfl, Nat.zero_le _, rfl, (fun c hc => nomatch hc), rfl⟩ (fun _ _ _ _ => True.intro) ?_ ?_
              rotate_left
              · rintro j e acc μ1 go2 he ⟨a, b, cl, hb, hcn, hc12, rfl, hcl, rfl⟩ k2
                have hj := lt_of_at he
                rw [dints_len] at hj
                rw [dints_get _ _ _ hj, Int.zero_add] at he
                cases he
                have wv : view (pm μ2 p a b (M.lst (wr.map cc) :: l)) (.ob μ2.length) = .lst (wr.map cc) := v_obL pm_n0
                simp (maxSteps := 4000000) only [List.map_cons, List.map_nil, wv, List.length_map, DX.at_r0, DX.set_r0, DX.putD_nil, DX.putD_hd, DX.look_hd, DX.atI_nat, DX.at0, DX.at1, DX.at2, DX.at3, DX.eqok_int, DX.eqok_str, DX.eqok_bl, DX.deqv_int, DX.deqv_str, DX.deqv_bl, DX.uMakeM, DX.uMakeF, DX.uMakeSF, DX.uProp, DX.uGName, DX.uGNil, DX.uGCons, DX.uGTup, DX.uGSet, DX.uAsg, DX.uDrop, DX.uRet, DX.uRetN, DX.uNext, DX.uBreak, DX.uCont, DX.uNever, DX.uSeq, DX.uIfS, DX.uCut, DX.uAug, DX.uSetF, DX.uISeq, DX.uIRng1, DX.uIRng2, DX.uFor, DX.uWhile, DX.uLc, DX.uYes, DX.uRaise, DX.uTry, DX.uXf, DX.uIsX, DX.uGet, DX.uGSetO, DX.uSMeth, DX.uIEnum, DX.uIZip, DX.uGUn, DX.uPar, DX.uVar, DX.uC, DX.uNil, DX.uCons, DX.uTup, DX.uLst, DX.uLstM, DX.uOp, DX.dI, DX.dIC, DX.dEq, DX.dNe, DX.dAdd, DX.uUn, DX.uIsN, DX.dTru, DX.uTru, DX.uTest, DX.uAndB, DX.uOrB, DX.uNotB, DX.uAnd, DX.uOr, DX.uNot, DX.uIf, DX.uChain, DX.dIx, DX.uNoPart, DX.uPart, DX.uSl, DX.dIn, DX.uFld, DX.uCB, DX.one, DX.dLen, DX.dIsB, DX.uIs, DX.dIsO, DX.dInt, DX.dList, DX.dTuple, DX.uBM, DX.dAppend, DX.dExtend, DX.dIndex, DX.uM1, DX.uCall, DX.uMeth, DX.dTwo, DX.dRep, DX.dLenO, DX.dCmpO, DX.dNeO, DX.dInO, DX.dMakeM, DX.dMakeF, DX.isC, DX.insAt, List.getElem?_cons_zero, List.getElem?_cons_succ, List.getElem?_nil, List.set_cons_zero, List.set_cons_succ, List.length_cons, List.length_nil, DX.wipeD, DX.tyIs, DX.v_non, DX.vT_non, DX.ty_non, DX.v_bl, DX.vT_bl, DX.ty_bl, DX.v_int, DX.vT_int, DX.ty_int, DX.v_str, DX.vT_str, DX.ty_str, DX.v_byt, DX.vT_byt, DX.ty_byt, DX.v_lst, DX.vT_lst, DX.ty_lst, DX.v_tup, DX.vT_tup, DX.ty_tup, DX.v_kt, DX.vT_kt, DX.ty_kt, DX.v_kl, DX.vT_kl, DX.ty_kl, DX.v_ins, DX.vT_ins, DX.ty_ins, DX.v_val, DX.vT_val, DX.ty_val, if_true, if_false, Bool.false_eq_true, reduceIte, Bool.not_true, Bool.not_false, true_and, and_true, List.isEmpty_cons, List.isEmpty_nil, Nat.reduceAdd]
                refine take_ok W hlt hb (by omega) (by omega) fun x a b hx hb => ?_
                have wv : view (pm μ2 p a b (M.lst (wr.map cc) :: l)) (.ob μ2.length) = .lst (wr.map cc) := v_obL pm_n0
                have hx : x < wr.length := by omega
                have hw : wr[x]? = some wr[x] := List.getElem?_eq_getElem hx
                have hwm := w4 _ (List.getElem_mem hx)
                simp (maxSteps := 4000000) only [wv, List.getElem?_map, hw, Option.map_some, DX.at_r0, DX.set_r0, DX.putD_nil, DX.putD_hd, DX.look_hd, DX.atI_nat, DX.at0, DX.at1, DX.at2, DX.at3, DX.eqok_int, DX.eqok_str, DX.eqok_bl, DX.deqv_int, DX.deqv_str, DX.deqv_bl, DX.uMakeM, DX.uMakeF, DX.uMakeSF, DX.uProp, DX.uGName, DX.uGNil, DX.uGCons, DX.uGTup, DX.uGSet, DX.uAsg, DX.uDrop, DX.uRet, DX.uRetN, DX.uNext, DX.uBreak, DX.uCont, DX.uNever, DX.uSeq, DX.uIfS, DX.uCut, DX.uAug, DX.uSetF, DX.uISeq, DX.uIRng1, DX.uIRng2, DX.uFor, DX.uWhile, DX.uLc, DX.uYes, DX.uRaise, DX.uTry, DX.uXf, DX.uIsX, DX.uGet, DX.uGSetO, DX.uSMeth, DX.uIEnum, DX.uIZip, DX.uGUn, DX.uPar, DX.uVar, DX.uC, DX.uNil, DX.uCons, DX.uTup, DX.uLst, DX.uLstM, DX.uOp, DX.dI, DX.dIC, DX.dEq, DX.dNe, DX.dAdd, DX.uUn, DX.uIsN, DX.dTru, DX.uTru, DX.uTest, DX.uAndB, DX.uOrB, DX.uNotB, DX.uAnd, DX.uOr, DX.uNot, DX.uIf, DX.uChain, DX.dIx, DX.uNoPart, DX.uPart, DX.uSl, DX.dIn, DX.uFld, DX.uCB, DX.one, DX.dLen, DX.dIsB, DX.uIs, DX.dIsO, DX.dInt, DX.dList, DX.dTuple, DX.uBM, DX.dAppend, DX.dExtend, DX.dIndex, DX.uM1, DX.uCall, DX.uMeth, DX.dTwo, DX.dRep, DX.dLenO, DX.dCmpO, DX.dNeO, DX.dInO, DX.dMakeM, DX.dMakeF, DX.isC, DX.insAt, List.getElem?_cons_zero, List.getElem?_cons_succ, List.getElem?_nil, List.set_cons_zero, List.set_cons_succ, List.length_cons, List.length_nil, DX.wipeD, DX.tyIs, DX.v_non, DX.vT_non, DX.ty_non, DX.v_bl, DX.vT_bl, DX.ty_bl, DX.v_int, DX.vT_int, DX.ty_int, DX.v_str, DX.vT_str, DX.ty_str, DX.v_byt, DX.vT_byt, DX.ty_byt, DX.v_lst, DX.vT_lst, DX.ty_lst, DX.v_tup, DX.vT_tup, DX.ty_tup, DX.v_kt, DX.vT_kt, DX.ty_kt, DX.v_kl, DX.vT_kl, DX.ty_kl, DX.v_ins, DX.vT_ins, DX.ty_ins, DX.v_val, DX.vT_val, DX.ty_val, if_true, if_false, Bool.false_eq_true, reduceIte, Bool.not_true, Bool.not_false, true_and, and_true, List.isEmpty_cons, List.isEmpty_nil, Nat.reduceAdd]
                generalize wr[x] = c at hwm
                refine ⟨by omega, k2 _ _ ⟨a, b, cl ++ [c], hb, by simp [hcn], by omega, by simp, fun c' hc => ?_, rfl⟩⟩
                rcases List.mem_append.mp hc with hc | hc
                · exact hcl c' hc
                · rw [List.mem_singleton.mp hc]; exact hwm
              · rintro acc μ1 ⟨a, b, cl, hb, hcn, hc12, rfl, hcl, rfl⟩
                refine hnx2 _ _ ?_
                clear hnx2 nx2
                refine seq_step fun nx2 hnx2 => ?_
                simp (maxSteps := 4000000) only [pm_app, pm_len, List.cons_append, List.nil_append, List.length_map, DX.at_r0, DX.set_r0, DX.putD_nil, DX.putD_hd, DX.look_hd, DX.atI_nat, DX.at0, DX.at1, DX.at2, DX.at3, DX.eqok_int, DX.eqok_str, DX.eqok_bl, DX.deqv_int, DX.deqv_str, DX.deqv_bl, DX.uMakeM, DX.uMakeF, DX.uMakeSF, DX.uProp, DX.uGName, DX.uGNil, DX.uGCons, DX.uGTup, DX.uGSet, DX.uAsg, DX.uDrop, DX.uRet, DX.uRetN, DX.uNext, DX.uBreak, DX.uCont, DX.uNever, DX.uSeq, DX.uIfS, DX.uCut, DX.uAug, DX.uSetF, DX.uISeq, DX.uIRng1, DX.uIRng2, DX.uFor, DX.uWhile, DX.uLc, DX.uYes, DX.uRaise, DX.uTry, DX.uXf, DX.uIsX, DX.uGet, DX.uGSetO, DX.uSMeth, DX.uIEnum, DX.uIZip, DX.uGUn, DX.uPar, DX.uVar, DX.uC, DX.uNil, DX.uCons, DX.uTup, DX.uLst, DX.uLstM, DX.uOp, DX.dI, DX.dIC, DX.dEq, DX.dNe, DX.dAdd, DX.uUn, DX.uIsN, DX.dTru, DX.uTru, DX.uTest, DX.uAndB, DX.uOrB, DX.uNotB, DX.uAnd, DX.uOr, DX.uNot, DX.uIf, DX.uChain, DX.dIx, DX.uNoPart, DX.uPart, DX.uSl, DX.dIn, DX.uFld, DX.uCB, DX.one, DX.dLen, DX.dIsB, DX.uIs, DX.dIsO, DX.dInt, DX.dList, DX.dTuple, DX.uBM, DX.dAppend, DX.dExtend, DX.dIndex, DX.uM1, DX.uCall, DX.uMeth, DX.dTwo, DX.dRep, DX.dLenO, DX.dCmpO, DX.dNeO, DX.dInO, DX.dMakeM, DX.dMakeF, DX.isC, DX.insAt, List.getElem?_cons_zero, List.getElem?_cons_succ, List.getElem?_nil, List.set_cons_zero, List.set_cons_succ, List.length_cons, List.length_nil, DX.wipeD, DX.tyIs, DX.v_non, DX.vT_non, DX.ty_non, DX.v_bl, DX.vT_bl, DX.ty_bl, DX.v_int, DX.vT_int, DX.ty_int, DX.v_str, DX.vT_str, DX.ty_str, DX.v_byt, DX.vT_byt, DX.ty_byt, DX.v_lst, DX.vT_lst, DX.ty_lst, DX.v_tup, DX.vT_tup, DX.ty_tup, DX.v_kt, DX.vT_kt, DX.ty_kt, DX.v_kl, DX.vT_kl, DX.ty_kl, DX.v_ins, DX.vT_ins, DX.ty_ins, DX.v_val, DX.vT_val, DX.ty_val, if_true, if_false, Bool.false_eq_true, reduceIte, Bool.not_true, Bool.not_false, true_and, and_true, List.isEmpty_cons, List.isEmpty_nil, Nat.reduceAdd]
                refine take_ok W hlt hb (by decide) (by decide) fun z a b hz hb => ?_
                have key : ∀ (a b : Int) (cl : List (Nat × Nat)), PoolOk b → cl.length ≤ 7 → (∀ c ∈ cl, c.1 ≤ ps.length ∧ c.2 < bs.length) → nx2 [some (D.ob p), some (D.lst (List.map dd ps)), some (mkD W bs), some (D.lst (List.map D.bl bs)),
              some (D.lst (List.map dd ps)), some (D.lst (savedD ns)), some (D.lst (List.map D.int ns)), o7, o8, o9, some (D.ob μ2.length), o11, some (D.int n), some (D.ob (μ2.length + (l.length + 1))), o14, o15] (pm μ2 p a b (M.lst (wr.map cc) :: (l ++ [M.lst (cl.map cc)]))) := by
                  clear hb hz z hcl hcn hc12 cl a b
                  intro a b cl hb hc7 hcl
                  refine hnx2 _ _ ?_
                  clear hnx2 nx2
                  have c8 : μ2.length + (l.length + 1) = μ2.length + (l.length + 1) := rfl
                  have cv : view (pm μ2 p a b (M.lst (wr.map cc) :: (l ++ [M.lst (cl.map cc)]))) (.ob (μ2.length + (l.length + 1))) = .lst (cl.map cc) := v_obL (by rw [pm_n, List.getElem?_cons_succ]; exact at_r0)
                  have hm : (List.replicate (Int.toNat 8) [D.int 0]).flatten = List.replicate 8 (D.int 0) := rfl
                  have hcm : ((savedD ns).length : Int) - 1 = ns.length := by rw [fl]; omega
                  have hi : (if (ns.length : Int) < (cl.length : Int) then (ns.length : Int) else (cl.length : Int)) = ((min ns.length cl.length : Nat) : Int) := by split <;> omega
                  have hx : (savedD ns ++ List.replicate 8 (D.int 0))[min ns.length cl.length]? = some (.int (ns.drop (min ns.length cl.length)).sum) := by
                    rw [List.getElem?_append_left (by rw [fl]; omega)]
                    exact fat _ (Nat.min_le_left _ _)
                  have hs : (ns.drop (min ns.length cl.length)).sum ≤ ((lrun cl 0 ps (bs, 0)).2 : Int) := by
                    have := T4 cl hall n1 n2
                    rcases Nat.le_total ns.length cl.length with z | z
                    · rw [Nat.min_eq_left z]
                      rw [List.drop_eq_nil_iff.mpr z] at this
                      rw [List.drop_eq_nil_iff.mpr (Nat.le_refl _)]; exact this
                    · rw [Nat.min_eq_right z]; exact this
                  simp (maxSteps := 4000000) only [List.length_map, DX.at_r0, DX.set_r0, DX.putD_nil, DX.putD_hd, DX.look_hd, DX.atI_nat, DX.at0, DX.at1, DX.at2, DX.at3, DX.eqok_int, DX.eqok_str, DX.eqok_bl, DX.deqv_int, DX.deqv_str, DX.deqv_bl, DX.uMakeM, DX.uMakeF, DX.uMakeSF, DX.uProp, DX.uGName, DX.uGNil, DX.uGCons, DX.uGTup, DX.uGSet, DX.uAsg, DX.uDrop, DX.uRet, DX.uRetN, DX.uNext, DX.uBreak, DX.uCont, DX.uNever, DX.uSeq, DX.uIfS, DX.uCut, DX.uAug, DX.uSetF, DX.uISeq, DX.uIRng1, DX.uIRng2, DX.uFor, DX.uWhile, DX.uLc, DX.uYes, DX.uRaise, DX.uTry, DX.uXf, DX.uIsX, DX.uGet, DX.uGSetO, DX.uSMeth, DX.uIEnum, DX.uIZip, DX.uGUn, DX.uPar, DX.uVar, DX.uC, DX.uNil, DX.uCons, DX.uTup, DX.uLst, DX.uLstM, DX.uOp, DX.dI, DX.dIC, DX.dEq, DX.dNe, DX.dAdd, DX.uUn, DX.uIsN, DX.dTru, DX.uTru, DX.uTest, DX.uAndB, DX.uOrB, DX.uNotB, DX.uAnd, DX.uOr, DX.uNot, DX.uIf, DX.uChain, DX.dIx, DX.uNoPart, DX.uPart, DX.uSl, DX.dIn, DX.uFld, DX.uCB, DX.one, DX.dLen, DX.dIsB, DX.uIs, DX.dIsO, DX.dInt, DX.dList, DX.dTuple, DX.uBM, DX.dAppend, DX.dExtend, DX.dIndex, DX.uM1, DX.uCall, DX.uMeth, DX.dTwo, DX.dRep, DX.dLenO, DX.dCmpO, DX.dNeO, DX.dInO, DX.dMakeM, DX.dMakeF, DX.isC, DX.insAt, List.getElem?_cons_zero, List.getElem?_cons_succ, List.getElem?_nil, List.set_cons_zero, List.set_cons_succ, List.length_cons, List.length_nil, DX.wipeD, DX.tyIs, DX.v_non, DX.vT_non, DX.ty_non, DX.v_bl, DX.vT_bl, DX.ty_bl, DX.v_int, DX.vT_int, DX.ty_int, DX.v_str, DX.vT_str, DX.ty_str, DX.v_byt, DX.vT_byt, DX.ty_byt, DX.v_lst, DX.vT_lst, DX.ty_lst, DX.v_tup, DX.vT_tup, DX.ty_tup, DX.v_kt, DX.vT_kt, DX.ty_kt, DX.v_kl, DX.vT_kl, DX.ty_kl, DX.v_ins, DX.vT_ins, DX.ty_ins, DX.v_val, DX.vT_val, DX.ty_val, if_true, if_false, Bool.false_eq_true, reduceIte, Bool.not_true, Bool.not_false, true_and, and_true, List.isEmpty_cons, List.isEmpty_nil, Nat.reduceAdd]
                  refine ⟨_, _, _, bs, rfl, cv, by simp; omega, mkD_v, by omega, .inr ⟨dd_ok hall, .inr ⟨ps, cl, rfl, rfl, hall, hcl, ?_⟩⟩⟩
                  simp (maxSteps := 4000000) only [hm, cv, hcm, List.length_map, hi, hx, DX.at_r0, DX.set_r0, DX.putD_nil, DX.putD_hd, DX.look_hd, DX.atI_nat, DX.at0, DX.at1, DX.at2, DX.at3, DX.eqok_int, DX.eqok_str, DX.eqok_bl, DX.deqv_int, DX.deqv_str, DX.deqv_bl, DX.uMakeM, DX.uMakeF, DX.uMakeSF, DX.uProp, DX.uGName, DX.uGNil, DX.uGCons, DX.uGTup, DX.uGSet, DX.uAsg, DX.uDrop, DX.uRet, DX.uRetN, DX.uNext, DX.uBreak, DX.uCont, DX.uNever, DX.uSeq, DX.uIfS, DX.uCut, DX.uAug, DX.uSetF, DX.uISeq, DX.uIRng1, DX.uIRng2, DX.uFor, DX.uWhile, DX.uLc, DX.uYes, DX.uRaise, DX.uTry, DX.uXf, DX.uIsX, DX.uGet, DX.uGSetO, DX.uSMeth, DX.uIEnum, DX.uIZip, DX.uGUn, DX.uPar, DX.uVar, DX.uC, DX.uNil, DX.uCons, DX.uTup, DX.uLst, DX.uLstM, DX.uOp, DX.dI, DX.dIC, DX.dEq, DX.dNe, DX.dAdd, DX.uUn, DX.uIsN, DX.dTru, DX.uTru, DX.uTest, DX.uAndB, DX.uOrB, DX.uNotB, DX.uAnd, DX.uOr, DX.uNot, DX.uIf, DX.uChain, DX.dIx, DX.uNoPart, DX.uPart, DX.uSl, DX.dIn, DX.uFld, DX.uCB, DX.one, DX.dLen, DX.dIsB, DX.uIs, DX.dIsO, DX.dInt, DX.dList, DX.dTuple, DX.uBM, DX.dAppend, DX.dExtend, DX.dIndex, DX.uM1, DX.uCall, DX.uMeth, DX.dTwo, DX.dRep, DX.dLenO, DX.dCmpO, DX.dNeO, DX.dInO, DX.dMakeM, DX.dMakeF, DX.isC, DX.insAt, List.getElem?_cons_zero, List.getElem?_cons_succ, List.getElem?_nil, List.set_cons_zero, List.set_cons_succ, List.length_cons, List.length_nil, DX.wipeD, DX.tyIs, DX.v_non, DX.vT_non, DX.ty_non, DX.v_bl, DX.vT_bl, DX.ty_bl, DX.v_int, DX.vT_int, DX.ty_int, DX.v_str, DX.vT_str, DX.ty_str, DX.v_byt, DX.vT_byt, DX.ty_byt, DX.v_lst, DX.vT_lst, DX.ty_lst, DX.v_tup, DX.vT_tup, DX.ty_tup, DX.v_kt, DX.vT_kt, DX.ty_kt, DX.v_kl, DX.vT_kl, DX.ty_kl, DX.v_ins, DX.vT_ins, DX.ty_ins, DX.v_val, DX.vT_val, DX.ty_val, if_true, if_false, Bool.false_eq_true, reduceIte, Bool.not_true, Bool.not_false, true_and, and_true, List.isEmpty_cons, List.isEmpty_nil, Nat.reduceAdd]
                  rw [if_neg (by rw [decide_eq_true_iff]; omega)]
                  refine ⟨by decide, by decide, ?_, ?_⟩
                  · rw [fl, List.length_replicate]; exact Nat.le_trans (show ns.length + 1 + 8 ≤ 2000 by omega) (by decide)
                  exact k _ _ ⟨_, a, b, _, _, _, _, hb, rfl, rfl⟩
                simp (maxSteps := 4000000) only [List.length_map, DX.at_r0, DX.set_r0, DX.putD_nil, DX.putD_hd, DX.look_hd, DX.atI_nat, DX.at0, DX.at1, DX.at2, DX.at3, DX.eqok_int, DX.eqok_str, DX.eqok_bl, DX.deqv_int, DX.deqv_str, DX.deqv_bl, DX.uMakeM, DX.uMakeF, DX.uMakeSF, DX.uProp, DX.uGName, DX.uGNil, DX.uGCons, DX.uGTup, DX.uGSet, DX.uAsg, DX.uDrop, DX.uRet, DX.uRetN, DX.uNext, DX.uBreak, DX.uCont, DX.uNever, DX.uSeq, DX.uIfS, DX.uCut, DX.uAug, DX.uSetF, DX.uISeq, DX.uIRng1, DX.uIRng2, DX.uFor, DX.uWhile, DX.uLc, DX.uYes, DX.uRaise, DX.uTry, DX.uXf, DX.uIsX, DX.uGet, DX.uGSetO, DX.uSMeth, DX.uIEnum, DX.uIZip, DX.uGUn, DX.uPar, DX.uVar, DX.uC, DX.uNil, DX.uCons, DX.uTup, DX.uLst, DX.uLstM, DX.uOp, DX.dI, DX.dIC, DX.dEq, DX.dNe, DX.dAdd, DX.uUn, DX.uIsN, DX.dTru, DX.uTru, DX.uTest, DX.uAndB, DX.uOrB, DX.uNotB, DX.uAnd, DX.uOr, DX.uNot, DX.uIf, DX.uChain, DX.dIx, DX.uNoPart, DX.uPart, DX.uSl, DX.dIn, DX.uFld, DX.uCB, DX.one, DX.dLen, DX.dIsB, DX.uIs, DX.dIsO, DX.dInt, DX.dList, DX.dTuple, DX.uBM, DX.dAppend, DX.dExtend, DX.dIndex, DX.uM1, DX.uCall, DX.uMeth, DX.dTwo, DX.dRep, DX.dLenO, DX.dCmpO, DX.dNeO, DX.dInO, DX.dMakeM, DX.dMakeF, DX.isC, DX.insAt, List.getElem?_cons_zero, List.getElem?_cons_succ, List.getElem?_nil, List.set_cons_zero, List.set_cons_succ, List.length_cons, List.length_nil, DX.wipeD, DX.tyIs, DX.v_non, DX.vT_non, DX.ty_non, DX.v_bl, DX.vT_bl, DX.ty_bl, DX.v_int, DX.vT_int, DX.ty_int, DX.v_str, DX.vT_str, DX.ty_str, DX.v_byt, DX.vT_byt, DX.ty_byt, DX.v_lst, DX.vT_lst, DX.ty_lst, DX.v_tup, DX.vT_tup, DX.ty_tup, DX.v_kt, DX.vT_kt, DX.ty_kt, DX.v_kl, DX.vT_kl, DX.ty_kl, DX.v_ins, DX.vT_ins, DX.ty_ins, DX.v_val, DX.vT_val, DX.ty_val, if_true, if_false, Bool.false_eq_true, reduceIte, Bool.not_true, Bool.not_false, true_and, and_true, List.isEmpty_cons, List.isEmpty_nil, Nat.reduceAdd]
                have cat : ∀ (a b : Int) (cl : List (Nat × Nat)), (pm μ2 p a b (M.lst (wr.map cc) :: (l ++ [M.lst (cl.map cc)])))[μ2.length + (l.length + 1)]? = some (M.lst (cl.map cc)) := fun a b cl => by rw [pm_n, List.getElem?_cons_succ]; exact at_r0
                refine ifb (fun ez => ?_) (fun ez => ?_)
                · refine ⟨isLst_at (cat _ _ _), ?_⟩
                  refine take_ok W hlt hb (by omega) (by omega) fun g a b hg hb => ?_
                  refine take_ok W hlt hb (by omega) (by omega) fun y a b hy hb => ?_
                  simp (maxSteps := 4000000) only [cat, DX.at_r0, DX.set_r0, DX.putD_nil, DX.putD_hd, DX.look_hd, DX.atI_nat, DX.at0, DX.at1, DX.at2, DX.at3, DX.eqok_int, DX.eqok_str, DX.eqok_bl, DX.deqv_int, DX.deqv_str, DX.deqv_bl, DX.uMakeM, DX.uMakeF, DX.uMakeSF, DX.uProp, DX.uGName, DX.uGNil, DX.uGCons, DX.uGTup, DX.uGSet, DX.uAsg, DX.uDrop, DX.uRet, DX.uRetN, DX.uNext, DX.uBreak, DX.uCont, DX.uNever, DX.uSeq, DX.uIfS, DX.uCut, DX.uAug, DX.uSetF, DX.uISeq, DX.uIRng1, DX.uIRng2, DX.uFor, DX.uWhile, DX.uLc, DX.uYes, DX.uRaise, DX.uTry, DX.uXf, DX.uIsX, DX.uGet, DX.uGSetO, DX.uSMeth, DX.uIEnum, DX.uIZip, DX.uGUn, DX.uPar, DX.uVar, DX.uC, DX.uNil, DX.uCons, DX.uTup, DX.uLst, DX.uLstM, DX.uOp, DX.dI, DX.dIC, DX.dEq, DX.dNe, DX.dAdd, DX.uUn, DX.uIsN, DX.dTru, DX.uTru, DX.uTest, DX.uAndB, DX.uOrB, DX.uNotB, DX.uAnd, DX.uOr, DX.uNot, DX.uIf, DX.uChain, DX.dIx, DX.uNoPart, DX.uPart, DX.uSl, DX.dIn, DX.uFld, DX.uCB, DX.one, DX.dLen, DX.dIsB, DX.uIs, DX.dIsO, DX.dInt, DX.dList, DX.dTuple, DX.uBM, DX.dAppend, DX.dExtend, DX.dIndex, DX.uM1, DX.uCall, DX.uMeth, DX.dTwo, DX.dRep, DX.dLenO, DX.dCmpO, DX.dNeO, DX.dInO, DX.dMakeM, DX.dMakeF, DX.isC, DX.insAt, List.getElem?_cons_zero, List.getElem?_cons_succ, List.getElem?_nil, List.set_cons_zero, List.set_cons_succ, List.length_cons, List.length_nil, DX.wipeD, DX.tyIs, DX.v_non, DX.vT_non, DX.ty_non, DX.v_bl, DX.vT_bl, DX.ty_bl, DX.v_int, DX.vT_int, DX.ty_int, DX.v_str, DX.vT_str, DX.ty_str, DX.v_byt, DX.vT_byt, DX.ty_byt, DX.v_lst, DX.vT_lst, DX.ty_lst, DX.v_tup, DX.vT_tup, DX.ty_tup, DX.v_kt, DX.vT_kt, DX.ty_kt, DX.v_kl, DX.vT_kl, DX.ty_kl, DX.v_ins, DX.vT_ins, DX.ty_ins, DX.v_val, DX.vT_val, DX.ty_val, if_true, if_false, Bool.false_eq_true, reduceIte, Bool.not_true, Bool.not_false, true_and, and_true, List.isEmpty_cons, List.isEmpty_nil, Nat.reduceAdd]
                  refine ⟨by decide, Nat.lt_of_le_of_lt (show (cl.map cc).length ≤ 7 by rw [List.length_map]; omega) (by decide), ?_⟩
                  rw [pm_sn, List.set_cons_succ, set_r0]
                  have := key a b (cl ++ [(g, y)]) hb (by simp; omega) (fun c hc => by
                    rcases List.mem_append.mp hc with hc | hc
                    · exact hcl c hc
                    · rw [List.mem_singleton.mp hc]; exact ⟨by show g ≤ ps.length; omega, by show y < bs.length; omega⟩)
                  rw [List.map_append] at this
                  exact this
                · exact key a b cl hb (by omega) hcl
  · exact h.elim

end
end Toy
set_option Elab.async false
set_option linter.all false
set_option maxRecDepth 100000
set_option maxHeartbeats 4000000
namespace Toy
open PySem PySem.Spec PyProof.Rows L2 DX
section
variable {P : Program} {w : World} {K : PySem.W.Frag} {mg : Str → Option Value} {base : Heap}

theorem ok_law (W : Wd P w K mg base) : FnD P w K mg base 9 W.f_law (SLaw) := by
  refine (okB W.t_law.d sc_law (by (intro ds μ Q E h; obtain ⟨ns, hx, _⟩ := h; subst hx; rfl)) _ (fun cdv A outer s H E' g hr => ⟨_, (b_cons (s_for (passes_of rfl) (i_rng1 W.z_range (a_cons (d_callB (call_max2 rfl) sim_two W.z_max (a_cons d_int (a_cons (d_callB (call_min2 rfl) sim_two W.z_min (a_cons d_int (a_cons (d_callB (call_lenA rfl) sim_len W.z_len (a_cons (d_var 0) a_nil)) a_nil))) a_nil))) a_nil)) (g_name 1 sc_law.nd)
      (b_cons (s_set 2 sc_law.nd (d_call (ok_law_pool W) W.t_law_pool.a W.t_law_pool.d.kp g (hr.mono (by decide)) (takes_of rfl rfl rfl rfl) (a_cons (d_var 0) (a_cons (d_var 1) a_nil))))
      (b_cons (s_asg (d_call (ok_law_deeds W) W.t_law_deeds.a W.t_law_deeds.d.kp g (hr.mono (by decide)) (takes_of rfl rfl rfl rfl) (a_cons (d_var 2) a_nil)) (g_un 3 (gs_cons (g_name 3 sc_law.nd) (gs_cons (g_name 4 sc_law.nd) (gs_cons (g_name 5 sc_law.nd) gs_nil)))))
      (b_one (s_if (t_not (t_tru (d_call (ok_law_right W) W.t_law_right.a W.t_law_right.d.kp g hr (takes_of rfl rfl rfl rfl) (a_cons (d_var 2) (a_cons (d_var 3) (a_cons (d_var 4) (a_cons (d_var 5) a_nil))))))) (b_one (s_ret d_bl)) b_nil)))))
      (b_one (s_ret d_bl)))⟩) (fun ds μ Q E h => ?_)).fn0 W.t_law.b
  unfold SLaw at h
  obtain ⟨ns, rfl, hn, q⟩ := h
  rw [show startD ["script", "k", "pool", "deeds", "marks", "kept"] [.kl (ns.map .int)] = [some (.kl (ns.map .int)), none, none, none, none, none] from rfl]
  simp (maxSteps := 4000000) only [List.length_map, DX.at_r0, DX.set_r0, DX.putD_nil, DX.putD_hd, DX.look_hd, DX.atI_nat, DX.at0, DX.at1, DX.at2, DX.at3, DX.eqok_int, DX.eqok_str, DX.eqok_bl, DX.deqv_int, DX.deqv_str, DX.deqv_bl, DX.uMakeM, DX.uMakeF, DX.uMakeSF, DX.uProp, DX.uGName, DX.uGNil, DX.uGCons, DX.uGTup, DX.uGSet, DX.uAsg, DX.uDrop, DX.uRet, DX.uRetN, DX.uNext, DX.uBreak, DX.uCont, DX.uNever, DX.uSeq, DX.uIfS, DX.uCut, DX.uAug, DX.uSetF, DX.uISeq, DX.uIRng1, DX.uIRng2, DX.uFor, DX.uWhile, DX.uLc, DX.uYes, DX.uRaise, DX.uTry, DX.uXf, DX.uIsX, DX.uGet, DX.uGSetO, DX.uSMeth, DX.uIEnum, DX.uIZip, DX.uGUn, DX.uPar, DX.uVar, DX.uC, DX.uNil, DX.uCons, DX.uTup, DX.uLst, DX.uLstM, DX.uOp, DX.dI, DX.dIC, DX.dEq, DX.dNe, DX.dAdd, DX.uUn, DX.uIsN, DX.dTru, DX.uTru, DX.uTest, DX.uAndB, DX.uOrB, DX.uNotB, DX.uAnd, DX.uOr, DX.uNot, DX.uIf, DX.uChain, DX.dIx, DX.uNoPart, DX.uPart, DX.uSl, DX.dIn, DX.uFld, DX.uCB, DX.one, DX.dLen, DX.dIsB, DX.uIs, DX.dIsO, DX.dInt, DX.dList, DX.dTuple, DX.uBM, DX.dAppend, DX.dExtend, DX.dIndex, DX.uM1, DX.uCall, DX.uMeth, DX.dTwo, DX.dRep, DX.dLenO, DX.dCmpO, DX.dNeO, DX.dInO, DX.dMakeM, DX.dMakeF, DX.isC, DX.insAt, List.getElem?_cons_zero, List.getElem?_cons_succ, List.getElem?_nil, List.set_cons_zero, List.set_cons_succ, List.length_cons, List.length_nil, DX.wipeD, DX.tyIs, DX.v_non, DX.vT_non, DX.ty_non, DX.v_bl, DX.vT_bl, DX.ty_bl, DX.v_int, DX.vT_int, DX.ty_int, DX.v_str, DX.vT_str, DX.ty_str, DX.v_byt, DX.vT_byt, DX.ty_byt, DX.v_lst, DX.vT_lst, DX.ty_lst, DX.v_tup, DX.vT_tup, DX.ty_tup, DX.v_kt, DX.vT_kt, DX.ty_kt, DX.v_kl, DX.vT_kl, DX.ty_kl, DX.v_ins, DX.vT_ins, DX.ty_ins, DX.v_val, DX.vT_val, DX.ty_val, if_true, if_false, Bool.false_eq_true, reduceIte, Bool.not_true, Bool.not_false, true_and, and_true, List.isEmpty_cons, List.isEmpty_nil, Nat.reduceAdd]
  refine ⟨⟨by split <;> split <;> omega, by split <;> split <;> omega⟩, ?_⟩
  refine for_map (fun n ρ μ1 => n < 1000 ∧ ∃ o1 o2 o3 o4 o5, ρ = [some (.kl (ns.map .int)), o1, o2, o3, o4, o5]) ⟨by decide, _, _, _, _, _, rfl⟩ (fun _ _ _ _ => True.intro) ?_ ?_
  · rintro ρ μ1 ⟨_, o1, o2, o3, o4, o5, rfl⟩
    simp (maxSteps := 4000000) only [DX.at_r0, DX.set_r0, DX.putD_nil, DX.putD_hd, DX.look_hd, DX.atI_nat, DX.at0, DX.at1, DX.at2, DX.at3, DX.eqok_int, DX.eqok_str, DX.eqok_bl, DX.deqv_int, DX.deqv_str, DX.deqv_bl, DX.uMakeM, DX.uMakeF, DX.uMakeSF, DX.uProp, DX.uGName, DX.uGNil, DX.uGCons, DX.uGTup, DX.uGSet, DX.uAsg, DX.uDrop, DX.uRet, DX.uRetN, DX.uNext, DX.uBreak, DX.uCont, DX.uNever, DX.uSeq, DX.uIfS, DX.uCut, DX.uAug, DX.uSetF, DX.uISeq, DX.uIRng1, DX.uIRng2, DX.uFor, DX.uWhile, DX.uLc, DX.uYes, DX.uRaise, DX.uTry, DX.uXf, DX.uIsX, DX.uGet, DX.uGSetO, DX.uSMeth, DX.uIEnum, DX.uIZip, DX.uGUn, DX.uPar, DX.uVar, DX.uC, DX.uNil, DX.uCons, DX.uTup, DX.uLst, DX.uLstM, DX.uOp, DX.dI, DX.dIC, DX.dEq, DX.dNe, DX.dAdd, DX.uUn, DX.uIsN, DX.dTru, DX.uTru, DX.uTest, DX.uAndB, DX.uOrB, DX.uNotB, DX.uAnd, DX.uOr, DX.uNot, DX.uIf, DX.uChain, DX.dIx, DX.uNoPart, DX.uPart, DX.uSl, DX.dIn, DX.uFld, DX.uCB, DX.one, DX.dLen, DX.dIsB, DX.uIs, DX.dIsO, DX.dInt, DX.dList, DX.dTuple, DX.uBM, DX.dAppend, DX.dExtend, DX.dIndex, DX.uM1, DX.uCall, DX.uMeth, DX.dTwo, DX.dRep, DX.dLenO, DX.dCmpO, DX.dNeO, DX.dInO, DX.dMakeM, DX.dMakeF, DX.isC, DX.insAt, List.getElem?_cons_zero, List.getElem?_cons_succ, List.getElem?_nil, List.set_cons_zero, List.set_cons_succ, List.length_cons, List.length_nil, DX.wipeD, DX.tyIs, DX.v_non, DX.vT_non, DX.ty_non, DX.v_bl, DX.vT_bl, DX.ty_bl, DX.v_int, DX.vT_int, DX.ty_int, DX.v_str, DX.vT_str, DX.ty_str, DX.v_byt, DX.vT_byt, DX.ty_byt, DX.v_lst, DX.vT_lst, DX.ty_lst, DX.v_tup, DX.vT_tup, DX.ty_tup, DX.v_kt, DX.vT_kt, DX.ty_kt, DX.v_kl, DX.vT_kl, DX.ty_kl, DX.v_ins, DX.vT_ins, DX.ty_ins, DX.v_val, DX.vT_val, DX.ty_val, if_true, if_false, Bool.false_eq_true, reduceIte, Bool.not_true, Bool.not_false, true_and, and_true, List.isEmpty_cons, List.isEmpty_nil, Nat.reduceAdd]
    exact .inl (q _)
  · rintro n e ρ μ1 go he ⟨_, o1, o2, o3, o4, o5, rfl⟩ k
    have hk := lt_of_at he
    rw [dints_len] at hk
    rw [dints_get _ _ _ hk, Int.zero_add] at he
    cases he
    have hk8 : n < 8 := by split at hk <;> omega
    clear hk
    simp (maxSteps := 4000000) only [DX.at_r0, DX.set_r0, DX.putD_nil, DX.putD_hd, DX.look_hd, DX.atI_nat, DX.at0, DX.at1, DX.at2, DX.at3, DX.eqok_int, DX.eqok_str, DX.eqok_bl, DX.deqv_int, DX.deqv_str, DX.deqv_bl, DX.uMakeM, DX.uMakeF, DX.uMakeSF, DX.uProp, DX.uGName, DX.uGNil, DX.uGCons, DX.uGTup, DX.uGSet, DX.uAsg, DX.uDrop, DX.uRet, DX.uRetN, DX.uNext, DX.uBreak, DX.uCont, DX.uNever, DX.uSeq, DX.uIfS, DX.uCut, DX.uAug, DX.uSetF, DX.uISeq, DX.uIRng1, DX.uIRng2, DX.uFor, DX.uWhile, DX.uLc, DX.uYes, DX.uRaise, DX.uTry, DX.uXf, DX.uIsX, DX.uGet, DX.uGSetO, DX.uSMeth, DX.uIEnum, DX.uIZip, DX.uGUn, DX.uPar, DX.uVar, DX.uC, DX.uNil, DX.uCons, DX.uTup, DX.uLst, DX.uLstM, DX.uOp, DX.dI, DX.dIC, DX.dEq, DX.dNe, DX.dAdd, DX.uUn, DX.uIsN, DX.dTru, DX.uTru, DX.uTest, DX.uAndB, DX.uOrB, DX.uNotB, DX.uAnd, DX.uOr, DX.uNot, DX.uIf, DX.uChain, DX.dIx, DX.uNoPart, DX.uPart, DX.uSl, DX.dIn, DX.uFld, DX.uCB, DX.one, DX.dLen, DX.dIsB, DX.uIs, DX.dIsO, DX.dInt, DX.dList, DX.dTuple, DX.uBM, DX.dAppend, DX.dExtend, DX.dIndex, DX.uM1, DX.uCall, DX.uMeth, DX.dTwo, DX.dRep, DX.dLenO, DX.dCmpO, DX.dNeO, DX.dInO, DX.dMakeM, DX.dMakeF, DX.isC, DX.insAt, List.getElem?_cons_zero, List.getElem?_cons_succ, List.getElem?_nil, List.set_cons_zero, List.set_cons_succ, List.length_cons, List.length_nil, DX.wipeD, DX.tyIs, DX.v_non, DX.vT_non, DX.ty_non, DX.v_bl, DX.vT_bl, DX.ty_bl, DX.v_int, DX.vT_int, DX.ty_int, DX.v_str, DX.vT_str, DX.ty_str, DX.v_byt, DX.vT_byt, DX.ty_byt, DX.v_lst, DX.vT_lst, DX.ty_lst, DX.v_tup, DX.vT_tup, DX.ty_tup, DX.v_kt, DX.vT_kt, DX.ty_kt, DX.v_kl, DX.vT_kl, DX.ty_kl, DX.v_ins, DX.vT_ins, DX.ty_ins, DX.v_val, DX.vT_val, DX.ty_val, if_true, if_false, Bool.false_eq_true, reduceIte, Bool.not_true, Bool.not_false, true_and, and_true, List.isEmpty_cons, List.isEmpty_nil, Nat.reduceAdd]
    refine ⟨ns, rfl, hn, by omega, by omega, fun a b hb => ?_⟩
    refine ⟨a, b, at_r0, hb, fun bs ps a' b' h1 h6 h40 hall hb' => ?_⟩
    simp (maxSteps := 4000000) only [DX.at_r0, DX.set_r0, DX.putD_nil, DX.putD_hd, DX.look_hd, DX.atI_nat, DX.at0, DX.at1, DX.at2, DX.at3, DX.eqok_int, DX.eqok_str, DX.eqok_bl, DX.deqv_int, DX.deqv_str, DX.deqv_bl, DX.uMakeM, DX.uMakeF, DX.uMakeSF, DX.uProp, DX.uGName, DX.uGNil, DX.uGCons, DX.uGTup, DX.uGSet, DX.uAsg, DX.uDrop, DX.uRet, DX.uRetN, DX.uNext, DX.uBreak, DX.uCont, DX.uNever, DX.uSeq, DX.uIfS, DX.uCut, DX.uAug, DX.uSetF, DX.uISeq, DX.uIRng1, DX.uIRng2, DX.uFor, DX.uWhile, DX.uLc, DX.uYes, DX.uRaise, DX.uTry, DX.uXf, DX.uIsX, DX.uGet, DX.uGSetO, DX.uSMeth, DX.uIEnum, DX.uIZip, DX.uGUn, DX.uPar, DX.uVar, DX.uC, DX.uNil, DX.uCons, DX.uTup, DX.uLst, DX.uLstM, DX.uOp, DX.dI, DX.dIC, DX.dEq, DX.dNe, DX.dAdd, DX.uUn, DX.uIsN, DX.dTru, DX.uTru, DX.uTest, DX.uAndB, DX.uOrB, DX.uNotB, DX.uAnd, DX.uOr, DX.uNot, DX.uIf, DX.uChain, DX.dIx, DX.uNoPart, DX.uPart, DX.uSl, DX.dIn, DX.uFld, DX.uCB, DX.one, DX.dLen, DX.dIsB, DX.uIs, DX.dIsO, DX.dInt, DX.dList, DX.dTuple, DX.uBM, DX.dAppend, DX.dExtend, DX.dIndex, DX.uM1, DX.uCall, DX.uMeth, DX.dTwo, DX.dRep, DX.dLenO, DX.dCmpO, DX.dNeO, DX.dInO, DX.dMakeM, DX.dMakeF, DX.isC, DX.insAt, List.getElem?_cons_zero, List.getElem?_cons_succ, List.getElem?_nil, List.set_cons_zero, List.set_cons_succ, List.length_cons, List.length_nil, DX.wipeD, DX.tyIs, DX.v_non, DX.vT_non, DX.ty_non, DX.v_bl, DX.vT_bl, DX.ty_bl, DX.v_int, DX.vT_int, DX.ty_int, DX.v_str, DX.vT_str, DX.ty_str, DX.v_byt, DX.vT_byt, DX.ty_byt, DX.v_lst, DX.vT_lst, DX.ty_lst, DX.v_tup, DX.vT_tup, DX.ty_tup, DX.v_kt, DX.vT_kt, DX.ty_kt, DX.v_kl, DX.vT_kl, DX.ty_kl, DX.v_ins, DX.vT_ins, DX.ty_ins, DX.v_val, DX.vT_val, DX.ty_val, if_true, if_false, Bool.false_eq_true, reduceIte, Bool.not_true, Bool.not_false, true_and, and_true, List.isEmpty_cons, List.isEmpty_nil, Nat.reduceAdd]
    refine ⟨a', b', ps, bs, rfl, rfl, rfl, at_r0, hb', h1, h6, h40, hall, fun a2 b2 hb2 => ?_⟩
    simp (maxSteps := 4000000) only [DX.at_r0, DX.set_r0, DX.putD_nil, DX.putD_hd, DX.look_hd, DX.atI_nat, DX.at0, DX.at1, DX.at2, DX.at3, DX.eqok_int, DX.eqok_str, DX.eqok_bl, DX.deqv_int, DX.deqv_str, DX.deqv_bl, DX.uMakeM, DX.uMakeF, DX.uMakeSF, DX.uProp, DX.uGName, DX.uGNil, DX.uGCons, DX.uGTup, DX.uGSet, DX.uAsg, DX.uDrop, DX.uRet, DX.uRetN, DX.uNext, DX.uBreak, DX.uCont, DX.uNever, DX.uSeq, DX.uIfS, DX.uCut, DX.uAug, DX.uSetF, DX.uISeq, DX.uIRng1, DX.uIRng2, DX.uFor, DX.uWhile, DX.uLc, DX.uYes, DX.uRaise, DX.uTry, DX.uXf, DX.uIsX, DX.uGet, DX.uGSetO, DX.uSMeth, DX.uIEnum, DX.uIZip, DX.uGUn, DX.uPar, DX.uVar, DX.uC, DX.uNil, DX.uCons, DX.uTup, DX.uLst, DX.uLstM, DX.uOp, DX.dI, DX.dIC, DX.dEq, DX.dNe, DX.dAdd, DX.uUn, DX.uIsN, DX.dTru, DX.uTru, DX.uTest, DX.uAndB, DX.uOrB, DX.uNotB, DX.uAnd, DX.uOr, DX.uNot, DX.uIf, DX.uChain, DX.dIx, DX.uNoPart, DX.uPart, DX.uSl, DX.dIn, DX.uFld, DX.uCB, DX.one, DX.dLen, DX.dIsB, DX.uIs, DX.dIsO, DX.dInt, DX.dList, DX.dTuple, DX.uBM, DX.dAppend, DX.dExtend, DX.dIndex, DX.uM1, DX.uCall, DX.uMeth, DX.dTwo, DX.dRep, DX.dLenO, DX.dCmpO, DX.dNeO, DX.dInO, DX.dMakeM, DX.dMakeF, DX.isC, DX.insAt, List.getElem?_cons_zero, List.getElem?_cons_succ, List.getElem?_nil, List.set_cons_zero, List.set_cons_succ, List.length_cons, List.length_nil, DX.wipeD, DX.tyIs, DX.v_non, DX.vT_non, DX.ty_non, DX.v_bl, DX.vT_bl, DX.ty_bl, DX.v_int, DX.vT_int, DX.ty_int, DX.v_str, DX.vT_str, DX.ty_str, DX.v_byt, DX.vT_byt, DX.ty_byt, DX.v_lst, DX.vT_lst, DX.ty_lst, DX.v_tup, DX.vT_tup, DX.ty_tup, DX.v_kt, DX.vT_kt, DX.ty_kt, DX.v_kl, DX.vT_kl, DX.ty_kl, DX.v_ins, DX.vT_ins, DX.ty_ins, DX.v_val, DX.vT_val, DX.ty_val, if_true, if_false, Bool.false_eq_true, reduceIte, Bool.not_true, Bool.not_false, true_and, and_true, List.isEmpty_cons, List.isEmpty_nil, Nat.reduceAdd]
    exact k _ _ ⟨by omega, _, _, _, _, _, rfl⟩

end
end Toy
set_option Elab.async false
set_option linter.all false
set_option maxRecDepth 100000
set_option maxHeartbeats 4000000
namespace Toy
open PySem PySem.Spec PyProof.Rows L2 DX
section
variable {P : Program} {w : World} {K : PySem.W.Frag} {mg : Str → Option Value} {base : Heap}
theorem ok_BadDeed_init {f D : Addr} {mc : Value} {fd : FuncData} (F : Fun K "__init__" "BadDeed.__init__" s_BadDeed_init f fd) (gD : mg "PagesError" = some (.ref D)) (U : Vx.UpC K D mc) : FnOk P w K mg base CX0 1 f fd ["self", "index"] (DX.spErr K "index") := by
  refine F.ok sc_BadDeed_init (fun vs H Q E h => ?_) (fun cdv A outer s H vs Q E hr h => ?_)
  · obtain ⟨a, C, v, rfl, _⟩ := h
    rfl
  · obtain ⟨a, C, v, rfl, T, no, ha, q⟩ := h
    refine ⟨_, pss_cons (ps_expr (Vx.pe_up (pe_glob (v := .ref D) (by rfl) gD rfl) U (pa_cons (pv 0) (pa_cons pe_str pa_nil)))) (pss_one (ps_ost (pv 0) (pv 1))), ?_⟩
    exact ⟨rfl, _, rfl, a, C, _, rfl, (by decide), T, ha, _, rfl, _, rfl, a, C, rfl, T, no, .inl ⟨ha, fun d nd ne => q d nd ne⟩⟩
theorem ok_BadMarks_init {f D : Addr} {mc : Value} {fd : FuncData} (F : Fun K "__init__" "BadMarks.__init__" s_BadMarks_init f fd) (gD : mg "PagesError" = some (.ref D)) (U : Vx.UpC K D mc) : FnOk P w K mg base CX0 1 f fd ["self", "at"] (DX.spErr K "at") := by
  refine F.ok sc_BadMarks_init (fun vs H Q E h => ?_) (fun cdv A outer s H vs Q E hr h => ?_)
  · obtain ⟨a, C, v, rfl, _⟩ := h
    rfl
  · obtain ⟨a, C, v, rfl, T, no, ha, q⟩ := h
    refine ⟨_, pss_cons (ps_expr (Vx.pe_up (pe_glob (v := .ref D) (by rfl) gD rfl) U (pa_cons (pv 0) (pa_cons pe_str pa_nil)))) (pss_one (ps_ost (pv 0) (pv 1))), ?_⟩
    exact ⟨rfl, _, rfl, a, C, _, rfl, (by decide), T, ha, _, rfl, _, rfl, a, C, rfl, T, no, .inl ⟨ha, fun d nd ne => q d nd ne⟩⟩
end
end Toy
set_option Elab.async false
set_option linter.all false
set_option maxRecDepth 100000
set_option maxHeartbeats 4000000
namespace Toy
open PySem PySem.Spec PyProof.Rows L2
theorem all_mk {l : PySem.W.OpenLaw} {w : World} {K : PySem.W.Frag} {h : Heap} {mg : Str → Option Value} {fa f_is_whole f_is_between f_is_one_of f_is_page f_check_deeds f_is_cleaning f_looks f_bursts f_descending f_least_looks f_saved f_law_pool f_law_take f_law_deeds f_law_worths f_law_right f_law C_Made C_Marks f_Marks_len f_Made_init f_Marks_init f_Marks_twin f_Marks_getitem f_Marks_setitem t_WORDS D_PagesError X_BadDeed f_iX_BadDeed X_BadMarks f_iX_BadMarks : Addr}  (X : K.In h) (G : h.Ns mainGlobals mg) (hfa : mg "law" = some (.ref fa))
    {od_is_whole an_is_whole : Option Addr} {sl_is_whole : Array (Option Value)} {oc_is_whole kV_is_whole dc_is_whole pm_is_whole cd_is_whole ct_is_whole : Value} {od_is_between an_is_between : Option Addr} {sl_is_between : Array (Option Value)} {oc_is_between kV_is_between dc_is_between pm_is_between cd_is_between ct_is_between : Value} {od_is_one_of an_is_one_of : Option Addr} {sl_is_one_of : Array (Option Value)} {oc_is_one_of kV_is_one_of dc_is_one_of pm_is_one_of cd_is_one_of ct_is_one_of : Value} {od_is_page an_is_page : Option Addr} {sl_is_page : Array (Option Value)} {oc_is_page kV_is_page dc_is_page pm_is_page cd_is_page ct_is_page : Value} {od_check_deeds an_check_deeds : Option Addr} {sl_check_deeds : Array (Option Value)} {oc_check_deeds kV_check_deeds dc_check_deeds pm_check_deeds cd_check_deeds ct_check_deeds : Value} {od_is_cleaning an_is_cleaning : Option Addr} {sl_is_cleaning : Array (Option Value)} {oc_is_cleaning kV_is_cleaning dc_is_cleaning pm_is_cleaning cd_is_cleaning ct_is_cleaning : Value} {od_looks an_looks : Option Addr} {sl_looks : Array (Option Value)} {oc_looks kV_looks dc_looks pm_looks cd_looks ct_looks : Value} {od_bursts an_bursts : Option Addr} {sl_bursts : Array (Option Value)} {oc_bursts kV_bursts dc_bursts pm_bursts cd_bursts ct_bursts : Value} {od_descending an_descending : Option Addr} {sl_descending : Array (Option Value)} {oc_descending kV_descending dc_descending pm_descending cd_descending ct_descending : Value} {od_least_looks an_least_looks : Option Addr} {sl_least_looks : Array (Option Value)} {oc_least_looks kV_least_looks dc_least_looks pm_least_looks cd_least_looks ct_least_looks : Value} {od_saved an_saved : Option Addr} {sl_saved : Array (Option Value)} {oc_saved kV_saved dc_saved pm_saved cd_saved ct_saved : Value} {od_law_pool an_law_pool : Option Addr} {sl_law_pool : Array (Option Value)} {oc_law_pool kV_law_pool dc_law_pool pm_law_pool cd_law_pool ct_law_pool : Value} {od_law_take an_law_take : Option Addr} {sl_law_take : Array (Option Value)} {oc_law_take kV_law_take dc_law_take pm_law_take cd_law_take ct_law_take : Value} {od_law_deeds an_law_deeds : Option Addr} {sl_law_deeds : Array (Option Value)} {oc_law_deeds kV_law_deeds dc_law_deeds pm_law_deeds cd_law_deeds ct_law_deeds : Value} {od_law_worths an_law_worths : Option Addr} {sl_law_worths : Array (Option Value)} {oc_law_worths kV_law_worths dc_law_worths pm_law_worths cd_law_worths ct_law_worths : Value} {od_law_right an_law_right : Option Addr} {sl_law_right : Array (Option Value)} {oc_law_right kV_law_right dc_law_right pm_law_right cd_law_right ct_law_right : Value} {od_law an_law : Option Addr} {sl_law : Array (Option Value)} {oc_law kV_law dc_law pm_law cd_law ct_law : Value} {od_Marks_len an_Marks_len : Option Addr} {sl_Marks_len : Array (Option Value)} {oc_Marks_len kV_Marks_len dc_Marks_len pm_Marks_len cd_Marks_len ct_Marks_len : Value} {od_Made_init an_Made_init : Option Addr} {sl_Made_init : Array (Option Value)} {oc_Made_init kV_Made_init dc_Made_init pm_Made_init cd_Made_init ct_Made_init : Value} {od_Marks_init an_Marks_init : Option Addr} {sl_Marks_init : Array (Option Value)} {oc_Marks_init kV_Marks_init dc_Marks_init pm_Marks_init cd_Marks_init ct_Marks_init : Value} {od_Marks_twin an_Marks_twin : Option Addr} {sl_Marks_twin : Array (Option Value)} {oc_Marks_twin kV_Marks_twin dc_Marks_twin pm_Marks_twin cd_Marks_twin ct_Marks_twin : Value} {od_Marks_getitem an_Marks_getitem : Option Addr} {sl_Marks_getitem : Array (Option Value)} {oc_Marks_getitem kV_Marks_getitem dc_Marks_getitem pm_Marks_getitem cd_Marks_getitem ct_Marks_getitem : Value} {od_Marks_setitem an_Marks_setitem : Option Addr} {sl_Marks_setitem : Array (Option Value)} {oc_Marks_setitem kV_Marks_setitem dc_Marks_setitem pm_Marks_setitem cd_Marks_setitem ct_Marks_setitem : Value} {tk_MOST_PAGES : Tok} {tc_WORDS : Value} {to_WORDS : Option Addr} {ti_WORDS : Array Value} {tn_WORDS : Nat} {ts_WORDS : Array (Option Value)} {nm_X_BadDeed qn_X_BadDeed : Str} {ns_X_BadDeed : Addr} {bs_X_BadDeed bm_X_BadDeed : List Value} {sn_X_BadDeed : List Str} {sb_X_BadDeed : List Value} {ab_X_BadDeed : Bool} {co_X_BadDeed : Option Bool} {dd_X_BadDeed : Option Addr} {m0_X_BadDeed m1_X_BadDeed m2_X_BadDeed m3_X_BadDeed m5_X_BadDeed : Option Value} {od_iX_BadDeed an_iX_BadDeed : Option Addr} {sl_iX_BadDeed : Array (Option Value)} {oc_iX_BadDeed kV_iX_BadDeed dc_iX_BadDeed pm_iX_BadDeed cd_iX_BadDeed ct_iX_BadDeed : Value} {nm_X_BadMarks qn_X_BadMarks : Str} {ns_X_BadMarks : Addr} {bs_X_BadMarks bm_X_BadMarks : List Value} {sn_X_BadMarks : List Str} {sb_X_BadMarks : List Value} {ab_X_BadMarks : Bool} {co_X_BadMarks : Option Bool} {dd_X_BadMarks : Option Addr} {m0_X_BadMarks m1_X_BadMarks m2_X_BadMarks m3_X_BadMarks m5_X_BadMarks : Option Value} {od_iX_BadMarks an_iX_BadMarks : Option Addr} {sl_iX_BadMarks : Array (Option Value)} {oc_iX_BadMarks kV_iX_BadMarks dc_iX_BadMarks pm_iX_BadMarks cd_iX_BadMarks ct_iX_BadMarks : Value}
    (a_is_whole : PySem.W.nsIn K mainGlobals "is_whole" = some (some (.ref f_is_whole)))
    (l_is_whole : K.lookup f_is_whole = some ⟨oc_is_whole, od_is_whole, .func (PySem.W.fnOf "is_whole" "is_whole" (defArgs s_is_whole) (defBody s_is_whole) (defScope s_is_whole) .none kV_is_whole dc_is_whole pm_is_whole an_is_whole cd_is_whole ct_is_whole), sl_is_whole⟩)
    (c_is_whole : PySem.W.codeIn K cd_is_whole "is_whole" = true)
    (k_is_whole : PySem.W.keepIn K (.ref f_is_whole) = true)
    (a_is_between : PySem.W.nsIn K mainGlobals "is_between" = some (some (.ref f_is_between)))
    (l_is_between : K.lookup f_is_between = some ⟨oc_is_between, od_is_between, .func (PySem.W.fnOf "is_between" "is_between" (defArgs s_is_between) (defBody s_is_between) (defScope s_is_between) .none kV_is_between dc_is_between pm_is_between an_is_between cd_is_between ct_is_between), sl_is_between⟩)
    (c_is_between : PySem.W.codeIn K cd_is_between "is_between" = true)
    (k_is_between : PySem.W.keepIn K (.ref f_is_between) = true)
    (a_is_one_of : PySem.W.nsIn K mainGlobals "is_one_of" = some (some (.ref f_is_one_of)))
    (l_is_one_of : K.lookup f_is_one_of = some ⟨oc_is_one_of, od_is_one_of, .func (PySem.W.fnOf "is_one_of" "is_one_of" (defArgs s_is_one_of) (defBody s_is_one_of) (defScope s_is_one_of) .none kV_is_one_of dc_is_one_of pm_is_one_of an_is_one_of cd_is_one_of ct_is_one_of), sl_is_one_of⟩)
    (c_is_one_of : PySem.W.codeIn K cd_is_one_of "is_one_of" = true)
    (k_is_one_of : PySem.W.keepIn K (.ref f_is_one_of) = true)
    (a_is_page : PySem.W.nsIn K mainGlobals "_is_page" = some (some (.ref f_is_page)))
    (l_is_page : K.lookup f_is_page = some ⟨oc_is_page, od_is_page, .func (PySem.W.fnOf "_is_page" "_is_page" (defArgs s_is_page) (defBody s_is_page) (defScope s_is_page) .none kV_is_page dc_is_page pm_is_page an_is_page cd_is_page ct_is_page), sl_is_page⟩)
    (c_is_page : PySem.W.codeIn K cd_is_page "_is_page" = true)
    (k_is_page : PySem.W.keepIn K (.ref f_is_page) = true)
    (a_check_deeds : PySem.W.nsIn K mainGlobals "_check_deeds" = some (some (.ref f_check_deeds)))
    (l_check_deeds : K.lookup f_check_deeds = some ⟨oc_check_deeds, od_check_deeds, .func (PySem.W.fnOf "_check_deeds" "_check_deeds" (defArgs s_check_deeds) (defBody s_check_deeds) (defScope s_check_deeds) .none kV_check_deeds dc_check_deeds pm_check_deeds an_check_deeds cd_check_deeds ct_check_deeds), sl_check_deeds⟩)
    (c_check_deeds : PySem.W.codeIn K cd_check_deeds "_check_deeds" = true)
    (k_check_deeds : PySem.W.keepIn K (.ref f_check_deeds) = true)
    (a_is_cleaning : PySem.W.nsIn K mainGlobals "_is_cleaning" = some (some (.ref f_is_cleaning)))
    (l_is_cleaning : K.lookup f_is_cleaning = some ⟨oc_is_cleaning, od_is_cleaning, .func (PySem.W.fnOf "_is_cleaning" "_is_cleaning" (defArgs s_is_cleaning) (defBody s_is_cleaning) (defScope s_is_cleaning) .none kV_is_cleaning dc_is_cleaning pm_is_cleaning an_is_cleaning cd_is_cleaning ct_is_cleaning), sl_is_cleaning⟩)
    (c_is_cleaning : PySem.W.codeIn K cd_is_cleaning "_is_cleaning" = true)
    (k_is_cleaning : PySem.W.keepIn K (.ref f_is_cleaning) = true)
    (a_looks : PySem.W.nsIn K mainGlobals "looks" = some (some (.ref f_looks)))
    (l_looks : K.lookup f_looks = some ⟨oc_looks, od_looks, .func (PySem.W.fnOf "looks" "looks" (defArgs s_looks) (defBody s_looks) (defScope s_looks) .none kV_looks dc_looks pm_looks an_looks cd_looks ct_looks), sl_looks⟩)
    (c_looks : PySem.W.codeIn K cd_looks "looks" = true)
    (k_looks : PySem.W.keepIn K (.ref f_looks) = true)
    (a_bursts : PySem.W.nsIn K mainGlobals "_bursts" = some (some (.ref f_bursts)))
    (l_bursts : K.lookup f_bursts = some ⟨oc_bursts, od_bursts, .func (PySem.W.fnOf "_bursts" "_bursts" (defArgs s_bursts) (defBody s_bursts) (defScope s_bursts) .none kV_bursts dc_bursts pm_bursts an_bursts cd_bursts ct_bursts), sl_bursts⟩)
    (c_bursts : PySem.W.codeIn K cd_bursts "_bursts" = true)
    (k_bursts : PySem.W.keepIn K (.ref f_bursts) = true)
    (a_descending : PySem.W.nsIn K mainGlobals "_descending" = some (some (.ref f_descending)))
    (l_descending : K.lookup f_descending = some ⟨oc_descending, od_descending, .func (PySem.W.fnOf "_descending" "_descending" (defArgs s_descending) (defBody s_descending) (defScope s_descending) .none kV_descending dc_descending pm_descending an_descending cd_descending ct_descending), sl_descending⟩)
    (c_descending : PySem.W.codeIn K cd_descending "_descending" = true)
    (k_descending : PySem.W.keepIn K (.ref f_descending) = true)
    (a_least_looks : PySem.W.nsIn K mainGlobals "least_looks" = some (some (.ref f_least_looks)))
    (l_least_looks : K.lookup f_least_looks = some ⟨oc_least_looks, od_least_looks, .func (PySem.W.fnOf "least_looks" "least_looks" (defArgs s_least_looks) (defBody s_least_looks) (defScope s_least_looks) .none kV_least_looks dc_least_looks pm_least_looks an_least_looks cd_least_looks ct_least_looks), sl_least_looks⟩)
    (c_least_looks : PySem.W.codeIn K cd_least_looks "least_looks" = true)
    (k_least_looks : PySem.W.keepIn K (.ref f_least_looks) = true)
    (a_saved : PySem.W.nsIn K mainGlobals "saved" = some (some (.ref f_saved)))
    (l_saved : K.lookup f_saved = some ⟨oc_saved, od_saved, .func (PySem.W.fnOf "saved" "saved" (defArgs s_saved) (defBody s_saved) (defScope s_saved) .none kV_saved dc_saved pm_saved an_saved cd_saved ct_saved), sl_saved⟩)
    (c_saved : PySem.W.codeIn K cd_saved "saved" = true)
    (k_saved : PySem.W.keepIn K (.ref f_saved) = true)
    (a_law_pool : PySem.W.nsIn K mainGlobals "_law_pool" = some (some (.ref f_law_pool)))
    (l_law_pool : K.lookup f_law_pool = some ⟨oc_law_pool, od_law_pool, .func (PySem.W.fnOf "_law_pool" "_law_pool" (defArgs s_law_pool) (defBody s_law_pool) (defScope s_law_pool) .none kV_law_pool dc_law_pool pm_law_pool an_law_pool cd_law_pool ct_law_pool), sl_law_pool⟩)
    (c_law_pool : PySem.W.codeIn K cd_law_pool "_law_pool" = true)
    (k_law_pool : PySem.W.keepIn K (.ref f_law_pool) = true)
    (a_law_take : PySem.W.nsIn K mainGlobals "_law_take" = some (some (.ref f_law_take)))
    (l_law_take : K.lookup f_law_take = some ⟨oc_law_take, od_law_take, .func (PySem.W.fnOf "_law_take" "_law_take" (defArgs s_law_take) (defBody s_law_take) (defScope s_law_take) .none kV_law_take dc_law_take pm_law_take an_law_take cd_law_take ct_law_take), sl_law_take⟩)
    (c_law_take : PySem.W.codeIn K cd_law_take "_law_take" = true)
    (k_law_take : PySem.W.keepIn K (.ref f_law_take) = true)
    (a_law_deeds : PySem.W.nsIn K mainGlobals "_law_deeds" = some (some (.ref f_law_deeds)))
    (l_law_deeds : K.lookup f_law_deeds = some ⟨oc_law_deeds, od_law_deeds, .func (PySem.W.fnOf "_law_deeds" "_law_deeds" (defArgs s_law_deeds) (defBody s_law_deeds) (defScope s_law_deeds) .none kV_law_deeds dc_law_deeds pm_law_deeds an_law_deeds cd_law_deeds ct_law_deeds), sl_law_deeds⟩)
    (c_law_deeds : PySem.W.codeIn K cd_law_deeds "_law_deeds" = true)
    (k_law_deeds : PySem.W.keepIn K (.ref f_law_deeds) = true)
    (a_law_worths : PySem.W.nsIn K mainGlobals "_law_worths" = some (some (.ref f_law_worths)))
    (l_law_worths : K.lookup f_law_worths = some ⟨oc_law_worths, od_law_worths, .func (PySem.W.fnOf "_law_worths" "_law_worths" (defArgs s_law_worths) (defBody s_law_worths) (defScope s_law_worths) .none kV_law_worths dc_law_worths pm_law_worths an_law_worths cd_law_worths ct_law_worths), sl_law_worths⟩)
    (c_law_worths : PySem.W.codeIn K cd_law_worths "_law_worths" = true)
    (k_law_worths : PySem.W.keepIn K (.ref f_law_worths) = true)
    (a_law_right : PySem.W.nsIn K mainGlobals "_law_right" = some (some (.ref f_law_right)))
    (l_law_right : K.lookup f_law_right = some ⟨oc_law_right, od_law_right, .func (PySem.W.fnOf "_law_right" "_law_right" (defArgs s_law_right) (defBody s_law_right) (defScope s_law_right) .none kV_law_right dc_law_right pm_law_right an_law_right cd_law_right ct_law_right), sl_law_right⟩)
    (c_law_right : PySem.W.codeIn K cd_law_right "_law_right" = true)
    (k_law_right : PySem.W.keepIn K (.ref f_law_right) = true)
    (a_law : PySem.W.nsIn K mainGlobals "law" = some (some (.ref f_law)))
    (l_law : K.lookup f_law = some ⟨oc_law, od_law, .func (PySem.W.fnOf "law" "law" (defArgs s_law) (defBody s_law) (defScope s_law) .none kV_law dc_law pm_law an_law cd_law ct_law), sl_law⟩)
    (c_law : PySem.W.codeIn K cd_law "law" = true)
    (k_law : PySem.W.keepIn K (.ref f_law) = true)
    (cG : PySem.W.specialIn K (.builtin "object.__class__") "__get__" = some (some (.builtin "getset_descriptor.__get__")))
    (cT : PySem.W.takesIn K (.builtin "object.__class__") = some true)
    (a_C_Made : PySem.W.nsIn K mainGlobals "Made" = some (some (.ref C_Made)))
    (pg_C_Made : PySem.W.plainGet K C_Made Str.empty = true)
    (hd_C_Made : PySem.W.hasDictIn K C_Made = true)
    (po_C_Made : PySem.W.plainOver K C_Made = true)
    (sa_C_Made : PySem.W.findIn K (.ref C_Made) "__setattr__" = some (some (.builtin "object.__setattr__")))
    (mk_C_Made : PySem.W.makesIn K C_Made = true)
    (kc_C_Made : PySem.W.keepIn K (.ref C_Made) = true)
    (cC_C_Made : PySem.W.findIn K (.ref C_Made) "__class__" = some (some (.builtin "object.__class__")))
    (cM_C_Made : PySem.W.mroIn K C_Made (.type "object") = some true)
    (kk_C_Made : PySem.W.kitOne K (.ref C_Made) (.ref C_Made) = some true)
    (n_Made_flags : PySem.W.findIn K (.ref C_Made) "flags" = some none)
    (kt_Made_NoneType : PySem.W.kitOne K (.type "NoneType") (.ref C_Made) = some false)
    (kt_Made_bool : PySem.W.kitOne K (.type "bool") (.ref C_Made) = some false)
    (kt_Made_int : PySem.W.kitOne K (.type "int") (.ref C_Made) = some false)
    (kt_Made_str : PySem.W.kitOne K (.type "str") (.ref C_Made) = some false)
    (kt_Made_bytes : PySem.W.kitOne K (.type "bytes") (.ref C_Made) = some false)
    (kt_Made_list : PySem.W.kitOne K (.type "list") (.ref C_Made) = some false)
    (kt_Made_tuple : PySem.W.kitOne K (.type "tuple") (.ref C_Made) = some false)
    (kt_Made_dict : PySem.W.kitOne K (.type "dict") (.ref C_Made) = some false)
    (a_C_Marks : PySem.W.nsIn K mainGlobals "Marks" = some (some (.ref C_Marks)))
    (pg_C_Marks : PySem.W.plainGet K C_Marks Str.empty = true)
    (hd_C_Marks : PySem.W.hasDictIn K C_Marks = true)
    (po_C_Marks : PySem.W.plainOver K C_Marks = true)
    (sa_C_Marks : PySem.W.findIn K (.ref C_Marks) "__setattr__" = some (some (.builtin "object.__setattr__")))
    (mk_C_Marks : PySem.W.makesIn K C_Marks = true)
    (kc_C_Marks : PySem.W.keepIn K (.ref C_Marks) = true)
    (cC_C_Marks : PySem.W.findIn K (.ref C_Marks) "__class__" = some (some (.builtin "object.__class__")))
    (cM_C_Marks : PySem.W.mroIn K C_Marks (.type "object") = some true)
    (kk_C_Marks : PySem.W.kitOne K (.ref C_Marks) (.ref C_Marks) = some true)
    (n_Marks_flags : PySem.W.findIn K (.ref C_Marks) "_flags" = some none)
    (kt_Marks_NoneType : PySem.W.kitOne K (.type "NoneType") (.ref C_Marks) = some false)
    (kt_Marks_bool : PySem.W.kitOne K (.type "bool") (.ref C_Marks) = some false)
    (kt_Marks_int : PySem.W.kitOne K (.type "int") (.ref C_Marks) = some false)
    (kt_Marks_str : PySem.W.kitOne K (.type "str") (.ref C_Marks) = some false)
    (kt_Marks_bytes : PySem.W.kitOne K (.type "bytes") (.ref C_Marks) = some false)
    (kt_Marks_list : PySem.W.kitOne K (.type "list") (.ref C_Marks) = some false)
    (kt_Marks_tuple : PySem.W.kitOne K (.type "tuple") (.ref C_Marks) = some false)
    (kt_Marks_dict : PySem.W.kitOne K (.type "dict") (.ref C_Marks) = some false)
    (a_Marks_len : PySem.W.findIn K (.ref C_Marks) "__len__" = some (some (.ref f_Marks_len)))
    (i_Marks_len : PySem.W.isFn K (.ref f_Marks_len) = true)
    (l_Marks_len : K.lookup f_Marks_len = some ⟨oc_Marks_len, od_Marks_len, .func (PySem.W.fnOf "__len__" "Marks.__len__" (defArgs s_Marks_len) (defBody s_Marks_len) (defScope s_Marks_len) .none kV_Marks_len dc_Marks_len pm_Marks_len an_Marks_len cd_Marks_len ct_Marks_len), sl_Marks_len⟩)
    (c_Marks_len : PySem.W.codeIn K cd_Marks_len "Marks.__len__" = true)
    (k_Marks_len : PySem.W.keepIn K (.ref f_Marks_len) = true)
    (a_Made_init : PySem.W.findIn K (.ref C_Made) "__init__" = some (some (.ref f_Made_init)))
    (i_Made_init : PySem.W.isFn K (.ref f_Made_init) = true)
    (l_Made_init : K.lookup f_Made_init = some ⟨oc_Made_init, od_Made_init, .func (PySem.W.fnOf "__init__" "Made.__init__" (defArgs s_Made_init) (defBody s_Made_init) (defScope s_Made_init) .none kV_Made_init dc_Made_init pm_Made_init an_Made_init cd_Made_init ct_Made_init), sl_Made_init⟩)
    (c_Made_init : PySem.W.codeIn K cd_Made_init "Made.__init__" = true)
    (k_Made_init : PySem.W.keepIn K (.ref f_Made_init) = true)
    (a_Marks_init : PySem.W.findIn K (.ref C_Marks) "__init__" = some (some (.ref f_Marks_init)))
    (i_Marks_init : PySem.W.isFn K (.ref f_Marks_init) = true)
    (l_Marks_init : K.lookup f_Marks_init = some ⟨oc_Marks_init, od_Marks_init, .func (PySem.W.fnOf "__init__" "Marks.__init__" (defArgs s_Marks_init) (defBody s_Marks_init) (defScope s_Marks_init) .none kV_Marks_init dc_Marks_init pm_Marks_init an_Marks_init cd_Marks_init ct_Marks_init), sl_Marks_init⟩)
    (c_Marks_init : PySem.W.codeIn K cd_Marks_init "Marks.__init__" = true)
    (k_Marks_init : PySem.W.keepIn K (.ref f_Marks_init) = true)
    (a_Marks_twin : PySem.W.findIn K (.ref C_Marks) "twin" = some (some (.ref f_Marks_twin)))
    (i_Marks_twin : PySem.W.isFn K (.ref f_Marks_twin) = true)
    (l_Marks_twin : K.lookup f_Marks_twin = some ⟨oc_Marks_twin, od_Marks_twin, .func (PySem.W.fnOf "twin" "Marks.twin" (defArgs s_Marks_twin) (defBody s_Marks_twin) (defScope s_Marks_twin) .none kV_Marks_twin dc_Marks_twin pm_Marks_twin an_Marks_twin cd_Marks_twin ct_Marks_twin), sl_Marks_twin⟩)
    (c_Marks_twin : PySem.W.codeIn K cd_Marks_twin "Marks.twin" = true)
    (k_Marks_twin : PySem.W.keepIn K (.ref f_Marks_twin) = true)
    (a_Marks_getitem : PySem.W.findIn K (.ref C_Marks) "__getitem__" = some (some (.ref f_Marks_getitem)))
    (i_Marks_getitem : PySem.W.isFn K (.ref f_Marks_getitem) = true)
    (l_Marks_getitem : K.lookup f_Marks_getitem = some ⟨oc_Marks_getitem, od_Marks_getitem, .func (PySem.W.fnOf "__getitem__" "Marks.__getitem__" (defArgs s_Marks_getitem) (defBody s_Marks_getitem) (defScope s_Marks_getitem) .none kV_Marks_getitem dc_Marks_getitem pm_Marks_getitem an_Marks_getitem cd_Marks_getitem ct_Marks_getitem), sl_Marks_getitem⟩)
    (c_Marks_getitem : PySem.W.codeIn K cd_Marks_getitem "Marks.__getitem__" = true)
    (k_Marks_getitem : PySem.W.keepIn K (.ref f_Marks_getitem) = true)
    (a_Marks_setitem : PySem.W.findIn K (.ref C_Marks) "__setitem__" = some (some (.ref f_Marks_setitem)))
    (i_Marks_setitem : PySem.W.isFn K (.ref f_Marks_setitem) = true)
    (l_Marks_setitem : K.lookup f_Marks_setitem = some ⟨oc_Marks_setitem, od_Marks_setitem, .func (PySem.W.fnOf "__setitem__" "Marks.__setitem__" (defArgs s_Marks_setitem) (defBody s_Marks_setitem) (defScope s_Marks_setitem) .none kV_Marks_setitem dc_Marks_setitem pm_Marks_setitem an_Marks_setitem cd_Marks_setitem ct_Marks_setitem), sl_Marks_setitem⟩)
    (c_Marks_setitem : PySem.W.codeIn K cd_Marks_setitem "Marks.__setitem__" = true)
    (k_Marks_setitem : PySem.W.keepIn K (.ref f_Marks_setitem) = true)
    (fi_Marks : PySem.W.fnIn K f_Marks_getitem = true)
    (g_MOST_PAGES : PySem.W.nsIn K mainGlobals "MOST_PAGES" = some (some (.int 64 tk_MOST_PAGES)))
    (g_WORDS : PySem.W.nsIn K mainGlobals "WORDS" = some (some (.ref t_WORDS)))
    (lk_WORDS : K.lookup t_WORDS = some ⟨tc_WORDS, to_WORDS, .seq ti_WORDS tn_WORDS, ts_WORDS⟩)
    (cl_WORDS : tc_WORDS = .type "tuple")
    (sz_WORDS : ti_WORDS.size ≤ sizeLine)
    (vl_WORDS : Vals [.str (Str.ofString "write"), .str (Str.ofString "read")] ti_WORDS.toList)
    (z_all : PySem.W.nsIn K mainGlobals "all" = some none)
    (z_bool : PySem.W.nsIn K mainGlobals "bool" = some none)
    (z_enumerate : PySem.W.nsIn K mainGlobals "enumerate" = some none)
    (z_int : PySem.W.nsIn K mainGlobals "int" = some none)
    (z_isinstance : PySem.W.nsIn K mainGlobals "isinstance" = some none)
    (z_len : PySem.W.nsIn K mainGlobals "len" = some none)
    (z_list : PySem.W.nsIn K mainGlobals "list" = some none)
    (z_max : PySem.W.nsIn K mainGlobals "max" = some none)
    (z_min : PySem.W.nsIn K mainGlobals "min" = some none)
    (z_range : PySem.W.nsIn K mainGlobals "range" = some none)
    (z_sorted : PySem.W.nsIn K mainGlobals "sorted" = some none)
    (z_str : PySem.W.nsIn K mainGlobals "str" = some none)
    (z_sum : PySem.W.nsIn K mainGlobals "sum" = some none)
    (z_tuple : PySem.W.nsIn K mainGlobals "tuple" = some none)
    (nq_Marks : PySem.W.noSeq K C_Marks = true)
    (a_D_PagesError : PySem.W.nsIn K mainGlobals "PagesError" = some (some (.ref D_PagesError)))
    (rd_D_PagesError : PySem.W.readsIn K D_PagesError (.type "type") = true)
    (ga_D_PagesError : PySem.W.specialIn K (.ref D_PagesError) "__getattribute__" = some (some (.builtin "type.__getattribute__")))
    (up_PagesError : PySem.W.findCls K (.ref D_PagesError) (.type "type") "__init__" = some (.val (.builtin "ValueError.__init__")))
    (a_X_BadDeed : PySem.W.nsIn K mainGlobals "BadDeed" = some (some (.ref X_BadDeed)))
    (x_X_BadDeed : K.lookup X_BadDeed = some (excClassObj nm_X_BadDeed qn_X_BadDeed X_BadDeed ns_X_BadDeed bs_X_BadDeed bm_X_BadDeed true sn_X_BadDeed sb_X_BadDeed ab_X_BadDeed co_X_BadDeed dd_X_BadDeed m0_X_BadDeed m1_X_BadDeed m2_X_BadDeed m3_X_BadDeed m5_X_BadDeed "ValueError.__new__"))
    (rv_X_BadDeed : PySem.HandSPX.refsVE bm_X_BadDeed = true)
    (sa_X_BadDeed : PySem.W.findIn K (.ref X_BadDeed) "__setattr__" = some (some (.builtin "object.__setattr__")))
    (gt_X_BadDeed : PySem.W.findIn K (.ref X_BadDeed) "__getattribute__" = some (some (.builtin "BaseException.__getattribute__")))
    (gg_X_BadDeed : PySem.W.findIn K (.ref X_BadDeed) "__getattr__" = some none)
    (cC_X_BadDeed : PySem.W.findIn K (.ref X_BadDeed) "__class__" = some (some (.builtin "object.__class__")))
    (no_X_BadDeed : PySem.W.findIn K (.ref X_BadDeed) "index" = some none)
    (ex_X_BadDeed : PySem.W.subIn K (.ref X_BadDeed) (.type "BaseException") = some true)
    (ty_X_BadDeed : PySem.W.typeIn K (.ref X_BadDeed) = some (.type "type"))
    (kc_X_BadDeed : PySem.W.keepIn K (.ref X_BadDeed) = true)
    (hd_X_BadDeed : PySem.W.hasDictIn K X_BadDeed = true)
    (ic_X_BadDeed : (PySem.W.clsIn K X_BadDeed).isSome = true)
    (cM_X_BadDeed : PySem.W.mroIn K X_BadDeed (.type "object") = some true)
    (ss_X_BadDeed : PySem.W.subIn K (.ref X_BadDeed) (.ref X_BadDeed) = some true)
    (in_X_BadDeed : PySem.W.findIn K (.ref X_BadDeed) "__init__" = some (some (.ref f_iX_BadDeed)))
    (it_X_BadDeed : PySem.W.typeIn K (.ref f_iX_BadDeed) = some (.type "function"))
    (l_iX_BadDeed : K.lookup f_iX_BadDeed = some ⟨oc_iX_BadDeed, od_iX_BadDeed, .func (PySem.W.fnOf "__init__" "BadDeed.__init__" (defArgs s_BadDeed_init) (defBody s_BadDeed_init) (defScope s_BadDeed_init) .none kV_iX_BadDeed dc_iX_BadDeed pm_iX_BadDeed an_iX_BadDeed cd_iX_BadDeed ct_iX_BadDeed), sl_iX_BadDeed⟩)
    (c_iX_BadDeed : PySem.W.codeIn K cd_iX_BadDeed "BadDeed.__init__" = true)
    (k_iX_BadDeed : PySem.W.keepIn K (.ref f_iX_BadDeed) = true)
    (a_X_BadMarks : PySem.W.nsIn K mainGlobals "BadMarks" = some (some (.ref X_BadMarks)))
    (x_X_BadMarks : K.lookup X_BadMarks = some (excClassObj nm_X_BadMarks qn_X_BadMarks X_BadMarks ns_X_BadMarks bs_X_BadMarks bm_X_BadMarks true sn_X_BadMarks sb_X_BadMarks ab_X_BadMarks co_X_BadMarks dd_X_BadMarks m0_X_BadMarks m1_X_BadMarks m2_X_BadMarks m3_X_BadMarks m5_X_BadMarks "ValueError.__new__"))
    (rv_X_BadMarks : PySem.HandSPX.refsVE bm_X_BadMarks = true)
    (sa_X_BadMarks : PySem.W.findIn K (.ref X_BadMarks) "__setattr__" = some (some (.builtin "object.__setattr__")))
    (gt_X_BadMarks : PySem.W.findIn K (.ref X_BadMarks) "__getattribute__" = some (some (.builtin "BaseException.__getattribute__")))
    (gg_X_BadMarks : PySem.W.findIn K (.ref X_BadMarks) "__getattr__" = some none)
    (cC_X_BadMarks : PySem.W.findIn K (.ref X_BadMarks) "__class__" = some (some (.builtin "object.__class__")))
    (no_X_BadMarks : PySem.W.findIn K (.ref X_BadMarks) "at" = some none)
    (ex_X_BadMarks : PySem.W.subIn K (.ref X_BadMarks) (.type "BaseException") = some true)
    (ty_X_BadMarks : PySem.W.typeIn K (.ref X_BadMarks) = some (.type "type"))
    (kc_X_BadMarks : PySem.W.keepIn K (.ref X_BadMarks) = true)
    (hd_X_BadMarks : PySem.W.hasDictIn K X_BadMarks = true)
    (ic_X_BadMarks : (PySem.W.clsIn K X_BadMarks).isSome = true)
    (cM_X_BadMarks : PySem.W.mroIn K X_BadMarks (.type "object") = some true)
    (ss_X_BadMarks : PySem.W.subIn K (.ref X_BadMarks) (.ref X_BadMarks) = some true)
    (in_X_BadMarks : PySem.W.findIn K (.ref X_BadMarks) "__init__" = some (some (.ref f_iX_BadMarks)))
    (it_X_BadMarks : PySem.W.typeIn K (.ref f_iX_BadMarks) = some (.type "function"))
    (l_iX_BadMarks : K.lookup f_iX_BadMarks = some ⟨oc_iX_BadMarks, od_iX_BadMarks, .func (PySem.W.fnOf "__init__" "BadMarks.__init__" (defArgs s_BadMarks_init) (defBody s_BadMarks_init) (defScope s_BadMarks_init) .none kV_iX_BadMarks dc_iX_BadMarks pm_iX_BadMarks an_iX_BadMarks cd_iX_BadMarks ct_iX_BadMarks), sl_iX_BadMarks⟩)
    (c_iX_BadMarks : PySem.W.codeIn K cd_iX_BadMarks "BadMarks.__init__" = true)
    (k_iX_BadMarks : PySem.W.keepIn K (.ref f_iX_BadMarks) = true) :
    ∀ base : Heap, K.In base → base.Ns mainGlobals mg → Gd.FnG l.prog w K mg base CX0 9 fa (spLaw K) := by
  have e := hfa.symm.trans (PySem.W.mg_of X G a_law)
  cases e
  have F_is_whole := fun_mk (st := s_is_whole) l_is_whole c_is_whole k_is_whole
  have b_is_whole := F_is_whole.binds (ps := ["value"]) fun _ _ _ _ _ _ us hl => match us, hl with | [_], _ => rfl
  have F_is_between := fun_mk (st := s_is_between) l_is_between c_is_between k_is_between
  have b_is_between := F_is_between.binds (ps := ["value", "low", "high"]) fun _ _ _ _ _ _ us hl => match us, hl with | [_, _, _], _ => rfl
  have F_is_one_of := fun_mk (st := s_is_one_of) l_is_one_of c_is_one_of k_is_one_of
  have b_is_one_of := F_is_one_of.binds (ps := ["value", "known"]) fun _ _ _ _ _ _ us hl => match us, hl with | [_, _], _ => rfl
  have F_is_page := fun_mk (st := s_is_page) l_is_page c_is_page k_is_page
  have b_is_page := F_is_page.binds (ps := ["marks", "value"]) fun _ _ _ _ _ _ us hl => match us, hl with | [_, _], _ => rfl
  have F_check_deeds := fun_mk (st := s_check_deeds) l_check_deeds c_check_deeds k_check_deeds
  have b_check_deeds := F_check_deeds.binds (ps := ["deeds", "marks"]) fun _ _ _ _ _ _ us hl => match us, hl with | [_, _], _ => rfl
  have F_is_cleaning := fun_mk (st := s_is_cleaning) l_is_cleaning c_is_cleaning k_is_cleaning
  have b_is_cleaning := F_is_cleaning.binds (ps := ["deeds", "marks", "value"]) fun _ _ _ _ _ _ us hl => match us, hl with | [_, _, _], _ => rfl
  have F_looks := fun_mk (st := s_looks) l_looks c_looks k_looks
  have b_looks := F_looks.binds (ps := ["deeds", "marks", "cleanings"]) fun _ _ _ _ _ _ us hl => match us, hl with | [_, _, _], _ => rfl
  have F_bursts := fun_mk (st := s_bursts) l_bursts c_bursts k_bursts
  have b_bursts := F_bursts.binds (ps := ["deeds", "marks"]) fun _ _ _ _ _ _ us hl => match us, hl with | [_, _], _ => rfl
  have F_descending := fun_mk (st := s_descending) l_descending c_descending k_descending
  have b_descending := F_descending.binds (ps := ["bursts"]) fun _ _ _ _ _ _ us hl => match us, hl with | [_], _ => rfl
  have F_least_looks := fun_mk (st := s_least_looks) l_least_looks c_least_looks k_least_looks
  have b_least_looks := F_least_looks.binds (ps := ["deeds", "marks", "many"]) fun _ _ _ _ _ _ us hl => match us, hl with | [_, _, _], _ => rfl
  have F_saved := fun_mk (st := s_saved) l_saved c_saved k_saved
  have b_saved := F_saved.binds (ps := ["deeds", "marks"]) fun _ _ _ _ _ _ us hl => match us, hl with | [_, _], _ => rfl
  have F_law_pool := fun_mk (st := s_law_pool) l_law_pool c_law_pool k_law_pool
  have b_law_pool := F_law_pool.binds (ps := ["script", "k"]) fun _ _ _ _ _ _ us hl => match us, hl with | [_, _], _ => rfl
  have F_law_take := fun_mk (st := s_law_take) l_law_take c_law_take k_law_take
  have b_law_take := F_law_take.binds (ps := ["pool", "many"]) fun _ _ _ _ _ _ us hl => match us, hl with | [_, _], _ => rfl
  have F_law_deeds := fun_mk (st := s_law_deeds) l_law_deeds c_law_deeds k_law_deeds
  have b_law_deeds := F_law_deeds.binds (ps := ["pool"]) fun _ _ _ _ _ _ us hl => match us, hl with | [_], _ => rfl
  have F_law_worths := fun_mk (st := s_law_worths) l_law_worths c_law_worths k_law_worths
  have b_law_worths := F_law_worths.binds (ps := ["deeds", "kept"]) fun _ _ _ _ _ _ us hl => match us, hl with | [_, _], _ => rfl
  have F_law_right := fun_mk (st := s_law_right) l_law_right c_law_right k_law_right
  have b_law_right := F_law_right.binds (ps := ["pool", "deeds", "marks", "kept"]) fun _ _ _ _ _ _ us hl => match us, hl with | [_, _, _, _], _ => rfl
  have F_law := fun_mk (st := s_law) l_law c_law k_law
  have F_Marks_len := fun_mk (st := s_Marks_len) l_Marks_len c_Marks_len k_Marks_len
  have b_Marks_len := F_Marks_len.binds (ps := ["self"]) fun _ _ _ _ _ _ us hl => match us, hl with | [_], _ => rfl
  have F_Made_init := fun_mk (st := s_Made_init) l_Made_init c_Made_init k_Made_init
  have b_Made_init := F_Made_init.binds (ps := ["self", "flags"]) fun _ _ _ _ _ _ us hl => match us, hl with | [_, _], _ => rfl
  have F_Marks_init := fun_mk (st := s_Marks_init) l_Marks_init c_Marks_init k_Marks_init
  have b_Marks_init := F_Marks_init.binds (ps := ["self", "many"]) fun _ _ _ _ _ _ us hl => match us, hl with | [_, _], _ => rfl
  have F_Marks_twin := fun_mk (st := s_Marks_twin) l_Marks_twin c_Marks_twin k_Marks_twin
  have b_Marks_twin := F_Marks_twin.binds (ps := ["self"]) fun _ _ _ _ _ _ us hl => match us, hl with | [_], _ => rfl
  have F_Marks_getitem := fun_mk (st := s_Marks_getitem) l_Marks_getitem c_Marks_getitem k_Marks_getitem
  have b_Marks_getitem := F_Marks_getitem.binds (ps := ["self", "at"]) fun _ _ _ _ _ _ us hl => match us, hl with | [_, _], _ => rfl
  have F_Marks_setitem := fun_mk (st := s_Marks_setitem) l_Marks_setitem c_Marks_setitem k_Marks_setitem
  have b_Marks_setitem := F_Marks_setitem.binds (ps := ["self", "at", "value"]) fun _ _ _ _ _ _ us hl => match us, hl with | [_, _, _], _ => rfl
  have b_law := F_law.binds (ps := ["script"]) fun _ _ _ _ _ _ us hl => match us, hl with | [_], _ => rfl
  have F_iX_BadDeed := fun_mk (st := s_BadDeed_init) l_iX_BadDeed c_iX_BadDeed k_iX_BadDeed
  have b_iX_BadDeed := F_iX_BadDeed.binds (ps := ["self", "index"]) fun _ _ _ _ _ _ us hl => match us, hl with | [_, _], _ => rfl
  have ox_X_BadDeed : OexC K X_BadDeed := ⟨⟨_, _, _, _, _, _, _, _, _, _, _, _, _, _, _, x_X_BadDeed, rv_X_BadDeed⟩, sa_X_BadDeed, ex_X_BadDeed, ty_X_BadDeed, kc_X_BadDeed⟩
  have F_iX_BadMarks := fun_mk (st := s_BadMarks_init) l_iX_BadMarks c_iX_BadMarks k_iX_BadMarks
  have b_iX_BadMarks := F_iX_BadMarks.binds (ps := ["self", "at"]) fun _ _ _ _ _ _ us hl => match us, hl with | [_, _], _ => rfl
  have ox_X_BadMarks : OexC K X_BadMarks := ⟨⟨_, _, _, _, _, _, _, _, _, _, _, _, _, _, _, x_X_BadMarks, rv_X_BadMarks⟩, sa_X_BadMarks, ex_X_BadMarks, ty_X_BadMarks, kc_X_BadMarks⟩
  intro base _ _
  let W : Wd l.prog w K mg base := {
    C_Made := C_Made,
    c_Made := ⟨(PySem.W.mg_of X G a_C_Made), ⟨⟨pg_C_Made, hd_C_Made, po_C_Made, sa_C_Made⟩, cC_C_Made, cG, cT, cM_C_Made⟩, ⟨fun t ht => by cases t <;> first | exact absurd rfl (ht _) | assumption⟩, kk_C_Made⟩,
    C_Marks := C_Marks,
    c_Marks := ⟨(PySem.W.mg_of X G a_C_Marks), ⟨⟨pg_C_Marks, hd_C_Marks, po_C_Marks, sa_C_Marks⟩, cC_C_Marks, cG, cT, cM_C_Marks⟩, ⟨fun t ht => by cases t <;> first | exact absurd rfl (ht _) | assumption⟩, kk_C_Marks⟩,
    f_is_whole := f_is_whole,
    fd_is_whole := _,
    t_is_whole := ⟨(PySem.W.mg_of X G a_is_whole), DX.Fun.dat F_is_whole, b_is_whole⟩,
    f_is_between := f_is_between,
    fd_is_between := _,
    t_is_between := ⟨(PySem.W.mg_of X G a_is_between), DX.Fun.dat F_is_between, b_is_between⟩,
    f_is_one_of := f_is_one_of,
    fd_is_one_of := _,
    t_is_one_of := ⟨(PySem.W.mg_of X G a_is_one_of), DX.Fun.dat F_is_one_of, b_is_one_of⟩,
    f_Marks_len := f_Marks_len,
    fd_Marks_len := _,
    t_Marks_len := ⟨⟨a_Marks_len, i_Marks_len, k_Marks_len⟩, DX.Fun.dat F_Marks_len, b_Marks_len⟩,
    f_is_page := f_is_page,
    fd_is_page := _,
    t_is_page := ⟨(PySem.W.mg_of X G a_is_page), DX.Fun.dat F_is_page, b_is_page⟩,
    f_check_deeds := f_check_deeds,
    fd_check_deeds := _,
    t_check_deeds := ⟨(PySem.W.mg_of X G a_check_deeds), DX.Fun.dat F_check_deeds, b_check_deeds⟩,
    f_is_cleaning := f_is_cleaning,
    fd_is_cleaning := _,
    t_is_cleaning := ⟨(PySem.W.mg_of X G a_is_cleaning), DX.Fun.dat F_is_cleaning, b_is_cleaning⟩,
    f_Made_init := f_Made_init,
    fd_Made_init := _,
    t_Made_init := ⟨⟨a_Made_init, i_Made_init, k_Made_init⟩, DX.Fun.dat F_Made_init, b_Made_init⟩,
    f_Marks_init := f_Marks_init,
    fd_Marks_init := _,
    t_Marks_init := ⟨⟨a_Marks_init, i_Marks_init, k_Marks_init⟩, DX.Fun.dat F_Marks_init, b_Marks_init⟩,
    f_Marks_twin := f_Marks_twin,
    fd_Marks_twin := _,
    t_Marks_twin := ⟨⟨a_Marks_twin, i_Marks_twin, k_Marks_twin⟩, DX.Fun.dat F_Marks_twin, b_Marks_twin⟩,
    f_Marks_getitem := f_Marks_getitem,
    fd_Marks_getitem := _,
    t_Marks_getitem := ⟨⟨a_Marks_getitem, i_Marks_getitem, k_Marks_getitem⟩, DX.Fun.dat F_Marks_getitem, b_Marks_getitem⟩,
    f_Marks_setitem := f_Marks_setitem,
    fd_Marks_setitem := _,
    t_Marks_setitem := ⟨⟨a_Marks_setitem, i_Marks_setitem, k_Marks_setitem⟩, DX.Fun.dat F_Marks_setitem, b_Marks_setitem⟩,
    f_looks := f_looks,
    fd_looks := _,
    t_looks := ⟨(PySem.W.mg_of X G a_looks), DX.Fun.dat F_looks, b_looks⟩,
    f_bursts := f_bursts,
    fd_bursts := _,
    t_bursts := ⟨(PySem.W.mg_of X G a_bursts), DX.Fun.dat F_bursts, b_bursts⟩,
    f_descending := f_descending,
    fd_descending := _,
    t_descending := ⟨(PySem.W.mg_of X G a_descending), DX.Fun.dat F_descending, b_descending⟩,
    f_least_looks := f_least_looks,
    fd_least_looks := _,
    t_least_looks := ⟨(PySem.W.mg_of X G a_least_looks), DX.Fun.dat F_least_looks, b_least_looks⟩,
    f_saved := f_saved,
    fd_saved := _,
    t_saved := ⟨(PySem.W.mg_of X G a_saved), DX.Fun.dat F_saved, b_saved⟩,
    f_law_pool := f_law_pool,
    fd_law_pool := _,
    t_law_pool := ⟨(PySem.W.mg_of X G a_law_pool), DX.Fun.dat F_law_pool, b_law_pool⟩,
    f_law_take := f_law_take,
    fd_law_take := _,
    t_law_take := ⟨(PySem.W.mg_of X G a_law_take), DX.Fun.dat F_law_take, b_law_take⟩,
    f_law_deeds := f_law_deeds,
    fd_law_deeds := _,
    t_law_deeds := ⟨(PySem.W.mg_of X G a_law_deeds), DX.Fun.dat F_law_deeds, b_law_deeds⟩,
    f_law_worths := f_law_worths,
    fd_law_worths := _,
    t_law_worths := ⟨(PySem.W.mg_of X G a_law_worths), DX.Fun.dat F_law_worths, b_law_worths⟩,
    f_law_right := f_law_right,
    fd_law_right := _,
    t_law_right := ⟨(PySem.W.mg_of X G a_law_right), DX.Fun.dat F_law_right, b_law_right⟩,
    f_law := fa,
    fd_law := _,
    t_law := ⟨(PySem.W.mg_of X G a_law), DX.Fun.dat F_law, b_law⟩,
    n_Made_flags := n_Made_flags,
    n_Marks_flags := n_Marks_flags,
    gi_Marks := ⟨a_Marks_getitem, fi_Marks, i_Marks_getitem⟩,
    g_MOST_PAGES := ⟨_, PySem.W.mg_of X G g_MOST_PAGES, ⟨_, rfl⟩, fun _ _ => .int _⟩,
    T_WORDS := t_WORDS,
    g_WORDS := ⟨_, PySem.W.mg_of X G g_WORDS, rfl, fun _ _ => .kt (.inr ⟨_, _, _, lk_WORDS, cl_WORDS, rfl, sz_WORDS, vl_WORDS⟩) (.cons (.str _) (.cons (.str _) .nil))⟩,
    z_all := PySem.W.mg_none_of X G z_all,
    z_bool := PySem.W.mg_none_of X G z_bool,
    z_enumerate := PySem.W.mg_none_of X G z_enumerate,
    z_int := PySem.W.mg_none_of X G z_int,
    z_isinstance := PySem.W.mg_none_of X G z_isinstance,
    z_len := PySem.W.mg_none_of X G z_len,
    z_list := PySem.W.mg_none_of X G z_list,
    z_max := PySem.W.mg_none_of X G z_max,
    z_min := PySem.W.mg_none_of X G z_min,
    z_range := PySem.W.mg_none_of X G z_range,
    z_sorted := PySem.W.mg_none_of X G z_sorted,
    z_str := PySem.W.mg_none_of X G z_str,
    z_sum := PySem.W.mg_none_of X G z_sum,
    z_tuple := PySem.W.mg_none_of X G z_tuple,
    ln_Marks := ⟨a_Marks_len, i_Marks_len⟩,
    mk_Made := ⟨mk_C_Made, a_Made_init, i_Made_init, kc_C_Made⟩,
    mk_Marks := ⟨mk_C_Marks, a_Marks_init, i_Marks_init, kc_C_Marks⟩,
    si_Marks := ⟨nq_Marks, a_Marks_setitem, i_Marks_setitem⟩,
    X_BadDeed := X_BadDeed,
    fi_BadDeed := f_iX_BadDeed,
    fdi_BadDeed := _,
    e_BadDeed := ⟨ox_X_BadDeed, no_X_BadDeed, (PySem.W.mg_of X G a_X_BadDeed), in_X_BadDeed, it_X_BadDeed, ok_BadDeed_init F_iX_BadDeed (PySem.W.mg_of X G a_D_PagesError) ⟨⟨rd_D_PagesError, ga_D_PagesError⟩, up_PagesError⟩, b_iX_BadDeed⟩,
    X_BadMarks := X_BadMarks,
    fi_BadMarks := f_iX_BadMarks,
    fdi_BadMarks := _,
    e_BadMarks := ⟨ox_X_BadMarks, no_X_BadMarks, (PySem.W.mg_of X G a_X_BadMarks), in_X_BadMarks, it_X_BadMarks, ok_BadMarks_init F_iX_BadMarks (PySem.W.mg_of X G a_D_PagesError) ⟨⟨rd_D_PagesError, ga_D_PagesError⟩, up_PagesError⟩, b_iX_BadMarks⟩ }
  exact DX.lawG (ok_law W)
end Toy
open PySem PySem.W PyProof.Rows in
set_option maxRecDepth 100000 in
set_option maxHeartbeats 0 in
theorem PySem.Challenge.cw_trustedpages_k61_whole_no_cleanings_save_holds : PySem.Challenge.rw_trustedpages_k61_whole_no_cleanings_save.Holds := by
  w_on; o_law; k_head; (case hw => w_witness2)
  k_fill
  refine Gd.walkG (l := PySem.Challenge.rw_trustedpages_k61_whole_no_cleanings_save) (n := 63) (k := 9) (sp := Toy.spLaw) rfl (by decide) rfl ⟨rfl, by decide, by decide⟩ (fun w h Y => PySem.W.kIn_of Y) ?F (fun _ _ a ns hl S => ⟨a, ns, rfl, S, hl, fun _ => rfl⟩)
  case F =>
    intro w mg fa h KX G hmg
    refine' Toy.all_mk KX G hmg ?a_is_whole ?l_is_whole ?c_is_whole ?k_is_whole ?a_is_between ?l_is_between ?c_is_between ?k_is_between ?a_is_one_of ?l_is_one_of ?c_is_one_of ?k_is_one_of ?a_is_page ?l_is_page ?c_is_page ?k_is_page ?a_check_deeds ?l_check_deeds ?c_check_deeds ?k_check_deeds ?a_is_cleaning ?l_is_cleaning ?c_is_cleaning ?k_is_cleaning ?a_looks ?l_looks ?c_looks ?k_looks ?a_bursts ?l_bursts ?c_bursts ?k_bursts ?a_descending ?l_descending ?c_descending ?k_descending ?a_least_looks ?l_least_looks ?c_least_looks ?k_least_looks ?a_saved ?l_saved ?c_saved ?k_saved ?a_law_pool ?l_law_pool ?c_law_pool ?k_law_pool ?a_law_take ?l_law_take ?c_law_take ?k_law_take ?a_law_deeds ?l_law_deeds ?c_law_deeds ?k_law_deeds ?a_law_worths ?l_law_worths ?c_law_worths ?k_law_worths ?a_law_right ?l_law_right ?c_law_right ?k_law_right ?a_law ?l_law ?c_law ?k_law ?cG ?cT ?a_C_Made ?pg_C_Made ?hd_C_Made ?po_C_Made ?sa_C_Made ?mk_C_Made ?kc_C_Made ?cC_C_Made ?cM_C_Made ?kk_C_Made ?n_Made_flags ?kt_Made_NoneType ?kt_Made_bool ?kt_Made_int ?kt_Made_str ?kt_Made_bytes ?kt_Made_list ?kt_Made_tuple ?kt_Made_dict ?a_C_Marks ?pg_C_Marks ?hd_C_Marks ?po_C_Marks ?sa_C_Marks ?mk_C_Marks ?kc_C_Marks ?cC_C_Marks ?cM_C_Marks ?kk_C_Marks ?n_Marks_flags ?kt_Marks_NoneType ?kt_Marks_bool ?kt_Marks_int ?kt_Marks_str ?kt_Marks_bytes ?kt_Marks_list ?kt_Marks_tuple ?kt_Marks_dict ?a_Marks_len ?i_Marks_len ?l_Marks_len ?c_Marks_len ?k_Marks_len ?a_Made_init ?i_Made_init ?l_Made_init ?c_Made_init ?k_Made_init ?a_Marks_init ?i_Marks_init ?l_Marks_init ?c_Marks_init ?k_Marks_init ?a_Marks_twin ?i_Marks_twin ?l_Marks_twin ?c_Marks_twin ?k_Marks_twin ?a_Marks_getitem ?i_Marks_getitem ?l_Marks_getitem ?c_Marks_getitem ?k_Marks_getitem ?a_Marks_setitem ?i_Marks_setitem ?l_Marks_setitem ?c_Marks_setitem ?k_Marks_setitem ?fi_Marks ?g_MOST_PAGES ?g_WORDS ?lk_WORDS ?cl_WORDS ?sz_WORDS ?vl_WORDS ?z_all ?z_bool ?z_enumerate ?z_int ?z_isinstance ?z_len ?z_list ?z_max ?z_min ?z_range ?z_sorted ?z_str ?z_sum ?z_tuple ?nq_Marks ?a_D_PagesError ?rd_D_PagesError ?ga_D_PagesError ?up_PagesError ?a_X_BadDeed ?x_X_BadDeed ?rv_X_BadDeed ?sa_X_BadDeed ?gt_X_BadDeed ?gg_X_BadDeed ?cC_X_BadDeed ?no_X_BadDeed ?ex_X_BadDeed ?ty_X_BadDeed ?kc_X_BadDeed ?hd_X_BadDeed ?ic_X_BadDeed ?cM_X_BadDeed ?ss_X_BadDeed ?in_X_BadDeed ?it_X_BadDeed ?l_iX_BadDeed ?c_iX_BadDeed ?k_iX_BadDeed ?a_X_BadMarks ?x_X_BadMarks ?rv_X_BadMarks ?sa_X_BadMarks ?gt_X_BadMarks ?gg_X_BadMarks ?cC_X_BadMarks ?no_X_BadMarks ?ex_X_BadMarks ?ty_X_BadMarks ?kc_X_BadMarks ?hd_X_BadMarks ?ic_X_BadMarks ?cM_X_BadMarks ?ss_X_BadMarks ?in_X_BadMarks ?it_X_BadMarks ?l_iX_BadMarks ?c_iX_BadMarks ?k_iX_BadMarks
    (case a_is_whole => k_is)
    (case l_is_whole => k_is)
    (case c_is_whole => k_is)
    (case k_is_whole => k_is)
    (case a_is_between => k_is)
    (case l_is_between => k_is)
    (case c_is_between => k_is)
    (case k_is_between => k_is)
    (case a_is_one_of => k_is)
    (case l_is_one_of => k_is)
    (case c_is_one_of => k_is)
    (case k_is_one_of => k_is)
    (case a_is_page => k_is)
    (case l_is_page => k_is)
    (case c_is_page => k_is)
    (case k_is_page => k_is)
    (case a_check_deeds => k_is)
    (case l_check_deeds => k_is)
    (case c_check_deeds => k_is)
    (case k_check_deeds => k_is)
    (case a_is_cleaning => k_is)
    (case l_is_cleaning => k_is)
    (case c_is_cleaning => k_is)
    (case k_is_cleaning => k_is)
    (case a_looks => k_is)
    (case l_looks => k_is)
    (case c_looks => k_is)
    (case k_looks => k_is)
    (case a_bursts => k_is)
    (case l_bursts => k_is)
    (case c_bursts => k_is)
    (case k_bursts => k_is)
    (case a_descending => k_is)
    (case l_descending => k_is)
    (case c_descending => k_is)
    (case k_descending => k_is)
    (case a_least_looks => k_is)
    (case l_least_looks => k_is)
    (case c_least_looks => k_is)
    (case k_least_looks => k_is)
    (case a_saved => k_is)
    (case l_saved => k_is)
    (case c_saved => k_is)
    (case k_saved => k_is)
    (case a_law_pool => k_is)
    (case l_law_pool => k_is)
    (case c_law_pool => k_is)
    (case k_law_pool => k_is)
    (case a_law_take => k_is)
    (case l_law_take => k_is)
    (case c_law_take => k_is)
    (case k_law_take => k_is)
    (case a_law_deeds => k_is)
    (case l_law_deeds => k_is)
    (case c_law_deeds => k_is)
    (case k_law_deeds => k_is)
    (case a_law_worths => k_is)
    (case l_law_worths => k_is)
    (case c_law_worths => k_is)
    (case k_law_worths => k_is)
    (case a_law_right => k_is)
    (case l_law_right => k_is)
    (case c_law_right => k_is)
    (case k_law_right => k_is)
    (case a_law => k_is)
    (case l_law => k_is)
    (case c_law => k_is)
    (case k_law => k_is)
    (case cG => k_is)
    (case cT => k_is)
    (case a_C_Made => k_is)
    (case pg_C_Made => k_is)
    (case hd_C_Made => k_is)
    (case po_C_Made => k_is)
    (case sa_C_Made => k_is)
    (case mk_C_Made => k_is)
    (case kc_C_Made => k_is)
    (case cC_C_Made => k_is)
    (case cM_C_Made => k_is)
    (case kk_C_Made => exact if_pos (beq_self_eq_true _))
    (case n_Made_flags => k_is)
    (case kt_Made_NoneType => kit_is)
    (case kt_Made_bool => kit_is)
    (case kt_Made_int => kit_is)
    (case kt_Made_str => kit_is)
    (case kt_Made_bytes => kit_is)
    (case kt_Made_list => kit_is)
    (case kt_Made_tuple => kit_is)
    (case kt_Made_dict => kit_is)
    (case a_C_Marks => k_is)
    (case pg_C_Marks => k_is)
    (case hd_C_Marks => k_is)
    (case po_C_Marks => k_is)
    (case sa_C_Marks => k_is)
    (case mk_C_Marks => k_is)
    (case kc_C_Marks => k_is)
    (case cC_C_Marks => k_is)
    (case cM_C_Marks => k_is)
    (case kk_C_Marks => exact if_pos (beq_self_eq_true _))
    (case n_Marks_flags => k_is)
    (case kt_Marks_NoneType => kit_is)
    (case kt_Marks_bool => kit_is)
    (case kt_Marks_int => kit_is)
    (case kt_Marks_str => kit_is)
    (case kt_Marks_bytes => kit_is)
    (case kt_Marks_list => kit_is)
    (case kt_Marks_tuple => kit_is)
    (case kt_Marks_dict => kit_is)
    (case a_Marks_len => k_is)
    (case i_Marks_len => k_is)
    (case l_Marks_len => k_is)
    (case c_Marks_len => k_is)
    (case k_Marks_len => k_is)
    (case a_Made_init => k_is)
    (case i_Made_init => k_is)
    (case l_Made_init => k_is)
    (case c_Made_init => k_is)
    (case k_Made_init => k_is)
    (case a_Marks_init => k_is)
    (case i_Marks_init => k_is)
    (case l_Marks_init => k_is)
    (case c_Marks_init => k_is)
    (case k_Marks_init => k_is)
    (case a_Marks_twin => k_is)
    (case i_Marks_twin => k_is)
    (case l_Marks_twin => k_is)
    (case c_Marks_twin => k_is)
    (case k_Marks_twin => k_is)
    (case a_Marks_getitem => k_is)
    (case i_Marks_getitem => k_is)
    (case l_Marks_getitem => k_is)
    (case c_Marks_getitem => k_is)
    (case k_Marks_getitem => k_is)
    (case a_Marks_setitem => k_is)
    (case i_Marks_setitem => k_is)
    (case l_Marks_setitem => k_is)
    (case c_Marks_setitem => k_is)
    (case k_Marks_setitem => k_is)
    (case fi_Marks => k_is)
    (case g_MOST_PAGES => k_is)
    (case g_WORDS => k_is)
    (case lk_WORDS => k_is)
    (case cl_WORDS => rfl)
    (case sz_WORDS => decide)
    (case vl_WORDS => exact .cons ⟨_, rfl⟩ (.cons ⟨_, rfl⟩ .nil))
    (case z_all => k_is)
    (case z_bool => k_is)
    (case z_enumerate => k_is)
    (case z_int => k_is)
    (case z_isinstance => k_is)
    (case z_len => k_is)
    (case z_list => k_is)
    (case z_max => k_is)
    (case z_min => k_is)
    (case z_range => k_is)
    (case z_sorted => k_is)
    (case z_str => k_is)
    (case z_sum => k_is)
    (case z_tuple => k_is)
    (case nq_Marks => k_is)
    (case a_D_PagesError => k_is)
    (case rd_D_PagesError => k_is)
    (case ga_D_PagesError => k_is)
    (case up_PagesError => k_is)
    (case a_X_BadDeed => k_is)
    (case x_X_BadDeed => k_is)
    (case rv_X_BadDeed => decide +kernel)
    (case sa_X_BadDeed => k_is)
    (case gt_X_BadDeed => k_is)
    (case gg_X_BadDeed => k_is)
    (case cC_X_BadDeed => k_is)
    (case no_X_BadDeed => k_is)
    (case ex_X_BadDeed => k_is)
    (case ty_X_BadDeed => k_is)
    (case kc_X_BadDeed => k_is)
    (case hd_X_BadDeed => k_is)
    (case ic_X_BadDeed => first | rfl | k_is)
    (case cM_X_BadDeed => k_is)
    (case ss_X_BadDeed => first | rfl | k_is)
    (case in_X_BadDeed => k_is)
    (case it_X_BadDeed => k_is)
    (case l_iX_BadDeed => k_is)
    (case c_iX_BadDeed => k_is)
    (case k_iX_BadDeed => k_is)
    (case a_X_BadMarks => k_is)
    (case x_X_BadMarks => k_is)
    (case rv_X_BadMarks => decide +kernel)
    (case sa_X_BadMarks => k_is)
    (case gt_X_BadMarks => k_is)
    (case gg_X_BadMarks => k_is)
    (case cC_X_BadMarks => k_is)
    (case no_X_BadMarks => k_is)
    (case ex_X_BadMarks => k_is)
    (case ty_X_BadMarks => k_is)
    (case kc_X_BadMarks => k_is)
    (case hd_X_BadMarks => k_is)
    (case ic_X_BadMarks => first | rfl | k_is)
    (case cM_X_BadMarks => k_is)
    (case ss_X_BadMarks => first | rfl | k_is)
    (case in_X_BadMarks => k_is)
    (case it_X_BadMarks => k_is)
    (case l_iX_BadMarks => k_is)
    (case c_iX_BadMarks => k_is)
    (case k_iX_BadMarks => k_is)
