import PyProof.Rows.All
import Wide.All
import OpenK.AllK
import Wide.FinOn
import HandS.ForMost
import HandS.TupAny
import HandS.Evl
import PySem.Challenge.RW_notetrail_k20_what_can_happen
set_option Elab.async false
set_option linter.all false
set_option maxRecDepth 100000
set_option maxHeartbeats 4000000
/-! Ab: an abstract store over the hand layer: immutable data by value, mutable objects by address. -/
namespace Ab
open PySem PySem.Spec PyProof.Rows L2

/-- an abstract value: data, or the address of a mutable object -/
inductive Ax where
  | dat (d : PyData)
  | ref (a : Addr)
/-- a mutable object -/
inductive MO where
  | lst (xs : List Ax)
  | dic (kvs : List (Key × Ax))
abbrev Cs := Addr → Option MO
abbrev Gm := List (Option Ax)
def hid (C : Cs) (H : Hp) : Hp := fun a => if (C a).isSome = true then none else H a
def Rx (K : PySem.W.Frag) (C : Cs) (H : Hp) (v : V) : Ax → Prop
  | .dat d => Dp K (hid C H) v d
  | .ref a => v = .ref a ∧ (C a).isSome = true
abbrev RxA (K : PySem.W.Frag) (C : Cs) (H : Hp) : List V → List Ax → Prop := Paired (Rx K C H)
def RxK (K : PySem.W.Frag) (C : Cs) (H : Hp) : List (Key × V) → List (Key × Ax) → Prop := Paired fun p q => p.1 = q.1 ∧ Rx K C H p.2 q.2
def Cell (K : PySem.W.Frag) (C : Cs) (H : Hp) (a : Addr) : MO → Prop
  | .lst xs => ∃ vs, H a = some (.lst vs) ∧ RxA K C H vs xs
  | .dic kvs => ∃ ws, H a = some (.dK ws) ∧ RxK K C H ws kvs
def Cells (K : PySem.W.Frag) (C : Cs) (H : Hp) : Prop := ∀ a o, C a = some o → Cell K C H a o
structure Adv (K : PySem.W.Frag) (C : Cs) (H : Hp) (C' : Cs) (H' : Hp) : Prop where
  ex : ∀ a o, hid C H a = some o → hid C' H' a = some o
  sub : ∀ a, (C a).isSome = true → (C' a).isSome = true
  dom : ∀ a, (H a).isSome = true → (H' a).isSome = true
  cells : Cells K C' H'
structure Sta (K : PySem.W.Frag) (Γ : Gm) (C : Cs) (σ : L2.St) (H : Hp) : Prop where
  len : σ.length = Γ.length
  slot : ∀ (i : Nat) x, Γ[i]? = some (some x) → ∃ v, σ[i]? = some (some v) ∧ Rx K C H v x
  cells : Cells K C H

/-! ### monotone -/
theorem Rd.up {H H' : Hp} {a : Addr} {u : HO} (e : ∀ a o, H a = some o → H' a = some o) (h : Rd H a u) : Rd H' a u := by
  rcases h with h | ⟨o, h⟩
  · exact .inl (e _ _ h)
  · exact .inr ⟨o, e _ _ h⟩
theorem SqL.up {K : PySem.W.Frag} {H H' : Hp} {a : Addr} {xs : List V} (e : ∀ a o, H a = some o → H' a = some o) (h : SqL K H a xs) : SqL K H' a xs := by
  rcases h with h | h
  · exact .inl (Rd.up e h)
  · exact .inr h
theorem SqT.up {K : PySem.W.Frag} {H H' : Hp} {a : Addr} {xs : List V} (e : ∀ a o, H a = some o → H' a = some o) (h : SqT K H a xs) : SqT K H' a xs := by
  rcases h with h | h
  · exact .inl (Rd.up e h)
  · exact .inr h
mutual
theorem Dp.up {K : PySem.W.Frag} {H H' : Hp} (e : ∀ a o, H a = some o → H' a = some o) : ∀ (d : PyData) {v : V}, Dp K H v d → Dp K H' v d
  | .none, _, h => by cases h; exact .non
  | .bool _, _, h => by cases h; exact .bl _
  | .int _, _, h => by cases h; exact .int _
  | .str _, _, h => by cases h; exact .str _
  | .list ds, _, h => by
    cases h with
    | lst hs ha => exact .lst (SqL.up e hs) (DpAll.up e ds ha)
  | .tuple ds, _, h => by
    cases h with
    | tup hs ha => exact .tup (SqT.up e hs) (DpAll.up e ds ha)
  | .dict _, _, h => by cases h
theorem DpAll.up {K : PySem.W.Frag} {H H' : Hp} (e : ∀ a o, H a = some o → H' a = some o) : ∀ (ds : List PyData) {vs : List V}, DpAll K H vs ds → DpAll K H' vs ds
  | [], _, h => by cases h; exact .nil
  | d :: ds, _, h => by
    cases h with
    | cons h1 h2 => exact .cons (Dp.up e d h1) (DpAll.up e ds h2)
end
theorem hid_le {C : Cs} {H : Hp} : ∀ a o, hid C H a = some o → H a = some o := fun a o h => by
  unfold hid at h
  split at h
  · cases h
  · exact h
theorem hid_of {C : Cs} {H : Hp} {a : Addr} {o : HO} (h : H a = some o) (c : C a = none) : hid C H a = some o := by
  unfold hid
  rw [c]
  exact h
theorem _root_.L2.DpAll.len {K : PySem.W.Frag} {H : Hp} : ∀ {vs : List V} {ds : List PyData}, DpAll K H vs ds → vs.length = ds.length
  | _, _, .nil => rfl
  | _, _, .cons _ t => by simp [L2.DpAll.len t]
theorem _root_.L2.DpAll.get {K : PySem.W.Frag} {H : Hp} : ∀ {vs : List V} {ds : List PyData} {i : Nat} {d : PyData}, DpAll K H vs ds → ds[i]? = some d → ∃ v, vs[i]? = some v ∧ Dp K H v d
  | _, _, _, _, .nil, e => by simp at e
  | _, _, 0, _, .cons r _, e => by simp at e; subst e; exact ⟨_, rfl, r⟩
  | _, _, i + 1, d, .cons _ t, e => by
    obtain ⟨u, h1, h2⟩ := L2.DpAll.get (i := i) (d := d) t (by simpa using e)
    exact ⟨u, by simpa using h1, h2⟩
theorem _root_.L2.DpAll.getV {K : PySem.W.Frag} {H : Hp} : ∀ {vs : List V} {ds : List PyData} {i : Nat} {v : V}, DpAll K H vs ds → vs[i]? = some v → ∃ d, ds[i]? = some d ∧ Dp K H v d
  | _, _, _, _, .nil, e => by simp at e
  | _, _, 0, _, .cons r _, e => by simp at e; subst e; exact ⟨_, rfl, r⟩
  | _, _, i + 1, v, .cons _ t, e => by
    obtain ⟨u, h1, h2⟩ := L2.DpAll.getV (i := i) (v := v) t (by simpa using e)
    exact ⟨u, by simpa using h1, h2⟩
theorem Rx.up {K : PySem.W.Frag} {C C' : Cs} {H H' : Hp} (e : ∀ a o, hid C H a = some o → hid C' H' a = some o) (s : ∀ a, (C a).isSome = true → (C' a).isSome = true) : ∀ {x : Ax} {v : V}, Rx K C H v x → Rx K C' H' v x
  | .dat d, _, h => Dp.up e d h
  | .ref _, _, h => ⟨h.1, s _ h.2⟩
theorem Adv.rx {K : PySem.W.Frag} {C C' : Cs} {H H' : Hp} {v : V} {x : Ax} (a : Adv K C H C' H') (h : Rx K C H v x) : Rx K C' H' v x := Rx.up a.ex a.sub h
theorem Adv.refl {K : PySem.W.Frag} {C : Cs} {H : Hp} (c : Cells K C H) : Adv K C H C H := ⟨fun _ _ h => h, fun _ h => h, fun _ h => h, c⟩
theorem Adv.trans {K : PySem.W.Frag} {C C1 C2 : Cs} {H H1 H2 : Hp} (a : Adv K C H C1 H1) (b : Adv K C1 H1 C2 H2) : Adv K C H C2 H2 :=
  ⟨fun x o h => b.ex x o (a.ex x o h), fun x h => b.sub x (a.sub x h), fun x h => b.dom x (a.dom x h), b.cells⟩
theorem Adv.sta {K : PySem.W.Frag} {Γ : Gm} {C C' : Cs} {σ : L2.St} {H H' : Hp} (a : Adv K C H C' H') (h : Sta K Γ C σ H) : Sta K Γ C' σ H' :=
  ⟨h.len, fun i x e => let ⟨v, e1, r⟩ := h.slot i x e; ⟨v, e1, a.rx r⟩, a.cells⟩
theorem Sta.adv {K : PySem.W.Frag} {Γ : Gm} {C : Cs} {σ : L2.St} {H : Hp} (h : Sta K Γ C σ H) : Adv K C H C H := Adv.refl h.cells
theorem Paired.map2 {α β : Type} {F G : α → β → Prop} : ∀ {l₁ : List α} {l₂ : List β}, Paired F l₁ l₂ → (∀ a b, F a b → G a b) → Paired G l₁ l₂
  | _, _, .nil, _ => .nil
  | _, _, .cons h t, f => .cons (f _ _ h) (Paired.map2 t f)
theorem Cell.up {K : PySem.W.Frag} {C C' : Cs} {H H' : Hp} {a : Addr} (e : ∀ a o, hid C H a = some o → hid C' H' a = some o) (s : ∀ a, (C a).isSome = true → (C' a).isSome = true) (k : H' a = H a) : ∀ {o : MO}, Cell K C H a o → Cell K C' H' a o
  | .lst _, ⟨vs, h, r⟩ => ⟨vs, k.trans h, Paired.map2 r fun _ _ q => Rx.up e s q⟩
  | .dic _, ⟨ws, h, r⟩ => ⟨ws, k.trans h, Paired.map2 r fun _ _ q => ⟨q.1, Rx.up e s q.2⟩⟩
theorem Cells.some {K : PySem.W.Frag} {C : Cs} {H : Hp} (c : Cells K C H) {a : Addr} (h : (C a).isSome = true) : (H a).isSome = true := by
  cases e : C a with
  | none => rw [e] at h; cases h
  | some o =>
    have q := c a o e
    cases o with
    | lst xs => obtain ⟨vs, h, _⟩ := q; rw [h]; rfl
    | dic xs => obtain ⟨vs, h, _⟩ := q; rw [h]; rfl
theorem Cells.free {K : PySem.W.Frag} {C : Cs} {H : Hp} (c : Cells K C H) {a : Addr} (h : H a = none) : C a = none := by
  cases e : C a with
  | none => rfl
  | some o =>
    have := c.some (a := a) (by rw [e]; rfl)
    rw [h] at this
    cases this
/-- a new immutable object -/
theorem Adv.new {K : PySem.W.Frag} {C : Cs} {H : Hp} {p : Addr} {o : HO} (c : Cells K C H) (hp : H p = none) : Adv K C H C (upd H p o) := by
  have cp := c.free hp
  have ex : ∀ a u, hid C H a = some u → hid C (upd H p o) a = some u := fun a u h => by
    have h1 := hid_le a u h
    have ne : a ≠ p := ne_of_none h1 hp
    unfold hid at h ⊢
    rw [upd_ne ne]
    exact h
  refine ⟨ex, fun _ h => h, fun a h => ?_, fun a u e => ?_⟩
  · by_cases ha : a = p
    · subst ha; rw [upd_same]; rfl
    · rw [upd_ne ha]; exact h
  · have ne : a ≠ p := fun z => by subst z; rw [cp] at e; cases e
    exact Cell.up ex (fun _ h => h) (upd_ne ne) (c a u e)
def updC (C : Cs) (a : Addr) (o : MO) : Cs := fun b => if b = a then some o else C b
theorem updC_same {C : Cs} {a : Addr} {o : MO} : updC C a o a = some o := by unfold updC; rw [if_pos rfl]
theorem updC_ne {C : Cs} {a b : Addr} {o : MO} (h : b ≠ a) : updC C a o b = C b := by unfold updC; rw [if_neg h]
theorem updC_sub {C : Cs} {a : Addr} {o : MO} : ∀ b, (C b).isSome = true → (updC C a o b).isSome = true := fun b h => by
  by_cases e : b = a
  · subst e; rw [updC_same]; rfl
  · rw [updC_ne e]; exact h
def repH : MO → HO → Prop
  | .lst _, .lst _ => True
  | .dic _, .dK _ => True
  | _, _ => False
/-- a new mutable list -/
theorem Adv.newL {K : PySem.W.Frag} {C : Cs} {H : Hp} {p : Addr} {vs : List V} {xs : List Ax} (c : Cells K C H) (hp : H p = none) (r : RxA K C H vs xs) : Adv K C H (updC C p (.lst xs)) (upd H p (.lst vs)) := by
  have ex : ∀ a u, hid C H a = some u → hid (updC C p (.lst xs)) (upd H p (.lst vs)) a = some u := fun a u h => by
    have h1 := hid_le a u h
    have ne : a ≠ p := ne_of_none h1 hp
    unfold hid at h ⊢
    rw [upd_ne ne, updC_ne ne]
    exact h
  refine ⟨ex, updC_sub, fun a h => ?_, fun a u e => ?_⟩
  · by_cases ha : a = p
    · subst ha; rw [upd_same]; rfl
    · rw [upd_ne ha]; exact h
  · by_cases ha : a = p
    · subst ha
      rw [updC_same] at e
      cases e
      exact ⟨vs, upd_same, Paired.map2 r fun _ _ q => Rx.up ex updC_sub q⟩
    · rw [updC_ne ha] at e
      exact Cell.up ex updC_sub (upd_ne ha) (c a u e)
/-- a mutable list changes -/
theorem Adv.setL {K : PySem.W.Frag} {C : Cs} {H : Hp} {p : Addr} {vs : List V} {xs : List Ax} (c : Cells K C H) (hp : (C p).isSome = true) (r : RxA K C H vs xs) : Adv K C H (updC C p (.lst xs)) (upd H p (.lst vs)) := by
  have ex : ∀ a u, hid C H a = some u → hid (updC C p (.lst xs)) (upd H p (.lst vs)) a = some u := fun a u h => by
    have ne : a ≠ p := fun z => by
      subst z
      unfold hid at h
      rw [if_pos hp] at h
      cases h
    unfold hid at h ⊢
    rw [upd_ne ne, updC_ne ne]
    exact h
  refine ⟨ex, updC_sub, fun a h => ?_, fun a u e => ?_⟩
  · by_cases ha : a = p
    · subst ha; rw [upd_same]; rfl
    · rw [upd_ne ha]; exact h
  · by_cases ha : a = p
    · subst ha
      rw [updC_same] at e
      cases e
      exact ⟨vs, upd_same, Paired.map2 r fun _ _ q => Rx.up ex updC_sub q⟩
    · rw [updC_ne ha] at e
      exact Cell.up ex updC_sub (upd_ne ha) (c a u e)
theorem Sta.set {K : PySem.W.Frag} {Γ : Gm} {C : Cs} {σ : L2.St} {H : Hp} {v : V} {x : Ax} (s : Sta K Γ C σ H) (i : Nat) (r : Rx K C H v x) : Sta K (Γ.set i (some x)) C (σ.set i (some v)) H := by
  refine ⟨by rw [List.length_set, List.length_set, s.len], fun j y e => ?_, s.cells⟩
  by_cases ij : i = j
  · subst ij
    by_cases hi : i < Γ.length
    · rw [List.getElem?_set_self hi] at e
      cases e
      exact ⟨v, List.getElem?_set_self (by rw [s.len]; exact hi), r⟩
    · rw [List.getElem?_eq_none (by rw [List.length_set]; omega)] at e
      cases e
  · rw [List.getElem?_set_ne ij] at e
    obtain ⟨w, e1, q⟩ := s.slot j y e
    exact ⟨w, by rw [List.getElem?_set_ne ij]; exact e1, q⟩
/-- less is known -/
def Le : Gm → Gm → Prop
  | [], [] => True
  | none :: r, _ :: q => Le r q
  | some x :: r, y :: q => y = some x ∧ Le r q
  | _, _ => False
theorem Le.len : ∀ {Γ Δ : Gm}, Le Γ Δ → Γ.length = Δ.length
  | [], [], _ => rfl
  | none :: r, _ :: q, h => by simp [Le.len (Γ := r) (Δ := q) h]
  | some x :: r, y :: q, h => by simp [Le.len (Γ := r) (Δ := q) h.2]
theorem Le.get : ∀ {Γ Δ : Gm} {i : Nat} {x : Ax}, Le Γ Δ → Γ[i]? = some (some x) → Δ[i]? = some (some x)
  | [], [], _, _, _, e => by simp at e
  | none :: r, _ :: q, 0, _, _, e => by simp at e
  | none :: r, _ :: q, i + 1, x, h, e => by
    have := Le.get (Γ := r) (Δ := q) (i := i) (x := x) h (by simpa using e)
    simpa using this
  | some x :: r, y :: q, 0, z, h, e => by
    simp at e
    subst e
    simp [h.1]
  | some x :: r, y :: q, i + 1, z, h, e => by
    have := Le.get (Γ := r) (Δ := q) (i := i) (x := z) h.2 (by simpa using e)
    simpa using this
theorem Le.refl : ∀ Γ : Gm, Le Γ Γ
  | [] => trivial
  | none :: r => Le.refl r
  | some x :: r => ⟨rfl, Le.refl r⟩
theorem Sta.weak {K : PySem.W.Frag} {Γ Δ : Gm} {C : Cs} {σ : L2.St} {H : Hp} (s : Sta K Δ C σ H) (h : Le Γ Δ) : Sta K Γ C σ H :=
  ⟨s.len.trans h.len.symm, fun i x e => s.slot i x (h.get e), s.cells⟩
end Ab

/-! Ab2: judgements over the abstract store, rules for expressions. -/
namespace Ab
open PySem PySem.Spec PyProof.Rows L2

abbrev I (i : Int) : Ax := .dat (.int i)
abbrev B (b : Bool) : Ax := .dat (.bool b)
abbrev S (s : Str) : Ax := .dat (.str s)
abbrev T (ds : List PyData) : Ax := .dat (.tuple ds)
abbrev Ls (ds : List PyData) : Ax := .dat (.list ds)
abbrev No : Ax := .dat .none

section
variable (K : PySem.W.Frag)
def Ev (te : TE) (Γ : Gm) (C : Cs) (P : Ax → Cs → Prop) : Prop := ∀ σ H, Sta K Γ C σ H → ∀ Q : VK, (∀ v x C2 H2, Adv K C H C2 H2 → Rx K C2 H2 v x → P x C2 → Q v H2) → te σ H Q
def Pu (te : TE) (Γ : Gm) (C : Cs) (x : Ax) : Prop := ∀ σ H, Sta K Γ C σ H → ∀ Q : VK, (∀ v H2, Adv K C H C H2 → Rx K C H2 v x → Q v H2) → te σ H Q
def EvT (tt : TT) (Γ : Gm) (C : Cs) (P : Bool → Cs → Prop) : Prop := ∀ σ H, Sta K Γ C σ H → ∀ Q : Bool → Hp → Prop, (∀ b C2 H2, Adv K C H C2 H2 → P b C2 → Q b H2) → tt σ H Q
def PuT (tt : TT) (Γ : Gm) (C : Cs) (b : Bool) : Prop := ∀ σ H, Sta K Γ C σ H → ∀ Q : Bool → Hp → Prop, (∀ H2, Adv K C H C H2 → Q b H2) → tt σ H Q
def PuA (ta : TA) (Γ : Gm) (C : Cs) (xs : List Ax) : Prop := ∀ σ H, Sta K Γ C σ H → ∀ Q : List V → Hp → Prop, (∀ vs H2, Adv K C H C H2 → RxA K C H2 vs xs → Q vs H2) → ta σ H Q
def PuO (to : TO) (Γ : Gm) (C : Cs) (o : Option Int) : Prop := ∀ σ H, Sta K Γ C σ H → ∀ Q : Option Int → Hp → Prop, (∀ H2, Adv K C H C H2 → Q o H2) → to σ H Q
/-- a new list: its items, its place free before -/
def PuL (te : TE) (Γ : Gm) (C : Cs) (xs : List Ax) : Prop := ∀ σ H, Sta K Γ C σ H → ∀ Q : VK, (∀ p vs H1, Adv K C H C H1 → H1 p = none → RxA K C H1 vs xs → Q (.ref p) (upd H1 p (.lst vs))) → te σ H Q
/-- by values -/
def R2u (r : R2) (C : Cs) (x y z : Ax) : Prop := ∀ v w H, Cells K C H → Rx K C H v x → Rx K C H w y → ∀ Q : VK, (∀ u H2, Adv K C H C H2 → Rx K C H2 u z → Q u H2) → r v w H Q
def RCu (r : List V → Hp → VK → Prop) (C : Cs) (xs : List Ax) (z : Ax) : Prop := ∀ vs H, Cells K C H → RxA K C H vs xs → ∀ Q : VK, (∀ u H2, Adv K C H C H2 → Rx K C H2 u z → Q u H2) → r vs H Q
def SpG (rel : Cs → List Ax → (Ax → Cs → Prop) → Prop) : Sp := fun vs H Q _ => ∃ C xs P, Cells K C H ∧ RxA K C H vs xs ∧ rel C xs P ∧ ∀ v x C' H', Adv K C H C' H' → Rx K C' H' v x → P x C' → Q v H'
end
variable {K : PySem.W.Frag} {Γ : Gm} {C : Cs} {ta tb tc te : TE} {x y z : Ax} {t u : TT} {r : R2}

theorem rx_int {H : Hp} {v : V} {i : Int} (h : Rx K C H v (I i)) : v = .int i := by cases h; rfl
theorem rx_bl {H : Hp} {v : V} {i : Bool} (h : Rx K C H v (B i)) : v = .bl i := by cases h; rfl
theorem rx_str {H : Hp} {v : V} {i : Str} (h : Rx K C H v (S i)) : v = .str i := by cases h; rfl
theorem rx_no {H : Hp} {v : V} (h : Rx K C H v No) : v = .non := by cases h; rfl
theorem rx_I {H : Hp} {i : Int} : Rx K C H (.int i) (I i) := Dp.int i
theorem rx_B {H : Hp} {i : Bool} : Rx K C H (.bl i) (B i) := Dp.bl i
theorem rx_S {H : Hp} {i : Str} : Rx K C H (.str i) (S i) := Dp.str i
theorem rx_N {H : Hp} : Rx K C H .non No := Dp.non
theorem rxa_dat {H : Hp} : ∀ {vs : List V} {ds : List PyData}, DpAll K (hid C H) vs ds → RxA K C H vs (ds.map .dat)
  | _, _, .nil => .nil
  | _, _, .cons h t => .cons h (rxa_dat t)
theorem dat_rxa {H : Hp} : ∀ {vs : List V} {ds : List PyData}, RxA K C H vs (ds.map .dat) → DpAll K (hid C H) vs ds
  | _, [], h => by cases h; exact .nil
  | _, d :: ds, h => by
    cases h with
    | cons a b => exact .cons a (dat_rxa b)

theorem Pu.ev (h : Pu K te Γ C x) : Ev K te Γ C (fun y C2 => y = x ∧ C2 = C) := fun σ H s Q q => h σ H s Q fun v H2 a r => q v x C H2 a r ⟨rfl, rfl⟩
theorem PuT.ev {b : Bool} (h : PuT K t Γ C b) : EvT K t Γ C (fun y C2 => y = b ∧ C2 = C) := fun σ H s Q q => h σ H s Q fun H2 a => q b C H2 a ⟨rfl, rfl⟩
theorem Ev.imp {P P' : Ax → Cs → Prop} (h : Ev K te Γ C P) (k : ∀ x C, P x C → P' x C) : Ev K te Γ C P' := fun σ H s Q q => h σ H s Q fun v x C2 H2 a r p => q v x C2 H2 a r (k _ _ p)

/-! ### expressions -/
theorem pu_var {i : Nat} (h : Γ[i]? = some (some x)) : Pu K (tVar i) Γ C x := fun σ H s Q q =>
  let ⟨v, e, r⟩ := s.slot i x h
  ⟨v, e, q v H s.adv r⟩
theorem pu_int {i : Int} : Pu K (tC (.int i)) Γ C (I i) := fun σ H s Q q => q _ H s.adv rx_I
theorem pu_bl {i : Bool} : Pu K (tC (.bl i)) Γ C (B i) := fun σ H s Q q => q _ H s.adv rx_B
theorem pu_str {i : Str} : Pu K (tC (.str i)) Γ C (S i) := fun σ H s Q q => q _ H s.adv rx_S
theorem pu_no : Pu K (tC .non) Γ C No := fun σ H s Q q => q _ H s.adv rx_N
theorem pu_op (ha : Pu K ta Γ C x) (hb : Pu K tb Γ C y) (hr : R2u K r C x y z) : Pu K (tOp r ta tb) Γ C z := fun σ H s Q q =>
  ha σ H s _ fun v H1 a1 r1 => hb σ H1 (a1.sta s) _ fun w H2 a2 r2 => hr v w H2 a2.cells (a2.rx r1) r2 Q fun u H3 a3 r3 => q u H3 ((a1.trans a2).trans a3) r3
theorem ri0 {f : Int → Int → V} {i j : Int} (h : ∀ H, Rx K C H (f i j) z) : R2u K (rI0 f) C (I i) (I j) z := fun v w H c r1 r2 Q q => by
  cases rx_int r1; cases rx_int r2
  exact ⟨i, j, rfl, rfl, q _ H (Adv.refl c) (h H)⟩
theorem ri1 {G : Int → Int → Prop} {f : Int → Int → V} {i j : Int} (g : G i j) (h : ∀ H, Rx K C H (f i j) z) : R2u K (rI G f) C (I i) (I j) z := fun v w H c r1 r2 Q q => by
  cases rx_int r1; cases rx_int r2
  exact ⟨i, j, rfl, rfl, g, q _ H (Adv.refl c) (h H)⟩
section
variable {i j : Int}
theorem pu_add (ha : Pu K ta Γ C (I i)) (hb : Pu K tb Γ C (I j)) : Pu K (tOp (rI0 fun i j => .int (i + j)) ta tb) Γ C (I (i + j)) := pu_op ha hb (ri0 fun _ => rx_I)
theorem pu_sub (ha : Pu K ta Γ C (I i)) (hb : Pu K tb Γ C (I j)) : Pu K (tOp (rI0 fun i j => .int (i - j)) ta tb) Γ C (I (i - j)) := pu_op ha hb (ri0 fun _ => rx_I)
theorem pu_mul (ha : Pu K ta Γ C (I i)) (hb : Pu K tb Γ C (I j)) (h : CMul i j) : Pu K (tOp (rI CMul fun i j => .int (i * j)) ta tb) Γ C (I (i * j)) := pu_op ha hb (ri1 h fun _ => rx_I)
theorem pu_mulW (ha : Pu K ta Γ C (I i)) (hb : Pu K tb Γ C (I j)) (h : CMulW i j) : Pu K (tOp (rI CMulW fun i j => .int (i * j)) ta tb) Γ C (I (i * j)) := pu_op ha hb (ri1 h fun _ => rx_I)
theorem pu_mod (ha : Pu K ta Γ C (I i)) (hb : Pu K tb Γ C (I j)) (h : 0 < j) : Pu K (tOp (rI (fun _ j => 0 < j) fun i j => .int (i % j)) ta tb) Γ C (I (i % j)) := pu_op ha hb (ri1 h fun _ => rx_I)
theorem pu_fdiv (ha : Pu K ta Γ C (I i)) (hb : Pu K tb Γ C (I j)) (h : CDiv i j) : Pu K (tOp (rI CDiv fun i j => .int (i / j)) ta tb) Γ C (I (i / j)) := pu_op ha hb (ri1 h fun _ => rx_I)
theorem pu_pow (ha : Pu K ta Γ C (I i)) (hb : Pu K tb Γ C (I j)) (h : CPow i j) : Pu K (tOp (rI CPow fun i j => .int (i ^ j.toNat)) ta tb) Γ C (I (i ^ j.toNat)) := pu_op ha hb (ri1 h fun _ => rx_I)
theorem pu_lt (ha : Pu K ta Γ C (I i)) (hb : Pu K tb Γ C (I j)) : Pu K (tOp (rI0 fun i j => .bl (decide (i < j))) ta tb) Γ C (B (decide (i < j))) := pu_op ha hb (ri0 fun _ => rx_B)
theorem pu_le (ha : Pu K ta Γ C (I i)) (hb : Pu K tb Γ C (I j)) : Pu K (tOp (rI0 fun i j => .bl (decide (i ≤ j))) ta tb) Γ C (B (decide (i ≤ j))) := pu_op ha hb (ri0 fun _ => rx_B)
theorem pu_gt (ha : Pu K ta Γ C (I i)) (hb : Pu K tb Γ C (I j)) : Pu K (tOp (rI0 fun i j => .bl (decide (j < i))) ta tb) Γ C (B (decide (j < i))) := pu_op ha hb (ri0 fun _ => rx_B)
theorem pu_ge (ha : Pu K ta Γ C (I i)) (hb : Pu K tb Γ C (I j)) : Pu K (tOp (rI0 fun i j => .bl (decide (j ≤ i))) ta tb) Γ C (B (decide (j ≤ i))) := pu_op ha hb (ri0 fun _ => rx_B)
end
/-- scalars -/
def scD : PyData → Option V
  | .none => some .non
  | .bool b => some (.bl b)
  | .int i => some (.int i)
  | .str s => some (.str s)
  | _ => none
theorem scD_rx {H : Hp} {v w : V} {d : PyData} (h : scD d = some w) (r : Rx K C H v (.dat d)) : v = w := by
  cases d <;> simp [scD] at h <;> subst h <;> cases r <;> rfl
theorem pu_eqS {d e : PyData} {v w : V} (ha : Pu K ta Γ C (.dat d)) (hb : Pu K tb Γ C (.dat e)) (hd : scD d = some v) (he : scD e = some w) (hs : scal v w = true) : Pu K (tOp rEq ta tb) Γ C (B (decide (v = w))) :=
  pu_op ha hb fun v' w' H c r1 r2 Q q => by
    cases scD_rx hd r1; cases scD_rx he r2
    exact ⟨hs, q _ H (Adv.refl c) rx_B⟩
theorem pu_neS {d e : PyData} {v w : V} (ha : Pu K ta Γ C (.dat d)) (hb : Pu K tb Γ C (.dat e)) (hd : scD d = some v) (he : scD e = some w) (hs : scal v w = true) : Pu K (tOp rNe ta tb) Γ C (B (!decide (v = w))) :=
  pu_op ha hb fun v' w' H c r1 r2 Q q => by
    cases scD_rx hd r1; cases scD_rx he r2
    exact ⟨hs, q _ H (Adv.refl c) rx_B⟩
theorem dec_i {i j : Int} : decide (V.int i = V.int j) = decide (i = j) := by
  by_cases h : i = j
  · rw [decide_eq_true h, decide_eq_true (by rw [h])]
  · rw [decide_eq_false h, decide_eq_false (by simpa using h)]
theorem dec_s {i j : Str} : decide (V.str i = V.str j) = decide (i = j) := by
  by_cases h : i = j
  · rw [decide_eq_true h, decide_eq_true (by rw [h])]
  · rw [decide_eq_false h, decide_eq_false (by simpa using h)]
theorem pu_eqI {i j : Int} (ha : Pu K ta Γ C (I i)) (hb : Pu K tb Γ C (I j)) : Pu K (tOp rEq ta tb) Γ C (B (decide (i = j))) := by
  have := pu_eqS ha hb rfl rfl rfl
  rw [dec_i] at this
  exact this
theorem pu_neI {i j : Int} (ha : Pu K ta Γ C (I i)) (hb : Pu K tb Γ C (I j)) : Pu K (tOp rNe ta tb) Γ C (B (!decide (i = j))) := by
  have := pu_neS ha hb rfl rfl rfl
  rw [dec_i] at this
  exact this
theorem pu_eqStr {i j : Str} (ha : Pu K ta Γ C (S i)) (hb : Pu K tb Γ C (S j)) : Pu K (tOp rEq ta tb) Γ C (B (decide (i = j))) := by
  have := pu_eqS ha hb rfl rfl rfl
  rw [dec_s] at this
  exact this
theorem pu_neStr {i j : Str} (ha : Pu K ta Γ C (S i)) (hb : Pu K tb Γ C (S j)) : Pu K (tOp rNe ta tb) Γ C (B (!decide (i = j))) := by
  have := pu_neS ha hb rfl rfl rfl
  rw [dec_s] at this
  exact this
theorem rx_dp {H : Hp} {v : V} {d : PyData} (r : Rx K C H v (.dat d)) : Dp K H v d := Dp.up hid_le d r
theorem pu_eqD {d e : PyData} (ha : Pu K ta Γ C (.dat d)) (hb : Pu K tb Γ C (.dat e)) (hd : SeqAt.shaped d = true) (he : SeqAt.shaped e = true) : Pu K (tOp (rEqD K) ta tb) Γ C (B (PyData.eqv d e)) :=
  pu_op ha hb fun v w H c r1 r2 Q q => ⟨d, e, rx_dp r1, rx_dp r2, hd, he, q _ H (Adv.refl c) rx_B⟩
theorem pu_neD {d e : PyData} (ha : Pu K ta Γ C (.dat d)) (hb : Pu K tb Γ C (.dat e)) (hd : SeqAt.shaped d = true) (he : SeqAt.shaped e = true) : Pu K (tOp (rNeD K) ta tb) Γ C (B (!PyData.eqv d e)) :=
  pu_op ha hb fun v w H c r1 r2 Q q => ⟨d, e, rx_dp r1, rx_dp r2, hd, he, q _ H (Adv.refl c) rx_B⟩
/-! ### subscripts -/
theorem atI_D {H : Hp} {vs : List V} {ds : List PyData} {i : Int} {d : PyData} (h : DpAll K H vs ds) (e : atI ds i = some d) : ∃ v, atI vs i = some v ∧ Dp K H v d := by
  unfold atI at e ⊢
  rw [h.len]
  cases hi : ixN ds.length i with
  | none => rw [hi] at e; cases e
  | some j =>
    rw [hi] at e
    exact h.get e
theorem pu_ixT {ds : List PyData} {i : Int} {d : PyData} (ha : Pu K ta Γ C (T ds)) (hb : Pu K tb Γ C (I i)) (h : atI ds i = some d) : Pu K (tOp (rIxT K) ta tb) Γ C (.dat d) :=
  pu_op ha hb fun v w H c r1 r2 Q q => by
    cases rx_int r2
    cases r1 with
    | tup hs hd =>
      obtain ⟨u, e1, e2⟩ := atI_D hd h
      exact ⟨_, _, i, u, rfl, rfl, SqT.up hid_le hs, e1, q _ H (Adv.refl c) e2⟩
theorem pu_ixL {ds : List PyData} {i : Int} {d : PyData} (ha : Pu K ta Γ C (Ls ds)) (hb : Pu K tb Γ C (I i)) (h : atI ds i = some d) : Pu K (tOp (rIxL K) ta tb) Γ C (.dat d) :=
  pu_op ha hb fun v w H c r1 r2 Q q => by
    cases rx_int r2
    cases r1 with
    | lst hs hd =>
      obtain ⟨u, e1, e2⟩ := atI_D hd h
      exact ⟨_, _, i, u, rfl, rfl, SqL.up hid_le hs, e1, q _ H (Adv.refl c) e2⟩
theorem rxa_get {H : Hp} : ∀ {vs : List V} {xs : List Ax} {i : Nat} {x : Ax}, RxA K C H vs xs → xs[i]? = some x → ∃ v, vs[i]? = some v ∧ Rx K C H v x
  | _, _, _, _, .nil, e => by simp at e
  | _, _, 0, _, .cons r _, e => by simp at e; subst e; exact ⟨_, rfl, r⟩
  | _, _, i + 1, d, .cons _ t, e => by
    obtain ⟨u, h1, h2⟩ := rxa_get (i := i) (x := d) t (by simpa using e)
    exact ⟨u, by simpa using h1, h2⟩
theorem atI_A {H : Hp} {vs : List V} {xs : List Ax} {i : Int} {d : Ax} (h : RxA K C H vs xs) (e : atI xs i = some d) : ∃ v, atI vs i = some v ∧ Rx K C H v d := by
  unfold atI at e ⊢
  rw [h.length]
  cases hi : ixN xs.length i with
  | none => rw [hi] at e; cases e
  | some j =>
    rw [hi] at e
    exact rxa_get h e
/-- an item of a mutable list -/
theorem pu_ixM {a : Addr} {xs : List Ax} {i : Int} (ha : Pu K ta Γ C (.ref a)) (hb : Pu K tb Γ C (I i)) (hc : C a = some (.lst xs)) (h : atI xs i = some x) : Pu K (tOp (rIxL K) ta tb) Γ C x :=
  pu_op ha hb fun v w H c r1 r2 Q q => by
    cases rx_int r2
    obtain ⟨rfl, _⟩ := r1
    obtain ⟨vs, e1, e2⟩ := c a _ hc
    obtain ⟨u, e3, e4⟩ := atI_A e2 h
    exact ⟨_, _, i, u, rfl, rfl, SqL.of e1, e3, q _ H (Adv.refl c) e4⟩
/-! ### tests -/
theorem ut_test {b : Bool} (h : Pu K te Γ C (B b)) : PuT K (tTest te) Γ C b := fun σ H s Q q => h σ H s _ fun v H2 a r => by
  cases rx_bl r
  exact ⟨b, rfl, q H2 a⟩
theorem ut_B {b : Bool} (h : Pu K te Γ C (B b)) : PuT K (tB te) Γ C b := fun σ H s Q q => h σ H s _ fun v H2 a r => by
  cases rx_bl r
  exact ⟨b, rfl, q H2 a⟩
theorem ut_and {a b : Bool} (h1 : PuT K t Γ C a) (h2 : a = true → PuT K u Γ C b) : PuT K (tAnd t u) Γ C (a && b) := fun σ H s Q q => h1 σ H s _ fun H1 a1 => by
  cases a with
  | true =>
    show u σ H1 Q
    exact h2 rfl σ H1 (a1.sta s) Q fun H2 a2 => q H2 (a1.trans a2)
  | false =>
    show Q false H1
    exact q H1 a1
theorem ut_or {a b : Bool} (h1 : PuT K t Γ C a) (h2 : a = false → PuT K u Γ C b) : PuT K (tOr t u) Γ C (a || b) := fun σ H s Q q => h1 σ H s _ fun H1 a1 => by
  cases a with
  | true =>
    show Q true H1
    exact q H1 a1
  | false =>
    show u σ H1 Q
    exact h2 rfl σ H1 (a1.sta s) Q fun H2 a2 => q H2 (a1.trans a2)
theorem ut_not {a : Bool} (h : PuT K t Γ C a) : PuT K (tNot t) Γ C (!a) := fun σ H s Q q => h σ H s _ fun H1 a1 => q H1 a1
theorem ut_is {a b : Bool} (h : PuT K t Γ C a) (e : a = b) : PuT K t Γ C b := e ▸ h
theorem pu_is (h : Pu K te Γ C x) (e : x = y) : Pu K te Γ C y := e ▸ h
theorem pu_andV {a b : Bool} (h1 : Pu K ta Γ C (B a)) (h2 : a = true → Pu K tb Γ C (B b)) : Pu K (tAndV ta tb) Γ C (B (a && b)) := fun σ H s Q q => h1 σ H s _ fun v H1 a1 r1 => by
  cases rx_bl r1
  refine ⟨a, rfl, ?_⟩
  cases a with
  | true =>
    show tb σ H1 Q
    exact h2 rfl σ H1 (a1.sta s) Q fun v H2 a2 r => q v H2 (a1.trans a2) r
  | false =>
    show Q (.bl false) H1
    exact q _ H1 a1 rx_B
theorem pu_orV {a b : Bool} (h1 : Pu K ta Γ C (B a)) (h2 : a = false → Pu K tb Γ C (B b)) : Pu K (tOrV ta tb) Γ C (B (a || b)) := fun σ H s Q q => h1 σ H s _ fun v H1 a1 r1 => by
  cases rx_bl r1
  refine ⟨a, rfl, ?_⟩
  cases a with
  | true =>
    show Q (.bl true) H1
    exact q _ H1 a1 rx_B
  | false =>
    show tb σ H1 Q
    exact h2 rfl σ H1 (a1.sta s) Q fun v H2 a2 r => q v H2 (a1.trans a2) r
theorem pu_notV {a : Bool} (h1 : Pu K ta Γ C (B a)) : Pu K (tNotV ta) Γ C (B (!a)) := fun σ H s Q q => h1 σ H s _ fun v H1 a1 r1 => by
  cases rx_bl r1
  exact ⟨a, rfl, q _ H1 a1 rx_B⟩
theorem pu_if {b : Bool} (h : PuT K t Γ C b) (h1 : b = true → Pu K ta Γ C x) (h2 : b = false → Pu K tb Γ C x) : Pu K (tIf t ta tb) Γ C x := fun σ H s Q q => h σ H s _ fun H1 a1 => by
  cases b with
  | true =>
    show ta σ H1 Q
    exact h1 rfl σ H1 (a1.sta s) Q fun v H2 a2 r => q v H2 (a1.trans a2) r
  | false =>
    show tb σ H1 Q
    exact h2 rfl σ H1 (a1.sta s) Q fun v H2 a2 r => q v H2 (a1.trans a2) r
/-! ### arguments, displays -/
theorem au_nil : PuA K tNil Γ C [] := fun σ H s Q q => q [] H s.adv .nil
theorem au_cons {tr : TA} {xs : List Ax} (h : Pu K te Γ C x) (hr : PuA K tr Γ C xs) : PuA K (tCons te tr) Γ C (x :: xs) := fun σ H s Q q =>
  h σ H s _ fun v H1 a1 r1 => hr σ H1 (a1.sta s) _ fun vs H2 a2 r2 => q _ H2 (a1.trans a2) (.cons (a2.rx r1) r2)
theorem sz {n : Nat} (h : n ≤ 100000) : n ≤ sizeLine := Nat.le_trans h (by decide)
theorem szl {n : Nat} (h : n < 100000) : n < sizeLine := Nat.lt_of_lt_of_le h (by decide)
theorem pu_tup {tr : TA} {ds : List PyData} (h : PuA K tr Γ C (ds.map .dat)) (hl : ds.length ≤ 100000) : Pu K (tTup tr) Γ C (T ds) := fun σ H s Q q =>
  h σ H s _ fun vs H1 a1 r1 => ⟨sz (by rw [r1.length, List.length_map]; exact hl), fun p hp => by
    have a2 := Adv.new (o := .tup vs) a1.cells hp
    exact q _ _ (a1.trans a2) (.tup (SqT.of (hid_of upd_same (a1.cells.free hp))) (DpAll.up a2.ex ds (dat_rxa r1)))⟩
theorem pl_lst {tr : TA} {xs : List Ax} (h : PuA K tr Γ C xs) (hl : xs.length ≤ 100000) : PuL K (tLst tr) Γ C xs := fun σ H s Q q =>
  h σ H s _ fun vs H1 a1 r1 => ⟨sz (by rw [r1.length]; exact hl), fun p hp => q p vs H1 a1 hp r1⟩
/-- a new list as data -/
theorem pu_fz {ds : List PyData} (h : PuL K te Γ C (ds.map .dat)) : Pu K te Γ C (Ls ds) := fun σ H s Q q =>
  h σ H s _ fun p vs H1 a1 hp r => by
    have a2 := Adv.new (o := .lst vs) a1.cells hp
    exact q _ _ (a1.trans a2) (.lst (SqL.of (hid_of upd_same (a1.cells.free hp))) (DpAll.up a2.ex ds (dat_rxa r)))
theorem pu_cb {r : List V → Hp → VK → Prop} {tr : TA} {xs : List Ax} (h : PuA K tr Γ C xs) (hr : RCu K r C xs z) : Pu K (tCB r tr) Γ C z := fun σ H s Q q =>
  h σ H s _ fun vs H1 a1 r1 => hr vs H1 a1.cells r1 Q fun u H2 a2 r2 => q u H2 (a1.trans a2) r2
theorem pu_call {rel : Cs → List Ax → (Ax → Cs → Prop) → Prop} {E : XK} {tr : TA} {xs : List Ax} (h : PuA K tr Γ C xs) (hr : rel C xs fun y C2 => y = x ∧ C2 = C) : Pu K (tCall (SpG K rel) [] E tr) Γ C x := fun σ H s Q q =>
  h σ H s _ fun vs H1 a1 r1 => by
    rw [List.append_nil]
    refine ⟨C, xs, _, a1.cells, r1, hr, fun v y C2 H2 a2 r2 e => ?_⟩
    obtain ⟨rfl, rfl⟩ := e
    exact q v H2 (a1.trans a2) r2
theorem ev_call {rel : Cs → List Ax → (Ax → Cs → Prop) → Prop} {E : XK} {tr : TA} {xs : List Ax} {P : Ax → Cs → Prop} (h : PuA K tr Γ C xs) (hr : rel C xs P) : Ev K (tCall (SpG K rel) [] E tr) Γ C P := fun σ H s Q q =>
  h σ H s _ fun vs H1 a1 r1 => by
    rw [List.append_nil]
    exact ⟨C, xs, P, a1.cells, r1, hr, fun v y C2 H2 a2 r2 e => q v y C2 H2 (a1.trans a2) r2 e⟩
/-! ### len, list, tuple, int -/
def lenD : PyData → Option Nat
  | .list ds => some ds.length
  | .tuple ds => some ds.length
  | _ => none
def rLen (K : PySem.W.Frag) : List V → Hp → VK → Prop := fun xs H Q => ∃ p ys, xs = [.ref p] ∧ (SqL K H p ys ∨ SqT K H p ys) ∧ Q (.int ys.length) H
theorem rc_lenT {ds : List PyData} : RCu K (fun xs H Q => ∃ p ys, xs = [V.ref p] ∧ (SqL K H p ys ∨ SqT K H p ys) ∧ Q (.int ys.length) H) C [T ds] (I (ds.length : Int)) := fun vs H c r Q q => by
  cases r with
  | cons r1 rt =>
    cases rt
    cases r1 with
    | tup hs hd => exact ⟨_, _, rfl, .inr (SqT.up hid_le hs), q _ H (Adv.refl c) (by rw [hd.len]; exact rx_I)⟩
theorem rc_lenL {ds : List PyData} : RCu K (fun xs H Q => ∃ p ys, xs = [V.ref p] ∧ (SqL K H p ys ∨ SqT K H p ys) ∧ Q (.int ys.length) H) C [Ls ds] (I (ds.length : Int)) := fun vs H c r Q q => by
  cases r with
  | cons r1 rt =>
    cases rt
    cases r1 with
    | lst hs hd => exact ⟨_, _, rfl, .inl (SqL.up hid_le hs), q _ H (Adv.refl c) (by rw [hd.len]; exact rx_I)⟩
theorem rc_lenM {a : Addr} {xs : List Ax} (h : C a = some (.lst xs)) : RCu K (fun xs H Q => ∃ p ys, xs = [V.ref p] ∧ (SqL K H p ys ∨ SqT K H p ys) ∧ Q (.int ys.length) H) C [.ref a] (I (xs.length : Int)) := fun vs H c r Q q => by
  cases r with
  | cons r1 rt =>
    cases rt
    obtain ⟨rfl, _⟩ := r1
    obtain ⟨ws, e1, e2⟩ := c a _ h
    exact ⟨_, _, rfl, .inl (SqL.of e1), q _ H (Adv.refl c) (by rw [e2.length]; exact rx_I)⟩
/-- tuple(..) of a list of data; of a mutable list of data -/
theorem rc_tupL {ds : List PyData} : RCu K (fun xs H Q => ∃ p ys, xs = [V.ref p] ∧ ((SqL K H p ys ∧ ∀ l, H l = none → Q (.ref l) (upd H l (.tup ys))) ∨ (SqT K H p ys ∧ Q (.ref p) H))) C [Ls ds] (T ds) := fun vs H c r Q q => by
  cases r with
  | cons r1 rt =>
    cases rt
    cases r1 with
    | lst hs hd =>
      rename_i b us
      refine ⟨_, _, rfl, .inl ⟨SqL.up hid_le hs, fun l hl => ?_⟩⟩
      have a2 := Adv.new (o := .tup us) c hl
      exact q _ _ a2 (.tup (SqT.of (hid_of upd_same (c.free hl))) (DpAll.up a2.ex ds hd))
theorem rc_tupT {ds : List PyData} : RCu K (fun xs H Q => ∃ p ys, xs = [V.ref p] ∧ ((SqL K H p ys ∧ ∀ l, H l = none → Q (.ref l) (upd H l (.tup ys))) ∨ (SqT K H p ys ∧ Q (.ref p) H))) C [T ds] (T ds) := fun vs H c r Q q => by
  cases r with
  | cons r1 rt =>
    cases rt
    cases r1 with
    | tup hs hd => exact ⟨_, _, rfl, .inr ⟨SqT.up hid_le hs, q _ H (Adv.refl c) (.tup hs hd)⟩⟩
theorem rc_tupM {a : Addr} {ds : List PyData} (h : C a = some (.lst (ds.map .dat))) : RCu K (fun xs H Q => ∃ p ys, xs = [V.ref p] ∧ ((SqL K H p ys ∧ ∀ l, H l = none → Q (.ref l) (upd H l (.tup ys))) ∨ (SqT K H p ys ∧ Q (.ref p) H))) C [.ref a] (T ds) := fun vs H c r Q q => by
  cases r with
  | cons r1 rt =>
    cases rt
    obtain ⟨rfl, _⟩ := r1
    obtain ⟨ws, e1, e2⟩ := c a _ h
    refine ⟨_, _, rfl, .inl ⟨SqL.of e1, fun l hl => ?_⟩⟩
    have a2 := Adv.new (o := .tup ws) c hl
    exact q _ _ a2 (.tup (SqT.of (hid_of upd_same (c.free hl))) (DpAll.up a2.ex ds (dat_rxa e2)))
/-- list(..): a new list -/
theorem pl_listD {tr : TA} {d : PyData} {ds : List PyData} (h : PuA K tr Γ C [.dat d]) (e : d = .list ds ∨ d = .tuple ds) :
    PuL K (tCB (fun xs H Q => ∃ p ys, xs = [V.ref p] ∧ (SqL K H p ys ∨ SqT K H p ys) ∧ ∀ l, H l = none → Q (.ref l) (upd H l (.lst ys))) tr) Γ C (ds.map .dat) := fun σ H s Q q =>
  h σ H s _ fun vs H1 a1 r1 => by
    cases r1 with
    | cons r1 rt =>
      cases rt
      rcases e with rfl | rfl
      · cases r1 with
        | lst hs hd => exact ⟨_, _, rfl, .inl (SqL.up hid_le hs), fun l hl => q l _ H1 a1 hl (rxa_dat hd)⟩
      · cases r1 with
        | tup hs hd => exact ⟨_, _, rfl, .inr (SqT.up hid_le hs), fun l hl => q l _ H1 a1 hl (rxa_dat hd)⟩
theorem rc_int1 {i : Int} : RCu K (fun xs H Q => (∃ i, xs = [V.int i] ∧ Q (.int i) H) ∨ ∃ k, xs = [V.bl k] ∧ Q (.int (if k then 1 else 0)) H) C [I i] (I i) := fun vs H c r Q q => by
  cases r with
  | cons r1 rt =>
    cases rt
    cases rx_int r1
    exact .inl ⟨i, rfl, q _ H (Adv.refl c) rx_I⟩
theorem rc_intB {b : Bool} : RCu K (fun xs H Q => (∃ i, xs = [V.int i] ∧ Q (.int i) H) ∨ ∃ k, xs = [V.bl k] ∧ Q (.int (if k then 1 else 0)) H) C [B b] (I (if b then 1 else 0)) := fun vs H c r Q q => by
  cases r with
  | cons r1 rt =>
    cases rt
    cases rx_bl r1
    exact .inr ⟨b, rfl, q _ H (Adv.refl c) rx_I⟩
theorem rc_max2 {i j : Int} : RCu K (fun xs H Q => ∃ i j, xs = [V.int i, .int j] ∧ Q (.int (if j > i then j else i)) H) C [I i, I j] (I (if j > i then j else i)) := fun vs H c r Q q => by
  cases r with
  | cons r1 rt =>
    cases rt with
    | cons r2 rt =>
      cases rt
      cases rx_int r1; cases rx_int r2
      exact ⟨i, j, rfl, q _ H (Adv.refl c) rx_I⟩
/-! ### in -/
def flatD : PyData → Bool
  | .none => true
  | .bool _ => true
  | .int _ => true
  | .str _ => true
  | _ => false
end Ab

/-! Ab3: statements, loops, comprehensions over the abstract store. -/
namespace Ab
open PySem PySem.Spec PyProof.Rows L2

structure En where
  nx : Gm → Cs → Prop
  rt : Ax → Cs → Prop := fun _ _ => False
  bk : Gm → Cs → Prop := fun _ _ => False
  ct : Gm → Cs → Prop := fun _ _ => False
/-- the ends that are wanted, told from the anchor (C, H): the caller's store, or a loop's at its start -/
structure Fit (K : PySem.W.Frag) (E : En) (C : Cs) (H : Hp) (D : Ends) : Prop where
  nx : ∀ Γ C' σ' H', Adv K C H C' H' → Sta K Γ C' σ' H' → E.nx Γ C' → D.nx σ' H'
  rt : ∀ x v C' H', Adv K C H C' H' → Rx K C' H' v x → E.rt x C' → D.rt v H'
  bk : ∀ Γ C' σ' H', Adv K C H C' H' → Sta K Γ C' σ' H' → E.bk Γ C' → D.bk σ' H'
  ct : ∀ Γ C' σ' H', Adv K C H C' H' → Sta K Γ C' σ' H' → E.ct Γ C' → D.ct σ' H'
def Ds (K : PySem.W.Frag) (An : Cs) (ts : TS) (E : En) (Γ : Gm) (C : Cs) : Prop := ∀ H0 σ H, Adv K An H0 C H → Sta K Γ C σ H → ∀ D, Fit K E An H0 D → ts D σ H
/-- a target takes x: Γ becomes Γ', only the slots vs change -/
def Chg (vs : List Nat) (σ σ' : L2.St) : Prop := σ'.length = σ.length ∧ ∀ i, i ∉ vs → σ'[i]? = σ[i]?
def Tg (K : PySem.W.Frag) (g : TG) (x : Ax) (Γ Γ' : Gm) (vs : List Nat) : Prop := ∀ C σ H v, Sta K Γ C σ H → Rx K C H v x → ∀ Q : L2.St → Hp → Prop, (∀ σ', Sta K Γ' C σ' H → Chg vs σ σ' → Q σ' H) → g v σ H Q

variable {K : PySem.W.Frag} {An : Cs} {Γ Γ' : Gm} {C : Cs} {ta tb tc te to ti : TE} {x y z : Ax} {t u rest : TS} {c : TT} {E : En} {g : TG}

theorem rx_ref {C : Cs} {H : Hp} {a : Addr} (h : (C a).isSome = true) : Rx K C H (.ref a) (.ref a) := ⟨rfl, h⟩
theorem tg_name {i : Nat} : Tg K (gName i) x Γ (Γ.set i (some x)) [i] := fun C σ H v s r Q q => q _ (s.set i r) ⟨List.length_set, fun j hj => List.getElem?_set_ne (fun e => hj (by simp [e]))⟩
theorem Chg.refl {vs : List Nat} {σ : L2.St} : Chg vs σ σ := ⟨rfl, fun _ _ => rfl⟩
theorem Chg.trans {vs ws : List Nat} {σ σ1 σ2 : L2.St} (a : Chg vs σ σ1) (b : Chg ws σ1 σ2) : Chg (vs ++ ws) σ σ2 :=
  ⟨b.1.trans a.1, fun i hi => by
    rw [List.mem_append, not_or] at hi
    exact (b.2 i hi.2).trans (a.2 i hi.1)⟩
/-- targets of a tuple -/
def TgL (K : PySem.W.Frag) (g : TGs) (ds : List PyData) (Γ Γ' : Gm) (vs : List Nat) : Prop := ∀ C σ H us, Sta K Γ C σ H → DpAll K (hid C H) us ds → ∀ Q : L2.St → Hp → Prop, (∀ σ', Sta K Γ' C σ' H → Chg vs σ σ' → Q σ' H) → g us σ H Q
theorem tgl_nil : TgL K gNil [] Γ Γ [] := fun C σ H us s r Q q => by
  cases r
  exact ⟨rfl, q σ s Chg.refl⟩
theorem tgl_cons {g : TG} {gs : TGs} {d : PyData} {ds : List PyData} {Γ1 Γ2 : Gm} {vs ws : List Nat} (h : Tg K g (.dat d) Γ Γ1 vs) (hs : TgL K gs ds Γ1 Γ2 ws) : TgL K (gCons g gs) (d :: ds) Γ Γ2 (vs ++ ws) := fun C σ H us s r Q q => by
  cases r with
  | cons r1 rt => exact ⟨_, _, rfl, h C σ H _ s r1 _ fun σ1 s1 c1 => hs C σ1 H _ s1 rt _ fun σ2 s2 c2 => q σ2 s2 (c1.trans c2)⟩
theorem tg_tup {gs : TGs} {ds : List PyData} {n : Nat} {vs : List Nat} (h : TgL K gs ds Γ Γ' vs) (hn : ds.length = n) : Tg K (gTup K n gs) (T ds) Γ Γ' vs := fun C σ H v s r Q q => by
  cases r with
  | tup hs hd => exact ⟨_, _, rfl, SqT.up hid_le hs, hd.len.trans hn, h C σ H _ s hd _ q⟩

/-! ### statements -/
theorem ds_next (h : E.nx Γ C) : Ds K An tNext E Γ C := fun H0 σ H b s D f => f.nx Γ C σ H b s h
theorem ds_brk (h : E.bk Γ C) : Ds K An tBreak E Γ C := fun H0 σ H b s D f => f.bk Γ C σ H b s h
theorem ds_ct (h : E.ct Γ C) : Ds K An tCont E Γ C := fun H0 σ H b s D f => f.ct Γ C σ H b s h
theorem ds_seq {M : Gm → Cs → Prop} (h : Ds K An t { E with nx := M } Γ C) (k : ∀ Γ' C', M Γ' C' → Ds K An u E Γ' C') : Ds K An (tSeq t u) E Γ C := fun H0 σ H b s D f =>
  h H0 σ H b s _ ⟨fun Γ1 C1 σ1 H1 a s1 m => k Γ1 C1 m H0 σ1 H1 a s1 D f, f.rt, f.bk, f.ct⟩
theorem ds_set {i : Nat} (h : Pu K te Γ C x) (k : Ds K An rest E (Γ.set i (some x)) C) : Ds K An (tSeq (tAsg te (gName i)) rest) E Γ C := fun H0 σ H b0 s D f =>
  h σ H s _ fun v H1 a r => k H0 (σ.set i (some v)) H1 (b0.trans a) ((a.sta s).set i r) D f
theorem ds_set1 {i : Nat} (h : Pu K te Γ C x) (k : E.nx (Γ.set i (some x)) C) : Ds K An (tAsg te (gName i)) E Γ C := fun H0 σ H b0 s D f =>
  h σ H s _ fun v H1 a r => f.nx _ C (σ.set i (some v)) H1 (b0.trans a) ((a.sta s).set i r) k
theorem ds_setE {i : Nat} {P : Ax → Cs → Prop} (h : Ev K te Γ C P) (k : ∀ x C', P x C' → Ds K An rest E (Γ.set i (some x)) C') : Ds K An (tSeq (tAsg te (gName i)) rest) E Γ C := fun H0 σ H b0 s D f =>
  h σ H s _ fun v x C1 H1 a r p => k x C1 p H0 (σ.set i (some v)) H1 (b0.trans a) ((a.sta s).set i r) D f
theorem ev_new {xs : List Ax} (h : PuL K te Γ C xs) : Ev K te Γ C (fun x C' => ∃ p, C p = none ∧ x = .ref p ∧ C' = updC C p (.lst xs)) := fun σ H s Q q =>
  h σ H s _ fun p vs H1 a hp r => by
    have b := Adv.newL a.cells hp r
    exact q _ _ _ _ (a.trans b) (rx_ref (by rw [updC_same]; rfl)) ⟨p, a.cells.free hp, rfl, rfl⟩
theorem ds_new {i : Nat} {xs : List Ax} (h : PuL K te Γ C xs) (k : ∀ p, C p = none → Ds K An rest E (Γ.set i (some (.ref p))) (updC C p (.lst xs))) : Ds K An (tSeq (tAsg te (gName i)) rest) E Γ C :=
  ds_setE (ev_new h) fun x C' ⟨p, e1, e2, e3⟩ => by subst e2; subst e3; exact k p e1
theorem ds_tgt {vs : List Nat} (h : Pu K te Γ C x) (ht : Tg K g x Γ Γ' vs) (k : Ds K An rest E Γ' C) : Ds K An (tSeq (tAsg te g) rest) E Γ C := fun H0 σ H b0 s D f =>
  h σ H s _ fun v H1 a r => ht C σ H1 v (a.sta s) r _ fun σ' s' _ => k H0 σ' H1 (b0.trans a) s' D f
theorem ds_ret (h : Pu K te Γ C x) (k : E.rt x C) : Ds K An (tRet te) E Γ C := fun H0 σ H b0 s D f =>
  h σ H s _ fun v H1 a r => f.rt x v C H1 (b0.trans a) r k
theorem ds_retE {P : Ax → Cs → Prop} (h : Ev K te Γ C P) (k : ∀ x C', P x C' → E.rt x C') : Ds K An (tRet te) E Γ C := fun H0 σ H b0 s D f =>
  h σ H s _ fun v x C1 H1 a r p => f.rt x v C1 H1 (b0.trans a) r (k x C1 p)
theorem ds_if {b : Bool} (h : PuT K c Γ C b) (h1 : b = true → Ds K An t E Γ C) (h2 : b = false → Ds K An u E Γ C) : Ds K An (tIfS c t u) E Γ C := fun H0 σ H b0 s D f =>
  h σ H s _ fun H1 a => by
    cases b with
    | true =>
      show t D σ H1
      exact h1 rfl H0 σ H1 (b0.trans a) (a.sta s) D f
    | false =>
      show u D σ H1
      exact h2 rfl H0 σ H1 (b0.trans a) (a.sta s) D f
theorem ds_ifs {b : Bool} (h : PuT K c Γ C b) (h1 : b = true → Ds K An (tSeq t rest) E Γ C) (h2 : b = false → Ds K An (tSeq u rest) E Γ C) : Ds K An (tSeq (tIfS c t u) rest) E Γ C := fun H0 σ H b0 s D f =>
  h σ H s _ fun H1 a => by
    cases b with
    | true =>
      show tSeq t rest D σ H1
      exact h1 rfl H0 σ H1 (b0.trans a) (a.sta s) D f
    | false =>
      show tSeq u rest D σ H1
      exact h2 rfl H0 σ H1 (b0.trans a) (a.sta s) D f
theorem ds_ifE {P : Bool → Cs → Prop} (h : EvT K c Γ C P) (h1 : ∀ C', P true C' → Ds K An t E Γ C') (h2 : ∀ C', P false C' → Ds K An u E Γ C') : Ds K An (tIfS c t u) E Γ C := fun H0 σ H b0 s D f =>
  h σ H s _ fun b C1 H1 a p => by
    cases b with
    | true =>
      show t D σ H1
      exact h1 C1 p H0 σ H1 (b0.trans a) (a.sta s) D f
    | false =>
      show u D σ H1
      exact h2 C1 p H0 σ H1 (b0.trans a) (a.sta s) D f
theorem ds_ifsE {P : Bool → Cs → Prop} (h : EvT K c Γ C P) (h1 : ∀ C', P true C' → Ds K An (tSeq t rest) E Γ C') (h2 : ∀ C', P false C' → Ds K An (tSeq u rest) E Γ C') : Ds K An (tSeq (tIfS c t u) rest) E Γ C := fun H0 σ H b0 s D f =>
  h σ H s _ fun b C1 H1 a p => by
    cases b with
    | true =>
      show tSeq t rest D σ H1
      exact h1 C1 p H0 σ H1 (b0.trans a) (a.sta s) D f
    | false =>
      show tSeq u rest D σ H1
      exact h2 C1 p H0 σ H1 (b0.trans a) (a.sta s) D f
theorem ds_weak {Δ : Gm} (h : Ds K An t E Δ C) (l : Le Δ Γ) : Ds K An t E Γ C := fun H0 σ H b s D f => h H0 σ H b (s.weak l) D f
theorem ds_drop {P : Ax → Cs → Prop} (h : Ev K te Γ C P) (k : ∀ x C', P x C' → Ds K An rest E Γ C') : Ds K An (tSeq (tDrop te) rest) E Γ C := fun H0 σ H b0 s D f =>
  h σ H s _ fun v x C1 H1 a r p => k x C1 p H0 σ H1 (b0.trans a) (a.sta s) D f
theorem ds_drop1 {P : Ax → Cs → Prop} (h : Ev K te Γ C P) (k : ∀ x C', P x C' → E.nx Γ C') : Ds K An (tDrop te) E Γ C := fun H0 σ H b0 s D f =>
  h σ H s _ fun v x C1 H1 a r p => f.nx Γ C1 σ H1 (b0.trans a) (a.sta s) (k x C1 p)
theorem ds_nextseq (h : Ds K An rest E Γ C) : Ds K An (tSeq tNext rest) E Γ C := h
theorem ds_retseq (h : Ds K An (tRet te) E Γ C) : Ds K An (tSeq (tRet te) rest) E Γ C := fun H0 σ H b s D f =>
  h H0 σ H b s D f
/-- xs.append(e) -/
theorem ev_app {a : Addr} {xs : List Ax} (ho : Pu K to Γ C (.ref a)) (h : Pu K te Γ C y) (hc : C a = some (.lst xs)) (hz : xs.length < 100000) : Ev K (tBM K "list" rAppend to (tCons te tNil)) Γ C (fun x C' => x = No ∧ C' = updC C a (.lst (xs ++ [y]))) := fun σ H s Q q =>
  ho σ H s _ fun v H1 a1 r1 => by
    obtain ⟨rfl, ia⟩ := r1
    obtain ⟨ws, e1, e2⟩ := a1.cells a _ hc
    refine ⟨.inl ⟨rfl, ws, SqL.of e1⟩, h σ H1 (a1.sta s) _ fun w H2 a2 r2 => ?_⟩
    obtain ⟨ws2, e3, e4⟩ := a2.cells a _ hc
    refine ⟨a, ws2, w, rfl, rfl, e3, szl (by rw [e4.length]; exact hz), ?_⟩
    have b := Adv.setL (p := a) a2.cells ia (Paired.snoc e4 r2)
    exact q _ _ _ _ ((a1.trans a2).trans b) rx_N ⟨rfl, rfl⟩
/-- xs[i] = e of a mutable list -/
theorem ds_setix {a : Addr} {xs : List Ax} {k : Int} {j : Nat} (h : Pu K te Γ C y) (ho : Pu K to Γ C (.ref a)) (hi : Pu K ti Γ C (I k)) (hc : C a = some (.lst xs)) (hj : ixN xs.length k = some j) (kk : Ds K An rest E Γ (updC C a (.lst (xs.set j y)))) :
    Ds K An (tSeq (tAsg te (gSub to ti rSetL)) rest) E Γ C := fun H0 σ H b0 s D f =>
  h σ H s _ fun v H1 a1 r1 => ho σ H1 (a1.sta s) _ fun w H2 a2 r2 => hi σ H2 ((a1.trans a2).sta s) _ fun i' H3 a3 r3 => by
    obtain ⟨rfl, ia⟩ := r2
    cases rx_int r3
    obtain ⟨ws, e1, e2⟩ := a3.cells a _ hc
    refine ⟨a, ws, k, j, rfl, rfl, e1, by rw [e2.length]; exact hj, ?_⟩
    have hset : ∀ {vs : List V} {xs : List Ax} (j : Nat), RxA K C H3 vs xs → RxA K C H3 (vs.set j v) (xs.set j y) := by
      intro vs xs j hp
      induction hp generalizing j with
      | nil => exact .nil
      | cons h1 h2 ih =>
        cases j with
        | zero => exact .cons ((a2.trans a3).rx r1) h2
        | succ j => exact .cons h1 (ih j)
    have b := Adv.setL (p := a) a3.cells ia (hset j e2)
    exact kk H0 σ _ (b0.trans (((a1.trans a2).trans a3).trans b)) ((((a1.trans a2).trans a3).trans b).sta s) D f

/-! ### what is walked -/
structure Wk (K : PySem.W.Frag) (F : Cs → Prop) (C : Cs) (H : Hp) (J : It) (xs : List Ax) : Prop where
  go : ∀ i C' H', Adv K C H C' H' → F C' → i < xs.length → J.go i H'
  stop : ∀ C' H', Adv K C H C' H' → F C' → J.stop xs.length H'
  yld : ∀ i x C' H' v H2, xs[i]? = some x → Adv K C H C' H' → F C' → J.yld i H' v H2 → Adv K C' H' C' H2 ∧ Rx K C' H2 v x
def PuI (K : PySem.W.Frag) (F : Cs → Prop) (wi : TI) (Γ : Gm) (C : Cs) (xs : List Ax) : Prop := ∀ σ H, Sta K Γ C σ H → ∀ R : It → Hp → Prop, (∀ J H1, Adv K C H C H1 → Wk K F C H1 J xs → R J H1) → wi σ H R
abbrev F0 : Cs → Prop := fun _ => True
theorem datget {ds : List PyData} {i : Nat} {x : Ax} (h : (ds.map Ax.dat)[i]? = some x) : ∃ d, ds[i]? = some d ∧ x = .dat d := by
  rw [List.getElem?_map] at h
  cases e : ds[i]? with
  | none => rw [e] at h; cases h
  | some d => rw [e] at h; cases h; exact ⟨d, rfl, rfl⟩
theorem ui_listD {ds : List PyData} (h : Pu K te Γ C (Ls ds)) : PuI K F0 (iList K te) Γ C (ds.map .dat) := fun σ H s R q => h σ H s _ fun v H1 a r => by
  cases r with
  | lst hs hd =>
    refine ⟨_, rfl, ⟨_, SqL.up hid_le hs⟩, q _ _ a ⟨fun i C' H' b _ hi => ?_, fun C' H' b _ => ?_, fun i x C' H' v H2 e b _ hy => ?_⟩⟩
    · have hi' : i < ds.length := by simpa using hi
      obtain ⟨w, e1, _⟩ := hd.get (List.getElem?_eq_getElem hi')
      exact ⟨_, w, SqL.up (fun a o h => hid_le a o (b.ex a o h)) hs, e1⟩
    · exact ⟨_, SqL.up (fun a o h => hid_le a o (b.ex a o h)) hs, by rw [hd.len, List.length_map]; exact Nat.le_refl _⟩
    · obtain ⟨rfl, hy⟩ := hy
      obtain ⟨d, e1, rfl⟩ := datget e
      obtain ⟨w, e2, e3⟩ := hd.get e1
      have e4 := hy _ (SqL.up (fun a o h => hid_le a o (b.ex a o h)) hs)
      cases e4.symm.trans e2
      exact ⟨Adv.refl b.cells, Dp.up b.ex d e3⟩
theorem ui_tupD {ds : List PyData} (h : Pu K te Γ C (T ds)) : PuI K F0 (iTup K te) Γ C (ds.map .dat) := fun σ H s R q => h σ H s _ fun v H1 a r => by
  cases r with
  | tup hs hd =>
    refine ⟨_, rfl, ⟨_, SqT.up hid_le hs⟩, q _ _ a ⟨fun i C' H' b _ hi => ?_, fun C' H' b _ => ?_, fun i x C' H' v H2 e b _ hy => ?_⟩⟩
    · have hi' : i < ds.length := by simpa using hi
      obtain ⟨w, e1, _⟩ := hd.get (List.getElem?_eq_getElem hi')
      exact ⟨_, w, SqT.up (fun a o h => hid_le a o (b.ex a o h)) hs, e1⟩
    · exact ⟨_, SqT.up (fun a o h => hid_le a o (b.ex a o h)) hs, by rw [hd.len, List.length_map]; exact Nat.le_refl _⟩
    · obtain ⟨rfl, hy⟩ := hy
      obtain ⟨d, e1, rfl⟩ := datget e
      obtain ⟨w, e2, e3⟩ := hd.get e1
      have e4 := hy _ (SqT.up (fun a o h => hid_le a o (b.ex a o h)) hs)
      cases e4.symm.trans e2
      exact ⟨Adv.refl b.cells, Dp.up b.ex d e3⟩
/-- a mutable list that stays while it is walked -/
theorem ui_listM {a : Addr} {xs : List Ax} (h : Pu K te Γ C (.ref a)) (hc : C a = some (.lst xs)) : PuI K (fun C' => C' a = some (.lst xs)) (iList K te) Γ C xs := fun σ H s R q => h σ H s _ fun v H1 a1 r => by
  obtain ⟨rfl, ia⟩ := r
  obtain ⟨ws, e1, e2⟩ := a1.cells a _ hc
  refine ⟨a, rfl, ⟨ws, SqL.of e1⟩, q _ _ a1 ⟨fun i C' H' b hF hi => ?_, fun C' H' b hF => ?_, fun i x C' H' v H2 e b hF hy => ?_⟩⟩
  · obtain ⟨us, e3, e4⟩ := b.cells a _ hF
    obtain ⟨w, e5, _⟩ := rxa_get e4 (List.getElem?_eq_getElem hi)
    exact ⟨us, w, SqL.of e3, e5⟩
  · obtain ⟨us, e3, e4⟩ := b.cells a _ hF
    exact ⟨us, SqL.of e3, by rw [e4.length]; exact Nat.le_refl _⟩
  · obtain ⟨rfl, hy⟩ := hy
    obtain ⟨us, e3, e4⟩ := b.cells a _ hF
    obtain ⟨w, e5, e6⟩ := rxa_get e4 e
    cases (hy _ (SqL.of e3)).symm.trans e5
    exact ⟨Adv.refl b.cells, e6⟩
def rngD (lo : Int) (n : Nat) : List Ax := (List.range n).map fun (i : Nat) => I (lo + (i : Int))
theorem rngD_len {lo : Int} {n : Nat} : (rngD lo n).length = n := by simp [rngD]
theorem rngD_get {lo : Int} {n i : Nat} {x : Ax} (h : (rngD lo n)[i]? = some x) : i < n ∧ x = I (lo + (i : Int)) := by
  unfold rngD at h
  rw [List.getElem?_map] at h
  by_cases hi : i < n
  · rw [List.getElem?_range hi] at h
    cases h
    exact ⟨hi, rfl⟩
  · rw [List.getElem?_eq_none (by simpa using hi)] at h
    cases h
theorem wk_rng {lo : Int} {n : Nat} {H : Hp} : Wk K F0 C H (Itr lo n) (rngD lo n) := by
  refine ⟨fun i C' H' b _ hi => ?_, fun C' H' b _ => ?_, fun i x C' H' v H2 e b _ hy => ?_⟩
  · show i < n
    rw [rngD_len] at hi
    exact hi
  · show n ≤ _
    rw [rngD_len]
    exact Nat.le_refl _
  · obtain ⟨rfl, rfl⟩ := hy
    obtain ⟨_, rfl⟩ := rngD_get e
    exact ⟨Adv.refl b.cells, rx_I⟩
theorem ui_rng1 {tr : TA} {n : Int} (h : PuA K tr Γ C [I n]) (hn : n ≤ 100000) (hm : -100000 ≤ n := by omega) : PuI K F0 (iRng1 tr) Γ C (rngD 0 n.toNat) := fun σ H s R q => h σ H s _ fun vs H1 a r => by
  cases r with
  | cons r1 rt =>
    cases rt
    cases rx_int r1
    exact ⟨n, rfl, by omega, by omega, q _ _ a wk_rng⟩
theorem ui_rng2 {tr : TA} {lo n : Int} (h : PuA K tr Γ C [I lo, I n]) (hn : -100000 ≤ lo ∧ lo ≤ 100000 ∧ -100000 ≤ n ∧ n ≤ 100000) : PuI K F0 (iRng2 tr) Γ C (rngD lo (n - lo).toNat) := fun σ H s R q => h σ H s _ fun vs H1 a r => by
  cases r with
  | cons r1 rt =>
    cases rt with
    | cons r2 rt =>
      cases rt
      cases rx_int r1
      cases rx_int r2
      exact ⟨lo, n, rfl, ⟨by omega, by omega, by omega, by omega⟩, q _ _ a wk_rng⟩

/-! ### for -/
theorem ds_for {F : Cs → Prop} {wi : TI} {xs : List Ax} (Iv : Nat → Gm → Cs → Prop) (hi : PuI K F wi Γ C xs) (h0 : Iv 0 Γ C) (hF : ∀ i Γ' C', Iv i Γ' C' → F C')
    (hs : ∀ i x Γ' C', xs[i]? = some x → Iv i Γ' C' → ∃ Γ2 vs, Tg K g x Γ' Γ2 vs ∧ Ds K C t { nx := Iv (i + 1), rt := E.rt, bk := E.nx, ct := Iv (i + 1) } Γ2 C') (hd : ∀ Γ' C', Iv xs.length Γ' C' → E.nx Γ' C') : Ds K An (tFor wi g t) E Γ C := fun H0 σ H b0 s D f =>
  hi σ H s _ fun J H1 a W => by
    have b1 := b0.trans a
    refine ⟨fun i m σ' H' => m = xs.length - i ∧ i ≤ xs.length ∧ ∃ Γ' C', Adv K C H1 C' H' ∧ Sta K Γ' C' σ' H' ∧ Iv i Γ' C', ⟨xs.length, by simp, Nat.zero_le _, Γ, C, Adv.refl a.cells, a.sta s, h0⟩, ?_⟩
    rintro i m σ' H' ⟨rfl, hil, Γ', C', a1, s1, iv⟩
    by_cases hlt : i < xs.length
    · refine .inr ⟨W.go i C' H' a1 (hF _ _ _ iv) hlt, fun σ2 H2 => ∃ Γ2 C2, Adv K C H1 C2 H2 ∧ Sta K Γ2 C2 σ2 H2 ∧ Iv (i + 1) Γ2 C2, fun σ2 H2 ⟨Γ2, C2, a2, s2, iv2⟩ => ⟨xs.length - (i + 1), by omega, rfl, hlt, Γ2, C2, a2, s2, iv2⟩, fun v H2 hy => ?_⟩
      obtain ⟨a2, r2⟩ := W.yld i _ C' H' v H2 (List.getElem?_eq_getElem hlt) a1 (hF _ _ _ iv) hy
      obtain ⟨Γ2, vs, ht, hb⟩ := hs i _ Γ' C' (List.getElem?_eq_getElem hlt) iv
      refine ht C' σ' H2 v (a2.sta s1) r2 _ fun σ2 s2 _ => hb H1 σ2 H2 (a1.trans a2) s2 _ ⟨fun Γ3 C3 σ3 H3 a3 s3 e => ⟨Γ3, C3, a3, s3, e⟩, fun x v C3 H3 a3 r3 e => f.rt x v C3 H3 (b1.trans a3) r3 e, fun Γ3 C3 σ3 H3 a3 s3 e => f.nx Γ3 C3 σ3 H3 (b1.trans a3) s3 e, fun Γ3 C3 σ3 H3 a3 s3 e => ⟨Γ3, C3, a3, s3, e⟩⟩
    · have e : i = xs.length := by omega
      subst e
      exact .inl ⟨W.stop C' H' a1 (hF _ _ _ iv), f.nx Γ' C' σ' H' (b1.trans a1) s1 (hd Γ' C' iv)⟩

/-! ### list comprehensions -/
def wipeG (Γ : Gm) : List Nat → Gm
  | [] => Γ
  | v :: vs => (wipeG Γ vs).set v none
theorem wipeG_len : ∀ vs : List Nat, (wipeG Γ vs).length = Γ.length
  | [] => rfl
  | v :: vs => by unfold wipeG; rw [List.length_set, wipeG_len vs]
theorem wipe_get {σ : L2.St} {i : Nat} : ∀ {vs : List Nat}, i ∉ vs → (wipe σ vs)[i]? = σ[i]?
  | [], _ => rfl
  | v :: vs, h => by
    unfold wipe
    rw [List.getElem?_set_ne (fun e => h (by simp [e])), wipe_get (fun e => h (by simp [e]))]
theorem wipe_in {σ : L2.St} {i : Nat} : ∀ {vs : List Nat}, i ∈ vs → i < σ.length → (wipe σ vs)[i]? = some none
  | v :: vs, h, hl => by
    unfold wipe
    by_cases e : v = i
    · subst e
      rw [List.getElem?_set_self (by rw [wipe_length]; exact hl)]
    · rw [List.getElem?_set_ne e]
      exact wipe_in (by simpa [Ne.symm e] using h) hl
theorem wipe_chg {vs : List Nat} {σ σ' : L2.St} (h : Chg vs (wipe σ vs) σ') : wipe σ' vs = wipe σ vs := by
  have hl : σ'.length = σ.length := by rw [h.1, wipe_length]
  refine List.ext_getElem? fun i => ?_
  by_cases hi : i ∈ vs
  · by_cases hk : i < σ.length
    · rw [wipe_in hi (by omega), wipe_in hi hk]
    · rw [List.getElem?_eq_none (by rw [wipe_length]; omega), List.getElem?_eq_none (by rw [wipe_length]; omega)]
  · rw [wipe_get hi, h.2 i hi]
theorem Sta.wipe {σ : L2.St} {H : Hp} (s : Sta K Γ C σ H) : ∀ vs : List Nat, Sta K (wipeG Γ vs) C (wipe σ vs) H
  | [] => s
  | v :: vs => by
    have q := Sta.wipe s vs
    unfold wipeG L2.wipe
    refine ⟨by rw [List.length_set, List.length_set, q.len], fun i x e => ?_, q.cells⟩
    by_cases iv : v = i
    · subst iv
      by_cases hl : v < (wipeG Γ vs).length
      · rw [List.getElem?_set_self hl] at e; cases e
      · rw [List.getElem?_eq_none (by simpa using hl)] at e; cases e
    · rw [List.getElem?_set_ne iv] at e
      rw [List.getElem?_set_ne iv]
      exact q.slot i x e
theorem Chg.mono {vs ws : List Nat} {σ σ' : L2.St} (h : Chg vs σ σ') (k : ∀ i, i ∈ vs → i ∈ ws) : Chg ws σ σ' := ⟨h.1, fun i hi => h.2 i fun e => hi (k i e)⟩
/-- the list under way is the cell at D: what holds of the items so far -/
theorem ev_lc {F : Cs → Prop} {wi : TI} {xs : List Ax} {tt : TT} {own : List Nat} (Iv : Addr → Nat → List Ax → Cs → Prop) {P : Ax → Cs → Prop} (hi : PuI K F wi Γ C xs) (hn : xs.length < 100000)
    (h0 : ∀ D, C D = none → Iv D 0 [] (updC C D (.lst []))) (hF : ∀ D i acc C', Iv D i acc C' → F C')
    (hs : ∀ D i x acc C', C D = none → xs[i]? = some x → Iv D i acc C' → C' D = some (.lst acc) → ∃ Γ2 vs b, (∀ j, j ∈ vs → j ∈ own) ∧ Tg K g x (wipeG Γ own) Γ2 vs ∧ PuT K tt Γ2 C' b ∧ (b = false → Iv D (i + 1) acc C') ∧
      (b = true → Ev K te Γ2 C' fun y C2 => C2 D = some (.lst acc) ∧ Iv D (i + 1) (acc ++ [y]) (updC C2 D (.lst (acc ++ [y])))))
    (hd : ∀ D acc C', C D = none → Iv D xs.length acc C' → C' D = some (.lst acc) → P (.ref D) C') : Ev K (tLc wi g tt te own) Γ C P := fun σ H s Q q =>
  hi σ H s _ fun J H1 a W D hD => by
    have cD := a.cells.free hD
    have aN := Adv.newL (p := D) (xs := []) (vs := []) a.cells hD .nil
    refine ⟨fun i m H' => m = xs.length - i ∧ i ≤ xs.length ∧ ∃ acc C', Adv K C H1 C' H' ∧ Iv D i acc C' ∧ C' D = some (.lst acc) ∧ acc.length ≤ i, ⟨xs.length, by simp, Nat.zero_le _, [], _, aN, h0 D cD, updC_same, Nat.le_refl _⟩, ?_⟩
    rintro i m H' ⟨rfl, hil, acc, C', a1, iv, cd, al⟩
    by_cases hlt : i < xs.length
    · refine .inr ⟨W.go i C' H' a1 (hF _ _ _ _ iv) hlt, fun H2 => ∃ acc C2, Adv K C H1 C2 H2 ∧ Iv D (i + 1) acc C2 ∧ C2 D = some (.lst acc) ∧ acc.length ≤ i + 1, fun H2 ⟨acc, C2, a2, iv2, cd2, al2⟩ => ⟨xs.length - (i + 1), by omega, rfl, hlt, acc, C2, a2, iv2, cd2, al2⟩, fun v H2 hy => ?_⟩
      obtain ⟨a2, r2⟩ := W.yld i _ C' H' v H2 (List.getElem?_eq_getElem hlt) a1 (hF _ _ _ _ iv) hy
      obtain ⟨Γ2, vs, b, hv, ht, hb, hf0, hf1⟩ := hs D i _ acc C' cD (List.getElem?_eq_getElem hlt) iv cd
      have sw := (((a.trans a1).trans a2).sta s).wipe own
      refine ht C' _ H2 v sw r2 _ fun σ2 s2 ch => ⟨wipe_chg (ch.mono hv), hb σ2 H2 s2 _ fun H3 a3 => ?_⟩
      cases b with
      | false =>
        show ∃ acc C2, _
        exact ⟨acc, C', (a1.trans a2).trans a3, hf0 rfl, cd, by omega⟩
      | true =>
        show te σ2 H3 _
        refine hf1 rfl σ2 H3 (a3.sta s2) _ fun w y C4 H4 a4 r4 ⟨cd4, iv4⟩ => ?_
        obtain ⟨ws, e1, e2⟩ := a4.cells D _ cd4
        have b5 := Adv.setL (p := D) a4.cells (by rw [cd4]; rfl) (Paired.snoc e2 r4)
        refine ⟨ws, e1, szl (by rw [e2.length]; omega), acc ++ [y], _, (((a1.trans a2).trans a3).trans a4).trans b5, iv4, updC_same, by rw [List.length_append]; simp; omega⟩
    · have e : i = xs.length := by omega
      subst e
      exact .inl ⟨W.stop C' H' a1 (hF _ _ _ _ iv), q _ _ _ _ (a.trans a1) (rx_ref (by rw [cd]; rfl)) (hd D acc C' cD iv cd)⟩
/-- a store that has more -/
def Mor (C C' : Cs) : Prop := ∀ a, (C a).isSome = true → C' a = C a
theorem Mor.refl : Mor C C := fun _ _ => rfl
theorem Mor.upd {p : Addr} {o : MO} (h : C p = none) : Mor C (updC C p o) := fun a ha => updC_ne fun e => by subst e; rw [h] at ha; cases ha
theorem Mor.at_ {C' : Cs} (m : Mor C C') {a : Addr} {o : MO} (h : C a = some o) : C' a = some o := (m a (by rw [h]; rfl)).trans h
/-- the store without the cell at D, the object immutable now -/
theorem Adv.freeze {D : Addr} {H H' : Hp} {ds : List PyData} (c0 : Cells K C H) (hD : C D = none) (a : Adv K C H (updC C D (.lst (ds.map .dat))) H') : Adv K C H C H' ∧ Rx K C H' (.ref D) (Ls ds) := by
  obtain ⟨ws, e1, e2⟩ := a.cells D _ updC_same
  have up : ∀ b o, hid (updC C D (.lst (ds.map .dat))) H' b = some o → hid C H' b = some o := fun b o h => by
    by_cases e : b = D
    · subst e
      unfold hid at h
      rw [updC_same] at h
      cases h
    · unfold hid at h ⊢
      rw [updC_ne e] at h
      exact h
  have rx : ∀ {x : Ax} {v w : V}, Rx K C H v x → Rx K (updC C D (.lst (ds.map .dat))) H' w x → Rx K C H' w x := fun {x v w} h k => by
    cases x with
    | dat d => exact Dp.up up d k
    | ref b => exact ⟨k.1, h.2⟩
  have pr : ∀ {xs : List Ax} {vs us : List V}, RxA K C H vs xs → RxA K (updC C D (.lst (ds.map .dat))) H' us xs → RxA K C H' us xs := by
    intro xs
    induction xs with
    | nil => intro vs us h k; cases k; exact .nil
    | cons x xs ih =>
      intro vs us h k
      cases h with
      | cons h1 h2 =>
        cases k with
        | cons k1 k2 => exact .cons (rx h1 k1) (ih h2 k2)
  have pk : ∀ {xs : List (Key × Ax)} {vs us : List (Key × V)}, RxK K C H vs xs → RxK K (updC C D (.lst (ds.map .dat))) H' us xs → RxK K C H' us xs := by
    intro xs
    induction xs with
    | nil => intro vs us h k; cases k; exact .nil
    | cons x xs ih =>
      intro vs us h k
      cases h with
      | cons h1 h2 =>
        cases k with
        | cons k1 k2 => exact .cons ⟨k1.1, rx h1.2 k1.2⟩ (ih h2 k2)
  refine ⟨⟨fun b o h => up b o (a.ex b o h), fun _ h => h, a.dom, fun b o e => ?_⟩, ?_⟩
  · have ne : b ≠ D := fun z => by subst z; rw [hD] at e; cases e
    have q0 := c0 b o e
    have q1 := a.cells b o ((updC_ne ne).trans e)
    cases o with
    | lst xs =>
      obtain ⟨v0, _, r0⟩ := q0
      obtain ⟨v1, h1, r1⟩ := q1
      exact ⟨v1, h1, pr r0 r1⟩
    | dic xs =>
      obtain ⟨v0, _, r0⟩ := q0
      obtain ⟨v1, h1, r1⟩ := q1
      exact ⟨v1, h1, pk r0 r1⟩
  · exact .lst (SqL.of (hid_of e1 hD)) (DpAll.up up ds (dat_rxa e2))
theorem map_snoc {α β : Type} (f : α → β) (xs : List α) (y : α) : xs.map f ++ [f y] = (xs ++ [y]).map f := by simp
/-- a comprehension of data: its items by place -/
theorem pu_lc {wi : TI} {xs : List Ax} {tt : TT} {own : List Nat} {F : Cs → Prop} (p : Nat → Bool) (f : Nat → PyData) (hi : PuI K F wi Γ C xs) (hn : xs.length < 100000) (hF : ∀ C', Mor C C' → F C')
    (hs : ∀ i x C', Mor C C' → xs[i]? = some x → ∃ Γ2 vs, (∀ j, j ∈ vs → j ∈ own) ∧ Tg K g x (wipeG Γ own) Γ2 vs ∧ PuT K tt Γ2 C' (p i) ∧ (p i = true → Pu K te Γ2 C' (.dat (f i)))) :
    Pu K (tLc wi g tt te own) Γ C (Ls (((List.range xs.length).filter p).map f)) := fun σ H s Q q => by
  refine ev_lc (P := fun x C' => ∃ D, C D = none ∧ x = .ref D ∧ C' = updC C D (.lst ((((List.range xs.length).filter p).map f).map .dat))) (fun D i acc C' => acc = (((List.range i).filter p).map f).map .dat ∧ C' = updC C D (.lst acc) ∧ C D = none) hi hn (fun D h => ⟨rfl, rfl, h⟩) (fun D i acc C' e => by rw [e.2.1]; exact hF _ (Mor.upd e.2.2)) ?_ ?_ σ H s Q ?_
  · intro D i x acc C' hD hx ⟨e1, e2, _⟩ e3
    obtain ⟨Γ2, vs, hv, ht, hp, hf⟩ := hs i x C' (by rw [e2]; exact Mor.upd hD) hx
    have rs : List.range (i + 1) = List.range i ++ [i] := List.range_succ
    refine ⟨Γ2, vs, p i, hv, ht, hp, fun e => ⟨?_, e2, hD⟩, fun e => (hf e).ev.imp fun y C2 ⟨ey, ec⟩ => ?_⟩
    · rw [e1, rs, List.filter_append]
      simp [List.filter, e]
    · subst ey; subst ec
      refine ⟨e3, ?_, ?_, hD⟩
      · rw [e1, rs, List.filter_append]
        simp [List.filter, e]
      · rw [e2]
        funext b
        by_cases hb : b = D
        · subst hb; rw [updC_same, updC_same]
        · rw [updC_ne hb, updC_ne hb, updC_ne hb]
  · intro D acc C' hD ⟨e1, e2, _⟩ _
    exact ⟨D, hD, rfl, by rw [e2, e1]⟩
  · intro v x C2 H2 a r ⟨D, hD, ex, ec⟩
    subst ex; subst ec
    obtain ⟨rfl, _⟩ := r
    obtain ⟨a2, r2⟩ := Adv.freeze s.cells hD a
    exact q _ H2 a2 r2
theorem ut_yes : PuT K tYes Γ C true := fun σ H s Q q => q H s.adv
/-! ### a def -/
def stG (N : List Str) (xs : List Ax) : Gm := xs.map some ++ List.replicate (N.length - xs.length) none
theorem sta_start {N : List Str} {vs : List V} {xs : List Ax} {H : Hp} (c : Cells K C H) (r : RxA K C H vs xs) : Sta K (stG N xs) C (L2.start N vs) H := by
  refine ⟨by unfold L2.start stG; simp [r.length], fun i x e => ?_, c⟩
  unfold stG at e
  by_cases hi : i < xs.length
  · rw [List.getElem?_append_left (by simpa using hi), List.getElem?_map] at e
    cases ex : xs[i]? with
    | none => rw [ex] at e; cases e
    | some y =>
      rw [ex] at e
      cases e
      obtain ⟨v, e1, q⟩ := rxa_get r ex
      have hv : i < vs.length := by rw [r.length]; exact hi
      refine ⟨v, ?_, q⟩
      unfold L2.start
      rw [List.getElem?_append_left (by simpa using hv), List.getElem?_map, e1]
      rfl
  · rw [List.getElem?_append_right (by simpa using hi), List.getElem?_replicate] at e
    split at e <;> cases e
end Ab

/-! Ab4: defs (what is new and forgotten is dropped, what is handed back is frozen), and more rules. -/
namespace Ab
open PySem PySem.Spec PyProof.Rows L2
variable {K : PySem.W.Frag} {An : Cs} {Γ Γ' : Gm} {C : Cs} {ta tb tc te to ti : TE} {x y z : Ax} {t u rest : TS} {c : TT} {E : En} {g : TG} {C1 : Cs}

/-- every reference stays within -/
def Clo (C : Cs) : Prop := ∀ a o, C a = some o → match o with
  | .lst xs => ∀ b, Ax.ref b ∈ xs → (C b).isSome = true
  | .dic kvs => ∀ b, Ax.ref b ∈ kvs.map (·.2) → (C b).isSome = true
theorem rxa_ref {H : Hp} {b : Addr} : ∀ {vs : List V} {xs : List Ax}, RxA K C H vs xs → Ax.ref b ∈ xs → (C b).isSome = true
  | _, _, .nil, h => by cases h
  | _, _, .cons r t, h => by
    cases h with
    | head => exact r.2
    | tail _ h => exact rxa_ref t h
theorem rxk_ref {H : Hp} {b : Addr} : ∀ {vs : List (Key × V)} {xs : List (Key × Ax)}, RxK K C H vs xs → Ax.ref b ∈ xs.map (·.2) → (C b).isSome = true
  | _, _, .nil, h => by cases h
  | _, _, .cons (a := p) (b := q) r t, h => by
    rw [List.map_cons, List.mem_cons] at h
    rcases h with h | h
    · have k := r.2
      rw [← h] at k
      exact k.2
    · exact rxk_ref t h
theorem Cells.clo {H : Hp} (c : Cells K C H) : Clo C := fun a o e => by
  have q := c a o e
  cases o with
  | lst xs =>
    obtain ⟨vs, _, r⟩ := q
    exact fun b h => rxa_ref r h
  | dic xs =>
    obtain ⟨vs, _, r⟩ := q
    exact fun b h => rxk_ref r h
/-- fewer cells -/
def Sbs (C2 C1 : Cs) : Prop := ∀ a o, C2 a = some o → C1 a = some o
theorem hid_sbs {C1 C2 : Cs} {H : Hp} (s : Sbs C2 C1) : ∀ a o, hid C1 H a = some o → hid C2 H a = some o := fun a o h => by
  have h1 := hid_le a o h
  refine hid_of h1 ?_
  cases e : C2 a with
  | none => rfl
  | some u =>
    have := s a u e
    unfold hid at h
    rw [this] at h
    cases h
theorem rxa_sbs {C1 C2 : Cs} {H : Hp} (s : Sbs C2 C1) : ∀ {vs : List V} {xs : List Ax}, RxA K C1 H vs xs → (∀ b, Ax.ref b ∈ xs → (C2 b).isSome = true) → RxA K C2 H vs xs
  | _, _, .nil, _ => .nil
  | _, x :: _, .cons r t, h => .cons (by
      cases x with
      | dat d => exact Dp.up (hid_sbs s) d r
      | ref b => exact ⟨r.1, h b (by simp)⟩) (rxa_sbs s t fun b hb => h b (by simp [hb]))
theorem rxk_sbs {C1 C2 : Cs} {H : Hp} (s : Sbs C2 C1) : ∀ {vs : List (Key × V)} {xs : List (Key × Ax)}, RxK K C1 H vs xs → (∀ b, Ax.ref b ∈ xs.map (·.2) → (C2 b).isSome = true) → RxK K C2 H vs xs
  | _, _, .nil, _ => .nil
  | _, x :: _, .cons r t, h => .cons ⟨r.1, by
      obtain ⟨k, x⟩ := x
      cases x with
      | dat d => exact Dp.up (hid_sbs s) d r.2
      | ref b => exact ⟨r.2.1, h b (by simp)⟩⟩ (rxk_sbs s t fun b hb => h b (by simp [hb]))
theorem cells_sbs {C1 C2 : Cs} {H : Hp} (s : Sbs C2 C1) (cl : Clo C2) (c : Cells K C1 H) : Cells K C2 H := fun a o e => by
  have q := c a o (s a o e)
  have k := cl a o e
  cases o with
  | lst xs =>
    obtain ⟨vs, h, r⟩ := q
    exact ⟨vs, h, rxa_sbs s r k⟩
  | dic xs =>
    obtain ⟨vs, h, r⟩ := q
    exact ⟨vs, h, rxk_sbs s r k⟩
/-- what x is as data, once the cells that it reaches are dropped -/
inductive Dz (C1 C2 : Cs) : Ax → PyData → Prop
  | dat (d : PyData) : Dz C1 C2 (.dat d) d
  | lst {p : Addr} {xs : List Ax} {ds : List PyData} : C1 p = some (.lst xs) → C2 p = none → Paired (Dz C1 C2) xs ds → Dz C1 C2 (.ref p) (.list ds)
theorem Dz.rx {C1 C2 : Cs} {H : Hp} (s : Sbs C2 C1) (c : Cells K C1 H) {x : Ax} {d : PyData} (z : Dz C1 C2 x d) : ∀ {v : V}, Rx K C1 H v x → Dp K (hid C2 H) v d := by
  refine Dz.rec (motive_1 := fun x d _ => ∀ {v : V}, Rx K C1 H v x → Dp K (hid C2 H) v d) (motive_2 := fun xs ds _ => ∀ {vs : List V}, RxA K C1 H vs xs → DpAll K (hid C2 H) vs ds) ?_ ?_ ?_ ?_ z
  · intro d v r
    exact Dp.up (hid_sbs s) d r
  · intro p xs ds h1 h2 _ ih v r
    obtain ⟨rfl, _⟩ := r
    obtain ⟨vs, e1, e2⟩ := c p _ h1
    exact .lst (SqL.of (hid_of e1 h2)) (ih e2)
  · intro vs r
    cases r
    exact .nil
  · intro a b l1 l2 _ _ ih1 ih2 vs r
    cases r with
    | cons r1 r2 => exact .cons (ih1 r1) (ih2 r2)
def Vw (C1 C2 : Cs) (x y : Ax) : Prop := (y = x ∧ ∀ a, x = .ref a → (C2 a).isSome = true) ∨ ∃ d, Dz C1 C2 x d ∧ y = .dat d
/-- what may be handed back: x, with the cells C1 at the end; the caller sees y, with the cells C2 -/
def Rt (C : Cs) (R : Ax → Cs → Prop) (x : Ax) (C1 : Cs) : Prop := ∃ y C2, Sbs C2 C1 ∧ (∀ a, (C a).isSome = true → (C2 a).isSome = true) ∧ Clo C2 ∧ Vw C1 C2 x y ∧ R y C2
abbrev EnR (C : Cs) (R : Ax → Cs → Prop) : En := { nx := fun _ C1 => Rt C R No C1, rt := Rt C R }
theorem Rt.fin {R : Ax → Cs → Prop} {H H1 : Hp} {C1 : Cs} {v : V} (a : Adv K C H C1 H1) (r : Rx K C1 H1 v x) (h : Rt C R x C1) : ∃ y C2, Adv K C H C2 H1 ∧ Rx K C2 H1 v y ∧ R y C2 := by
  obtain ⟨y, C2, s, sb, cl, vw, q⟩ := h
  refine ⟨y, C2, ⟨fun b o e => hid_sbs s b o (a.ex b o e), sb, a.dom, cells_sbs s cl a.cells⟩, ?_, q⟩
  rcases vw with ⟨rfl, hv⟩ | ⟨d, z, rfl⟩
  · cases y with
    | dat d => exact Dp.up (hid_sbs s) d r
    | ref b => exact ⟨r.1, hv b rfl⟩
  · exact z.rx s a.cells r
theorem ok_def {P : Program} {w : World} {mg : Str → Option Value} {base : Heap} {x qual : Str} {st : Stmt} {f : Addr} {fd : FuncData} {N ps : List Str} {k : Nat} {rel : Cs → List Ax → (Ax → Cs → Prop) → Prop} (F : Fun K x qual st f fd) (S : FnScope N ps (defScope st))
    (len : ∀ C xs R, rel C xs R → xs.length = ps.length)
    (hb : ∀ (cdv : Value) (A : Around) (outer : List Env) (s : Shared) (H : Hp) (E : XK), Room k (A.deeper (envOfC qual (defScope st) s.heap.objs.size f cdv)) →
      ∃ t, PSs (cxOf CX0 P w K mg base N qual (defScope st) f cdv A outer s H E).nox (defBody st) t ∧ ∀ C xs R, Clo C → rel C xs R → Ds K C t (EnR C R) (stG N xs) C) : FnOk P w K mg base CX0 (k + 1) f fd ps (SpG K rel) := by
  refine F.ok S (fun vs H Q E h => ?_) (fun cdv A outer s H vs Q E hr h => ?_)
  · obtain ⟨C, xs, R, _, r, h, _⟩ := h
    rw [r.length]
    exact len _ _ _ h
  · obtain ⟨C, xs, R, c, r, h, q⟩ := h
    obtain ⟨t, ht, hd⟩ := hb cdv A outer s H E hr
    refine ⟨t, ht, hd C xs R c.clo h H _ H (Adv.refl c) (sta_start c r) _ ⟨fun Γ C' σ' H' a s' e => ?_, fun x v C' H' a r' e => ?_, fun _ _ _ _ _ _ e => e.elim, fun _ _ _ _ _ _ e => e.elim⟩⟩
    · obtain ⟨y, C2, a2, r2, e2⟩ := Rt.fin a rx_N e
      exact q _ _ C2 H' a2 r2 e2
    · obtain ⟨y, C2, a2, r2, e2⟩ := Rt.fin a r' e
      exact q _ _ C2 H' a2 r2 e2
theorem mor_sbs {C1 : Cs} (m : Mor C C1) : Sbs C C1 := fun a o e => (m a (by rw [e]; rfl)).trans e
theorem Mor.trans {C1 C2 : Cs} (a : Mor C C1) (b : Mor C1 C2) : Mor C C2 := fun x h => by
  have e := a x h
  exact (b x (by rw [e]; exact h)).trans e
/-- a cell that the caller does not know changes -/
theorem Mor.put {C1 : Cs} {p : Addr} {o : MO} (m : Mor C C1) (h : C p = none) : Mor C (updC C1 p o) := fun a ha => by
  have ne : a ≠ p := fun e => by subst e; rw [h] at ha; cases ha
  rw [updC_ne ne]
  exact m a ha
theorem Mor.free {C1 : Cs} {p : Addr} (m : Mor C C1) (h : C1 p = none) : C p = none := by
  cases e : C p with
  | none => rfl
  | some o =>
    have := m.at_ e
    rw [h] at this
    cases this
theorem rt_dat {R : Ax → Cs → Prop} {C1 : Cs} {d : PyData} (cl : Clo C) (m : Mor C C1) (h : R (.dat d) C) : Rt C R (.dat d) C1 :=
  ⟨.dat d, C, mor_sbs m, fun _ h => h, cl, .inl ⟨rfl, fun _ e => nomatch e⟩, h⟩
theorem rt_fz {R : Ax → Cs → Prop} {C1 : Cs} {x : Ax} {d : PyData} (cl : Clo C) (m : Mor C C1) (z : Dz C1 C x d) (h : R (.dat d) C) : Rt C R x C1 :=
  ⟨.dat d, C, mor_sbs m, fun _ h => h, cl, .inr ⟨d, z, rfl⟩, h⟩
theorem paired_map {α β γ : Type} {F : β → γ → Prop} (f : α → β) (g : α → γ) (h : ∀ a, F (f a) (g a)) : ∀ l : List α, Paired F (l.map f) (l.map g)
  | [] => .nil
  | a :: l => .cons (h a) (paired_map f g h l)
theorem dz_lst {C1 : Cs} {p : Addr} {ds : List PyData} (h1 : C1 p = some (.lst (ds.map .dat))) (h2 : C p = none) : Dz C1 C (.ref p) (.list ds) :=
  .lst h1 h2 (by
    have := paired_map (F := Dz C1 C) Ax.dat (fun d => d) (fun d => Dz.dat d) ds
    rw [List.map_id'] at this
    exact this)

/-! ### more expressions -/
theorem uo_none : PuO K tNoPart Γ C none := fun σ H s Q q => q H s.adv
theorem uo_some {i : Int} (h : Pu K te Γ C (I i)) : PuO K (tPart te) Γ C (some i) := fun σ H s Q q => h σ H s _ fun v H1 a r => by
  cases rx_int r
  exact ⟨i, rfl, q H1 a⟩
def cutD {α : Type} (xs : List α) (lo hi : Option Int) : List α := (xs.drop (HT.sIx xs.length 0 lo)).take (HT.sIx xs.length xs.length hi - HT.sIx xs.length 0 lo)
theorem dpa_drop {H : Hp} : ∀ {vs : List V} {ds : List PyData} (n : Nat), DpAll K H vs ds → DpAll K H (vs.drop n) (ds.drop n)
  | _, _, 0, h => h
  | _, _, n + 1, .nil => .nil
  | _, _, n + 1, .cons _ t => dpa_drop n t
theorem dpa_take {H : Hp} : ∀ {vs : List V} {ds : List PyData} (n : Nat), DpAll K H vs ds → DpAll K H (vs.take n) (ds.take n)
  | _, _, 0, h => .nil
  | _, _, n + 1, .nil => .nil
  | _, _, n + 1, .cons r t => .cons r (dpa_take n t)
theorem dpa_cut {H : Hp} {vs : List V} {ds : List PyData} {lo hi : Option Int} (h : DpAll K H vs ds) : DpAll K H (cutV vs lo hi) (cutD ds lo hi) := by
  unfold cutV cutD
  rw [h.len]
  exact dpa_take _ (dpa_drop _ h)
theorem pu_slT {ds es : List PyData} {tl th : TO} {lo hi : Option Int} (h : Pu K te Γ C (T ds)) (h1 : PuO K tl Γ C lo) (h2 : PuO K th Γ C hi) (e : cutD ds lo hi = es) (nf : ¬(HT.sIx ds.length 0 lo = 0 ∧ HT.sIx ds.length ds.length hi = ds.length)) : Pu K (tSl (rSlT K) te tl th) Γ C (T es) := fun σ H s Q q =>
  h σ H s _ fun v H1 a1 r1 => h1 σ H1 (a1.sta s) _ fun H2 a2 => h2 σ H2 ((a1.trans a2).sta s) _ fun H3 a3 => by
    subst e
    cases (a2.trans a3).rx r1 with
    | tup hs hd =>
      rename_i ad us
      refine ⟨_, _, rfl, SqT.up hid_le hs, by rw [hd.len]; exact nf, fun p hp => ?_⟩
      have a4 := Adv.new (o := .tup (cutV us lo hi)) a3.cells hp
      exact q _ _ (((a1.trans a2).trans a3).trans a4) (.tup (SqT.of (hid_of upd_same (a3.cells.free hp))) (DpAll.up a4.ex _ (dpa_cut hd)))
theorem pl_slL {ds es : List PyData} {tl th : TO} {lo hi : Option Int} (h : Pu K te Γ C (Ls ds)) (h1 : PuO K tl Γ C lo) (h2 : PuO K th Γ C hi) (e : cutD ds lo hi = es) : PuL K (tSl (rSlL K) te tl th) Γ C (es.map .dat) := fun σ H s Q q =>
  h σ H s _ fun v H1 a1 r1 => h1 σ H1 (a1.sta s) _ fun H2 a2 => h2 σ H2 ((a1.trans a2).sta s) _ fun H3 a3 => by
    subst e
    cases (a2.trans a3).rx r1 with
    | lst hs hd => exact ⟨_, _, rfl, SqL.up hid_le hs, fun p hp => q p _ _ ((a1.trans a2).trans a3) hp (rxa_dat (dpa_cut hd))⟩
/-! ### in a written row of texts -/
theorem eqV_str {s t : Str} : eqV (.str s) (.str t) = decide (s = t) := rfl
theorem inV_strs {s : Str} : ∀ ss : List Str, inV (.str s) (ss.map V.str) = decide (s ∈ ss)
  | [] => rfl
  | r :: ss => by
    have ih := inV_strs (s := s) ss
    show (eqV (.str r) (.str s) || inV (.str s) (ss.map V.str)) = _
    rw [ih, eqV_str]
    by_cases h : r = s
    · subst h
      simp
    · have h' : s ≠ r := fun e => h e.symm
      simp [h, h']
theorem flat_strs : ∀ ss : List Str, (ss.map V.str).all flatV = true
  | [] => rfl
  | _ :: ss => flat_strs ss
theorem dpa_strs {H : Hp} : ∀ {vs : List V} {ss : List Str}, DpAll K H vs (ss.map PyData.str) → vs = ss.map V.str
  | _, [], h => by cases h; rfl
  | _, s :: ss, h => by
    cases h with
    | cons h1 h2 =>
      cases h1
      rw [dpa_strs h2]
      rfl
theorem pu_in {s : Str} {ss : List Str} (ha : Pu K ta Γ C (S s)) (hb : Pu K tb Γ C (T (ss.map .str))) : Pu K (tOp (rIn K false) ta tb) Γ C (B (decide (s ∈ ss))) :=
  pu_op ha hb fun v w H c r1 r2 Q q => by
    cases rx_str r1
    cases r2 with
    | tup hs hd =>
      have e := dpa_strs hd
      subst e
      refine ⟨_, _, rfl, .inr (SqT.up hid_le hs), rfl, flat_strs ss, ?_⟩
      rw [if_neg (by decide), inV_strs]
      exact q _ H (Adv.refl c) rx_B
theorem pu_notIn {s : Str} {ss : List Str} (ha : Pu K ta Γ C (S s)) (hb : Pu K tb Γ C (T (ss.map .str))) : Pu K (tOp (rIn K true) ta tb) Γ C (B (!decide (s ∈ ss))) :=
  pu_op ha hb fun v w H c r1 r2 Q q => by
    cases rx_str r1
    cases r2 with
    | tup hs hd =>
      have e := dpa_strs hd
      subst e
      refine ⟨_, _, rfl, .inr (SqT.up hid_le hs), rfl, flat_strs ss, ?_⟩
      rw [if_pos rfl, inV_strs]
      exact q _ H (Adv.refl c) rx_B
/-! ### ints in a list -/
theorem at_ints {ns : List Int} {i : Int} (h0 : 0 ≤ i) (h : i < ns.length) : atI (ns.map PyData.int) i = some (.int (ns.getD i.toNat 0)) := by
  obtain ⟨j, rfl⟩ : ∃ j : Nat, i = (j : Int) := ⟨i.toNat, by omega⟩
  have hj : j < ns.length := by omega
  rw [atI_nat (v := PyData.int (ns.getD j 0)) (by rw [List.getElem?_map, List.getD_eq_getElem?_getD, List.getElem?_eq_getElem hj]; rfl)]
  rfl
theorem pu_ixI {ns : List Int} {i : Int} (ha : Pu K ta Γ C (Ls (ns.map .int))) (hb : Pu K tb Γ C (I i)) (h0 : 0 ≤ i) (h : i < ns.length) : Pu K (tOp (rIxL K) ta tb) Γ C (I (ns.getD i.toNat 0)) := pu_ixL ha hb (at_ints h0 h)
theorem pu_neg {i : Int} (h : Pu K te Γ C (I i)) : Pu K (tUn (rU fun i => .int (-i)) te) Γ C (I (-i)) := fun σ H s Q q => h σ H s _ fun v H1 a r => by
  cases rx_int r
  exact ⟨i, rfl, q _ H1 a rx_I⟩
theorem ds_aug {i : Nat} {f : Int → Int → Int} {a b : Int} (hx : Γ[i]? = some (some (I a))) (h : Pu K te Γ C (I b)) (k : Ds K An rest E (Γ.set i (some (I (f a b)))) C) : Ds K An (tSeq (tAug i te (ipI f)) rest) E Γ C := fun H0 σ H b0 s D fi => by
  obtain ⟨v, e, r⟩ := s.slot i _ hx
  cases rx_int r
  refine ⟨_, e, h σ H s _ fun w H1 a1 r1 => ?_⟩
  cases rx_int r1
  exact ⟨_, _, rfl, rfl, k H0 _ H1 (b0.trans a1) ((a1.sta s).set i rx_I) D fi⟩
theorem ds_aug1 {i : Nat} {f : Int → Int → Int} {a b : Int} (hx : Γ[i]? = some (some (I a))) (h : Pu K te Γ C (I b)) (k : E.nx (Γ.set i (some (I (f a b)))) C) : Ds K An (tAug i te (ipI f)) E Γ C :=
  show Ds K An (tSeq (tAug i te (ipI f)) tNext) E Γ C from ds_aug hx h (ds_next k)
/-- a mutable list becomes data: what is known of its slots -/
def Frz (p : Addr) (ds : List PyData) : Gm → Gm → Prop
  | [], [] => True
  | _ :: r, none :: q => Frz p ds r q
  | some (.dat d) :: r, some y :: q => y = .dat d ∧ Frz p ds r q
  | some (.ref a) :: r, some y :: q => ((a ≠ p ∧ y = .ref a) ∨ (a = p ∧ y = Ls ds)) ∧ Frz p ds r q
  | _, _ => False
theorem Frz.len {p : Addr} {ds : List PyData} : ∀ {Γ Δ : Gm}, Frz p ds Γ Δ → Γ.length = Δ.length := by
  intro Γ
  induction Γ with
  | nil =>
    intro Δ h
    cases Δ with
    | nil => rfl
    | cons y q => cases y <;> exact h.elim
  | cons x r ih =>
    intro Δ h
    cases Δ with
    | nil => cases x with
      | none => exact h.elim
      | some x => cases x <;> exact h.elim
    | cons y q =>
      cases y with
      | none =>
        have h2 : Frz p ds r q := by cases x with
          | none => exact h
          | some x => cases x <;> exact h
        simp [ih h2]
      | some y =>
        cases x with
        | none => exact h.elim
        | some x => cases x <;> simp [ih h.2]
theorem Frz.get {p : Addr} {ds : List PyData} : ∀ {Γ Δ : Gm} {i : Nat} {y : Ax}, Frz p ds Γ Δ → Δ[i]? = some (some y) → (∃ d, y = .dat d ∧ Γ[i]? = some (some (.dat d))) ∨ (∃ a, a ≠ p ∧ y = .ref a ∧ Γ[i]? = some (some (.ref a))) ∨ (y = Ls ds ∧ Γ[i]? = some (some (.ref p))) := by
  intro Γ
  induction Γ with
  | nil =>
    intro Δ i y h e
    cases Δ with
    | nil => simp at e
    | cons y q => cases y <;> exact h.elim
  | cons x r ih =>
    intro Δ i y h e
    cases Δ with
    | nil => simp at e
    | cons z q =>
      cases i with
      | zero =>
        simp at e
        subst e
        cases x with
        | none => exact h.elim
        | some x =>
          cases x with
          | dat d => exact .inl ⟨d, h.1, by simp⟩
          | ref a =>
            rcases h.1 with ⟨h1, h2⟩ | ⟨h1, h2⟩
            · exact .inr (.inl ⟨a, h1, h2, by simp⟩)
            · subst h1
              exact .inr (.inr ⟨h2, by simp⟩)
      | succ i =>
        have h2 : Frz p ds r q := by
          cases z with
          | none => cases x with
            | none => exact h
            | some x => cases x <;> exact h
          | some z => cases x with
            | none => exact h.elim
            | some x => cases x <;> exact h.2
        have := ih h2 (i := i) (y := y) (by simpa using e)
        simpa using this
/-- from here on the list at p is data -/
theorem ds_freeze {p : Addr} {ds : List PyData} {Δ : Gm} (e : C = updC C1 p (.lst (ds.map .dat))) (hp : C1 p = none) (cl : Clo C1) (ha : An p = none) (fz : Frz p ds Γ Δ) (k : Ds K An t E Δ C1) : Ds K An t E Γ C := fun H0 σ H b0 s D f => by
  subst e
  have sb : Sbs C1 (updC C1 p (.lst (ds.map .dat))) := fun a o h => by
    rw [updC_ne (fun z => by subst z; rw [hp] at h; cases h)]
    exact h
  have cc := cells_sbs sb cl s.cells
  refine k H0 σ H ⟨fun a o h => hid_sbs sb a o (b0.ex a o h), fun a h => ?_, b0.dom, cc⟩ ⟨s.len.trans fz.len, fun i y e => ?_, cc⟩ D f
  · have h1 := b0.sub a h
    rw [updC_ne (fun z => by subst z; rw [ha] at h; cases h)] at h1
    exact h1
  · rcases fz.get e with ⟨d, rfl, e1⟩ | ⟨a, na, rfl, e1⟩ | ⟨rfl, e1⟩
    · obtain ⟨v, e2, r⟩ := s.slot i _ e1
      exact ⟨v, e2, Dp.up (hid_sbs sb) d r⟩
    · obtain ⟨v, e2, r⟩ := s.slot i _ e1
      refine ⟨v, e2, r.1, ?_⟩
      have := r.2
      rw [updC_ne na] at this
      exact this
    · obtain ⟨v, e2, r⟩ := s.slot i _ e1
      exact ⟨v, e2, (dz_lst (C := C1) updC_same hp).rx sb s.cells r⟩
end Ab

/-! Ab5: a list of lists that a def makes and changes. -/
namespace Ab
open PySem PySem.Spec PyProof.Rows L2
variable {K : PySem.W.Frag} {An : Cs} {Γ Γ' : Gm} {C : Cs} {ta tb tc te to ti : TE} {x y z : Ax} {t u rest : TS} {c : TT} {E : En} {g : TG}

structure Grid (C C1 : Cs) (p : Addr) (ps : List Addr) (fs : List (List PyData)) : Prop where
  mor : Mor C C1
  new : C p = none
  news : ∀ q ∈ ps, C q = none
  top : C1 p = some (.lst (ps.map .ref))
  len : ps.length = fs.length
  row : ∀ (i : Nat) q, ps[i]? = some q → C1 q = some (.lst ((fs.getD i []).map .dat))
  nd : ps.Nodup
  apart : p ∉ ps
theorem Grid.put {C1 : Cs} {p q : Addr} {ps : List Addr} {fs : List (List PyData)} (G : Grid C C1 p ps fs) {i : Nat} (hq : ps[i]? = some q) (f : List PyData) : Grid C (updC C1 q (.lst (f.map .dat))) p ps (fs.set i f) := by
  have hm := List.mem_of_getElem? hq
  have hi : i < ps.length := (List.getElem?_eq_some_iff.mp hq).1
  have hpq : p ≠ q := fun e => G.apart (e ▸ hm)
  refine ⟨G.mor.put (G.news q hm), G.new, G.news, by rw [updC_ne hpq]; exact G.top, by rw [List.length_set]; exact G.len, fun j r hj => ?_, G.nd, G.apart⟩
  by_cases e : j = i
  · subst e
    cases hj.symm.trans hq
    rw [updC_same, List.getD_eq_getElem?_getD, List.getElem?_set_self (by rw [← G.len]; exact hi)]
    rfl
  · have hr : r ≠ q := fun e2 => e (nd_ix G.nd hj (e2 ▸ hq))
    rw [updC_ne hr, G.row j r hj, List.getD_eq_getElem?_getD, List.getD_eq_getElem?_getD, List.getElem?_set_ne (fun e2 => e e2.symm)]
/-- cells that are none of its own come and change -/
theorem Grid.other {C1 : Cs} {p q : Addr} {ps : List Addr} {fs : List (List PyData)} (G : Grid C C1 p ps fs) (h0 : C q = none) (hp : q ≠ p) (hs : q ∉ ps) (o : MO) : Grid C (updC C1 q o) p ps fs :=
  ⟨G.mor.put h0, G.new, G.news, by rw [updC_ne (Ne.symm hp)]; exact G.top, G.len, fun j r hj => by rw [updC_ne (show r ≠ q from fun e => hs (by rw [← e]; exact List.mem_of_getElem? hj))]; exact G.row j r hj, G.nd, G.apart⟩
theorem Grid.at_ {C1 : Cs} {p : Addr} {ps : List Addr} {fs : List (List PyData)} (G : Grid C C1 p ps fs) {i : Nat} (hi : i < fs.length) : ∃ q, ps[i]? = some q ∧ C1 q = some (.lst ((fs.getD i []).map .dat)) ∧ atI (ps.map Ax.ref) (i : Int) = some (.ref q) := by
  have h : i < ps.length := by rw [G.len]; exact hi
  refine ⟨ps[i], List.getElem?_eq_getElem h, G.row i _ (List.getElem?_eq_getElem h), atI_nat ?_⟩
  rw [List.getElem?_map, List.getElem?_eq_getElem h]
  rfl
/-- [ROW for _ in xs], a new row each time -/
theorem ev_grid {F : Cs → Prop} {wi : TI} {xs : List Ax} {own : List Nat} {r : List PyData} (hi : PuI K F wi Γ C xs) (hn : xs.length < 100000) (hF : ∀ C', Mor C C' → F C')
    (hs : ∀ (i : Nat) (x : Ax) C', Mor C C' → xs[i]? = some x → ∃ Γ2 vs, (∀ j, j ∈ vs → j ∈ own) ∧ Tg K g x (wipeG Γ own) Γ2 vs ∧ PuL K te Γ2 C' (r.map .dat)) :
    Ev K (tLc wi g tYes te own) Γ C (fun x C' => ∃ p ps, x = .ref p ∧ Grid C C' p ps (List.replicate xs.length r)) := by
  refine ev_lc (fun D i acc C' => ∃ ps, acc = ps.map .ref ∧ Grid C C' D ps (List.replicate i r)) hi hn (fun D h => ⟨[], rfl, Mor.upd h, h, (fun q hq => by cases hq), updC_same, rfl, (fun i q hq => by simp at hq), .nil, (fun h => by cases h)⟩) (fun D i acc C' ⟨ps, _, G⟩ => hF C' G.mor) ?_ ?_
  · intro D i x acc C' hD hx ⟨ps, e1, G⟩ e2
    obtain ⟨Γ2, vs, hv, ht, hl⟩ := hs i x C' G.mor hx
    refine ⟨Γ2, vs, true, hv, ht, ut_yes, (fun e => by cases e), fun _ => (ev_new hl).imp fun y C2 ⟨q, hq, ey, ec⟩ => ?_⟩
    subst ey; subst ec; subst e1
    have hqD : D ≠ q := fun e => by rw [← e, e2] at hq; cases hq
    have hqs : ∀ r ∈ ps, r ≠ q := fun r hr e => by
      obtain ⟨j, hj⟩ := List.getElem?_of_mem hr
      have := G.row j r hj
      rw [e, hq] at this
      cases this
    refine ⟨by rw [updC_ne hqD]; exact e2, ps ++ [q], by simp, (G.mor.put (G.mor.free hq)).put hD, hD, fun a ha => ?_, by rw [updC_same]; simp, by simp [G.len], fun j a ha => ?_, ?_, ?_⟩
    · rw [List.mem_append, List.mem_singleton] at ha
      rcases ha with ha | ha
      · exact G.news a ha
      · subst ha
        exact G.mor.free hq
    · by_cases hj : j < ps.length
      · rw [List.getElem?_append_left hj] at ha
        have hm := List.mem_of_getElem? ha
        rw [updC_ne (show a ≠ D from fun e => G.apart (by rw [← e]; exact hm)), updC_ne (hqs a hm), G.row j a ha]
        have h1 : j < i := by have := G.len; simp at this; omega
        rw [List.getD_eq_getElem?_getD, List.getD_eq_getElem?_getD, List.getElem?_replicate, List.getElem?_replicate, if_pos h1, if_pos (by omega)]
      · have h2 : j = ps.length := by
          have := (List.getElem?_eq_some_iff.mp ha).1
          simp at this
          omega
        subst h2
        rw [List.getElem?_append_right (Nat.le_refl _), Nat.sub_self] at ha
        have ea : q = a := by simpa using ha
        subst ea
        rw [updC_ne (Ne.symm hqD), updC_same, List.getD_eq_getElem?_getD, List.getElem?_replicate, if_pos (by have := G.len; simp at this; omega)]
        rfl
    · rw [List.nodup_append]
      refine ⟨G.nd, by simp, fun a ha b hb => ?_⟩
      rw [List.mem_singleton] at hb
      subst hb
      exact hqs a ha
    · rw [List.mem_append, List.mem_singleton, not_or]
      exact ⟨G.apart, hqD⟩
  · intro D acc C' hD ⟨ps, e1, G⟩ _
    exact ⟨D, ps, rfl, G⟩
/-- [tuple(f) for f in grid] -/
theorem pu_rows {p : Addr} {ps : List Addr} {fs : List (List PyData)} {C1 : Cs} {i : Nat} (G : Grid C C1 p ps fs) (h : Pu K te Γ C1 (.ref p)) (hn : fs.length < 100000) (hi : i < Γ.length) :
    Pu K (tLc (iList K te) (gName i) tYes (tCB (fun xs H Q => ∃ p ys, xs = [V.ref p] ∧ ((SqL K H p ys ∧ ∀ l, H l = none → Q (.ref l) (upd H l (.tup ys))) ∨ (SqT K H p ys ∧ Q (.ref p) H))) (tCons (tVar i) tNil)) [i]) Γ C1 (Ls (fs.map .tuple)) := by
  have e : fs.map PyData.tuple = ((List.range (ps.map Ax.ref).length).filter (fun _ => true)).map (fun j => PyData.tuple (fs.getD j [])) := by
    rw [List.filter_eq_self.mpr (fun _ _ => rfl), List.length_map, G.len]
    refine List.ext_getElem? fun j => ?_
    by_cases hj : j < fs.length
    · rw [List.getElem?_map, List.getElem?_map, List.getElem?_range hj, List.getElem?_eq_getElem hj]
      simp [hj]
    · rw [List.getElem?_eq_none (by simpa using hj), List.getElem?_eq_none (by simpa using hj)]
  rw [e]
  refine pu_lc (F := fun C' => C' p = some (.lst (ps.map .ref))) (fun _ => true) (fun j => .tuple (fs.getD j [])) (ui_listM h G.top) (by rw [List.length_map, G.len]; exact hn) (fun C' m => m.at_ G.top) fun j x C' m hx => ?_
  rw [List.getElem?_map] at hx
  cases hj : ps[j]? with
  | none => rw [hj] at hx; cases hx
  | some q =>
    rw [hj] at hx
    cases hx
    refine ⟨_, [i], fun _ h => h, tg_name, ut_yes, fun _ => ?_⟩
    refine pu_cb (au_cons (pu_var ?_) au_nil) (rc_tupM (m.at_ (G.row j q hj)))
    exact List.getElem?_set_self (by rw [wipeG_len]; exact hi)
end Ab

/-! Ab6: loops by what is known in their turns. -/
namespace Ab
open PySem PySem.Spec PyProof.Rows L2
variable {K : PySem.W.Frag} {An : Cs} {Γ Γ' : Gm} {C : Cs} {ta tb tc te to ti : TE} {x y z : Ax} {t u rest : TS} {c : TT} {E : En} {g : TG}
theorem Le.trans : ∀ (Γ Δ Θ : Gm), Le Γ Δ → Le Δ Θ → Le Γ Θ := by
  intro Γ
  induction Γ with
  | nil =>
    intro Δ Θ h k
    cases Δ with
    | nil => exact k
    | cons _ _ => exact h.elim
  | cons x r ih =>
    intro Δ Θ h k
    cases Δ with
    | nil => cases x <;> exact h.elim
    | cons y q =>
      cases Θ with
      | nil => cases y <;> exact k.elim
      | cons z u =>
        cases x with
        | none =>
          cases y with
          | none => exact ih q u h k
          | some y => exact ih q u h k.2
        | some x =>
          obtain ⟨rfl, h⟩ := h
          exact ⟨k.1, ih q u h k.2⟩
theorem ds_for1 {F : Cs → Prop} {wi : TI} {xs : List Ax} (Iv : Nat → Gm → Cs → Prop) (hi : PuI K F wi Γ C xs) (h0 : ∃ Δ, Le Δ Γ ∧ Iv 0 Δ C) (hF : ∀ i Γ' C', Iv i Γ' C' → F C')
    (hs : ∀ i x Δ C', xs[i]? = some x → Iv i Δ C' → ∃ Γ2 vs, Tg K g x Δ Γ2 vs ∧ Ds K C t { nx := fun Γ' C' => ∃ Δ, Le Δ Γ' ∧ Iv (i + 1) Δ C', rt := E.rt, bk := E.nx, ct := fun Γ' C' => ∃ Δ, Le Δ Γ' ∧ Iv (i + 1) Δ C' } Γ2 C') (hd : ∀ Γ' Δ C', Le Δ Γ' → Iv xs.length Δ C' → E.nx Γ' C') : Ds K An (tFor wi g t) E Γ C :=
  ds_for (fun i Γ' C' => ∃ Δ, Le Δ Γ' ∧ Iv i Δ C') hi h0 (fun i Γ' C' ⟨Δ, _, h⟩ => hF i Δ C' h) (fun i x Γ' C' hx ⟨Δ, l, h⟩ => by
    obtain ⟨Γ2, vs, ht, hb⟩ := hs i x Δ C' hx h
    exact ⟨Γ2, vs, fun C σ H v s r Q q => ht C σ H v (s.weak l) r Q q, hb⟩) (fun Γ' C' ⟨Δ, l, h⟩ => hd Γ' Δ C' l h)
/-- a for without a break, and what follows it -/
theorem ds_forS {F : Cs → Prop} {wi : TI} {xs : List Ax} (Iv : Nat → Gm → Cs → Prop) (hi : PuI K F wi Γ C xs) (h0 : ∃ Δ, Le Δ Γ ∧ Iv 0 Δ C) (hF : ∀ i Γ' C', Iv i Γ' C' → F C')
    (hs : ∀ i x Δ C', xs[i]? = some x → Iv i Δ C' → ∃ Γ2 vs, Tg K g x Δ Γ2 vs ∧ Ds K C t { nx := fun Γ' C' => ∃ Δ, Le Δ Γ' ∧ Iv (i + 1) Δ C', rt := E.rt, bk := fun Γ' C' => ∃ Δ, Le Δ Γ' ∧ Iv xs.length Δ C', ct := fun Γ' C' => ∃ Δ, Le Δ Γ' ∧ Iv (i + 1) Δ C' } Γ2 C') (k : ∀ Δ C', Iv xs.length Δ C' → Ds K An rest E Δ C') : Ds K An (tSeq (tFor wi g t) rest) E Γ C :=
  ds_seq (M := fun Γ' C' => ∃ Δ, Le Δ Γ' ∧ Iv xs.length Δ C') (ds_for1 Iv hi h0 hF hs (fun Γ' Δ C' l h => ⟨Δ, l, h⟩)) (fun Γ' C' ⟨Δ, l, h⟩ => ds_weak (k Δ C' h) l)
theorem le2 {Δ : Gm} {P : Gm → Cs → Prop} {C' : Cs} (h : P Δ C') : ∃ Δ', Le Δ' Δ ∧ P Δ' C' := ⟨Δ, Le.refl Δ, h⟩
theorem updC_updC {p : Addr} {o o' : MO} : updC (updC C p o) p o' = updC C p o' := by
  funext b
  by_cases h : b = p
  · subst h; rw [updC_same, updC_same]
  · rw [updC_ne h, updC_ne h, updC_ne h]
theorem rt_no {R : Ax → Cs → Prop} {C1 : Cs} (cl : Clo C) (m : Mor C C1) (h : R No C) : Rt C R No C1 := rt_dat cl m h
end Ab

/-! Ab7: the layer's rules with the written part named, for blocks. -/
namespace Ab
open PySem PySem.Spec PyProof.Rows L2
variable {X : Cx}
theorem kx_ixL (K : PySem.W.Frag) (h : X.K = K) : IxR X (rIxL K) := h ▸ ix_list
theorem kx_ixT (K : PySem.W.Frag) (h : X.K = K) : IxR X (rIxT K) := h ▸ ix_tup
theorem kx_in (K : PySem.W.Frag) (h : X.K = K) : OpR X (compareOp .In) (rIn K false) := h ▸ op_in_seq
theorem kx_notIn (K : PySem.W.Frag) (h : X.K = K) : OpR X (compareOp .NotIn) (rIn K true) := h ▸ op_notIn_seq
theorem kx_eqD (K : PySem.W.Frag) (h : X.K = K) (hu : X.A.units + 64 < cLine) : OpR X (compareOp .Eq) (rEqD K) := h ▸ op_eqD hu
theorem kx_neD (K : PySem.W.Frag) (h : X.K = K) (hu : X.A.units + 64 < cLine) : OpR X (compareOp .NotEq) (rNeD K) := h ▸ op_neD hu
theorem kx_slT (K : PySem.W.Frag) (h : X.K = K) : SlR X (rSlT K) := h ▸ sl_tup
theorem kx_slL (K : PySem.W.Frag) (h : X.K = K) : SlR X (rSlL K) := h ▸ sl_list
theorem kx_catT (K : PySem.W.Frag) (h : X.K = K) : OpR X (binaryOp .Add) (rCatT K) := h ▸ op_catT
theorem kx_len (K : PySem.W.Frag) (h : X.K = K) : CallR X (.builtin "len") (fun xs H Q => ∃ p ys, xs = [.ref p] ∧ (SqL K H p ys ∨ SqT K H p ys) ∧ Q (.int ys.length) H) := h ▸ call_len_seq
theorem kx_list (K : PySem.W.Frag) (h : X.K = K) : CallR X (.type "list") (fun xs H Q => ∃ p ys, xs = [.ref p] ∧ (SqL K H p ys ∨ SqT K H p ys) ∧ ∀ l, H l = none → Q (.ref l) (upd H l (.lst ys))) := h ▸ call_list_of
theorem kx_tuple (K : PySem.W.Frag) (h : X.K = K) : CallR X (.type "tuple") (fun xs H Q => ∃ p ys, xs = [.ref p] ∧ ((SqL K H p ys ∧ ∀ l, H l = none → Q (.ref l) (upd H l (.tup ys))) ∨ (SqT K H p ys ∧ Q (.ref p) H))) := h ▸ call_tuple_of
theorem kx_all (K : PySem.W.Frag) (h : X.K = K) (hc : X.calm = true) : CallR X (.builtin "all") (rAll K) := h ▸ cr_all hc
theorem kx_any (K : PySem.W.Frag) (h : X.K = K) (hc : X.calm = true) : CallR X (.builtin "any") (rAny K) := h ▸ cr_any hc
theorem kx_sum (K : PySem.W.Frag) (h : X.K = K) (hc : X.calm = true) : CallR X (.builtin "sum") (rSum K) := h ▸ cr_sum hc
theorem kx_pList (K : PySem.W.Frag) (h : X.K = K) {tg l : Expr} {tl : TE} (hl : PE X l tl) : PI X tg l (iList K tl) := h ▸ pi_list hl
theorem kx_pTup (K : PySem.W.Frag) (h : X.K = K) {tg l : Expr} {tl : TE} (hl : PE X l tl) : PI X tg l (iTup K tl) := h ▸ pi_tup hl
theorem lk {n : Nat} (h : Nat.ble n 100000 = true) : n ≤ 100000 := Nat.le_of_ble_eq_true h
end Ab

/-! Ab8: data that == reads. -/
namespace Ab
open PySem PySem.Spec PyProof.Rows L2
/-- at most n deep, its texts in order -/
def Sh (n : Nat) (d : PyData) : Prop := d.canLay0 = true ∧ d.depth ≤ n
theorem Sh.mono {n m : Nat} {d : PyData} (h : Sh n d) (k : n ≤ m) : Sh m d := ⟨h.1, Nat.le_trans h.2 k⟩
theorem Sh.sh {n : Nat} {d : PyData} (h : Sh n d) (k : n ≤ 64 := by decide) : SeqAt.shaped d = true := by
  show (d.canLay0 && decide (d.depth ≤ 64)) = true
  rw [h.1, decide_eq_true (Nat.le_trans h.2 k)]
  rfl
theorem sh_int {i : Int} : Sh 0 (.int i) := ⟨by simp [PyData.canLay0], by simp [PyData.depth]⟩
theorem sh_bool {i : Bool} : Sh 0 (.bool i) := ⟨by simp [PyData.canLay0], by simp [PyData.depth]⟩
theorem sh_none : Sh 0 .none := ⟨by simp [PyData.canLay0], by simp [PyData.depth]⟩
theorem sh_str {s : Str} (h : PyData.strOk s = true) : Sh 0 (.str s) := ⟨by simp [PyData.canLay0, h], by simp [PyData.depth]⟩
theorem sh_all {n : Nat} : ∀ {ds : List PyData}, (∀ d ∈ ds, Sh n d) → PyData.canLayAll0 ds = true ∧ PyData.depthAll ds ≤ n
  | [], _ => ⟨by simp [PyData.canLayAll0], by simp [PyData.depthAll]⟩
  | d :: ds, h => by
    have h1 := h d (by simp)
    have h2 := sh_all (ds := ds) fun e he => h e (by simp [he])
    refine ⟨by simp [PyData.canLayAll0, h1.1, h2.1], ?_⟩
    simp only [PyData.depthAll]
    exact Nat.max_le.mpr ⟨h1.2, h2.2⟩
theorem sh_tup {n : Nat} {ds : List PyData} (h : ∀ d ∈ ds, Sh n d) : Sh (n + 1) (.tuple ds) := by
  obtain ⟨h1, h2⟩ := sh_all h
  exact ⟨by simp only [PyData.canLay0]; exact h1, by simp only [PyData.depth]; omega⟩
theorem sh_list {n : Nat} {ds : List PyData} (h : ∀ d ∈ ds, Sh n d) : Sh (n + 1) (.list ds) := by
  obtain ⟨h1, h2⟩ := sh_all h
  exact ⟨by simp only [PyData.canLay0]; exact h1, by simp only [PyData.depth]; omega⟩
theorem Sh.eq {n : Nat} {d : PyData} (h : Sh n d) : PyData.eqv d d = true := SeqAt.eqv_refl d h.1
theorem sh_nil {n : Nat} : ∀ d ∈ ([] : List PyData), Sh n d := fun d h => by cases h
theorem sh_cons {n : Nat} {d : PyData} {ds : List PyData} (h : Sh n d) (k : ∀ e ∈ ds, Sh n e) : ∀ e ∈ d :: ds, Sh n e := fun e he => by
  rcases List.mem_cons.mp he with rfl | he
  · exact h
  · exact k e he
/-- the items of a list, by place, filtered -/
theorem range_getD {α : Type} (d : α) : ∀ l : List α, (List.range l.length).map (fun i => l.getD i d) = l := fun l => by
  refine List.ext_getElem? fun i => ?_
  by_cases h : i < l.length
  · rw [List.getElem?_map, List.getElem?_range h, List.getElem?_eq_getElem h]
    simp [h]
  · rw [List.getElem?_eq_none (by simpa using h), List.getElem?_eq_none (by omega)]
theorem filter_range {α β : Type} (d : α) (p : α → Bool) (f : α → β) (l : List α) : ((List.range l.length).filter (fun i => p (l.getD i d))).map (fun i => f (l.getD i d)) = (l.filter p).map f := by
  have e : l.filter p = ((List.range l.length).filter (fun i => p (l.getD i d))).map (fun i => l.getD i d) := by
    have := congrArg (List.filter p) (range_getD d l)
    rw [List.filter_map] at this
    rw [← this]
    rfl
  rw [e, List.map_map]
  rfl
theorem dpa_ints {K : PySem.W.Frag} {H : Hp} : ∀ ns : List Int, DpAll K H (ns.map V.int) (ns.map PyData.int)
  | [] => .nil
  | n :: ns => .cons (.int n) (dpa_ints ns)
/-- the law's promise at the script -/
theorem sp_law {K : PySem.W.Frag} {rel : Cs → List Ax → (Ax → Cs → Prop) → Prop} {H : Hp} {a : Addr} {ns : List Int} {E : XK} (hS : SqL K H a (ns.map V.int)) (h : ∀ C (R : Ax → Cs → Prop), R (B true) C → rel C [Ls (ns.map .int)] R) :
    SpG K rel [.ref a] H (fun v _ => v = .bl true) E := by
  have e : hid (fun _ => none) H = H := by
    funext b
    unfold hid
    rw [if_neg (by simp)]
  refine ⟨fun _ => none, [Ls (ns.map .int)], fun x _ => x = B true, (fun _ _ h => by cases h), .cons ?_ .nil, h _ _ rfl, fun v x C' H' _ r e => ?_⟩
  · show Dp K (hid _ H) (.ref a) (.list _)
    rw [e]
    exact .lst hS (dpa_ints ns)
  · subst e
    exact rx_bl r
section
variable {K : PySem.W.Frag} {Γ : Gm} {C : Cs} {te : TE}
theorem sIx1 (n : Nat) : HT.sIx (n + 1) 0 (some 1) = 1 := by
  rw [show (1 : Int) = ((1 : Nat) : Int) from rfl, HT.sIx_nat]
  omega
theorem cut_1 {α : Type} (d : α) (ds : List α) : cutD (d :: ds) (some 1) none = ds := by
  unfold cutD
  rw [List.length_cons, sIx1, HT.sIx_none]
  simp
/-- t[1:] -/
theorem pu_tail {d : PyData} {ds : List PyData} (h : Pu K te Γ C (T (d :: ds))) : Pu K (tSl (rSlT K) te (tPart (tC (.int 1))) tNoPart) Γ C (T ds) :=
  pu_slT h (uo_some pu_int) uo_none (cut_1 d ds) fun e => by
    rw [List.length_cons, sIx1] at e
    exact absurd e.1 (by decide)
end
end Ab

/-! Ab9: defs that change what they are passed; o[i] op= e; concatenation; tests that change. -/
namespace Ab
open PySem PySem.Spec PyProof.Rows L2
section
variable {X : Cx}
/-- xs[i], i from 0 on -/
def rGetL (K : PySem.W.Frag) : R2 := fun x y H Q => ∃ (p : Addr) (xs : List V) (j : Nat) (v : V), x = .ref p ∧ y = .int (j : Int) ∧ SqL K H p xs ∧ xs[j]? = some v ∧ Q v H
theorem get_list : PGet X (rGetL X.K) := by
  intro pins s σ H o i ov iv Q I ro ri h
  obtain ⟨p, xs, j, z, rfl, rfl, hq, he, q⟩ := h
  cases ro
  obtain ⟨t, rfl⟩ := ri
  obtain ⟨its, r, pl, hz⟩ := I.list hq
  obtain ⟨w, ew, rw'⟩ := r.get he
  have hj := (List.getElem?_eq_some_iff.mp he).1
  have hn := line63
  have hl := r.length
  exact wpAny_getItem_list pl.isList (by omega) (by omega) (by simpa using ew) ⟨z, H, I, rw', q⟩
theorem kx_getL (K : PySem.W.Frag) (h : X.K = K) : PGet X (rGetL K) := h ▸ get_list
theorem kx_catA (K : PySem.W.Frag) (h : X.K = K) : OpR X (binaryOp .Add) (rCatA K) := h ▸ op_catA
theorem kx_slA (K : PySem.W.Frag) (h : X.K = K) : SlR X (rSlA K) := h ▸ sl_tupA
end
variable {K : PySem.W.Frag} {An : Cs} {Γ Γ' : Gm} {C : Cs} {ta tb tc te to ti : TE} {x y z : Ax} {t u rest : TS} {c : TT} {E : En} {g : TG}
theorem rxa_set {H : Hp} {v : V} (r : Rx K C H v y) : ∀ {vs : List V} {xs : List Ax} (j : Nat), RxA K C H vs xs → RxA K C H (vs.set j v) (xs.set j y)
  | _, _, _, .nil => .nil
  | _, _, 0, .cons _ t => .cons r t
  | _, _, j + 1, .cons q t => .cons q (rxa_set r j t)
/-- xs[i] op= e, a mutable list of ints -/
theorem ds_augix {a : Addr} {xs : List Ax} {k n b : Int} {j : Nat} {f : Int → Int → Int} (ho : Pu K to Γ C (.ref a)) (hi : Pu K ti Γ C (I k)) (h : Pu K te Γ C (I b)) (hc : C a = some (.lst xs)) (hk : k = (j : Int)) (hx : xs[j]? = some (I n))
    (kk : Ds K An rest E Γ (updC C a (.lst (xs.set j (I (f n b)))))) : Ds K An (tSeq (tAugS to ti te (rGetL K) (ipI f) rSetL) rest) E Γ C := fun H0 σ H b0 s D fi =>
  ho σ H s _ fun w H1 a1 r1 => hi σ H1 (a1.sta s) _ fun i' H2 a2 r2 => by
    subst hk
    obtain ⟨rfl, ia⟩ := r1
    cases rx_int r2
    obtain ⟨ws, e1, e2⟩ := a2.cells a _ hc
    obtain ⟨v, e3, e4⟩ := rxa_get e2 hx
    cases rx_int e4
    have hj : j < xs.length := (List.getElem?_eq_some_iff.mp hx).1
    refine ⟨a, ws, j, .int n, rfl, rfl, SqL.of e1, e3, ?_⟩
    refine h σ H2 ((a1.trans a2).sta s) _ fun u H3 a3 r3 => ?_
    cases rx_int r3
    refine ⟨n, b, rfl, rfl, ?_⟩
    obtain ⟨ws2, e5, e6⟩ := a3.cells a _ hc
    refine ⟨a, ws2, (j : Int), j, rfl, rfl, e5, by rw [e6.length]; exact Evl.ixN_nat hj, ?_⟩
    have bb := Adv.setL (p := a) a3.cells ia (rxa_set (v := .int (f n b)) (y := I (f n b)) rx_I j e6)
    exact kk H0 σ _ (b0.trans (((a1.trans a2).trans a3).trans bb)) ((((a1.trans a2).trans a3).trans bb).sta s) D fi
theorem ds_augix1 {a : Addr} {xs : List Ax} {k n b : Int} {j : Nat} {f : Int → Int → Int} (ho : Pu K to Γ C (.ref a)) (hi : Pu K ti Γ C (I k)) (h : Pu K te Γ C (I b)) (hc : C a = some (.lst xs)) (hk : k = (j : Int)) (hx : xs[j]? = some (I n))
    (kk : E.nx Γ (updC C a (.lst (xs.set j (I (f n b)))))) : Ds K An (tAugS to ti te (rGetL K) (ipI f) rSetL) E Γ C :=
  show Ds K An (tSeq (tAugS to ti te (rGetL K) (ipI f) rSetL) tNext) E Γ C from ds_augix ho hi h hc hk hx (ds_next kk)
/-- tests that change the store -/
theorem ev_test {P : Ax → Cs → Prop} (h : Ev K te Γ C P) (hb : ∀ x C', P x C' → ∃ b, x = B b) : EvT K (tTest te) Γ C (fun b C' => P (B b) C') := fun σ H s Q q => h σ H s _ fun v x C2 H2 a r p => by
  obtain ⟨b, rfl⟩ := hb x C2 p
  cases rx_bl r
  exact ⟨b, rfl, q b C2 H2 a p⟩
theorem ev_B {P : Ax → Cs → Prop} (h : Ev K te Γ C P) (hb : ∀ x C', P x C' → ∃ b, x = B b) : EvT K (tB te) Γ C (fun b C' => P (B b) C') := fun σ H s Q q => h σ H s _ fun v x C2 H2 a r p => by
  obtain ⟨b, rfl⟩ := hb x C2 p
  cases rx_bl r
  exact ⟨b, rfl, q b C2 H2 a p⟩
theorem ev_not {t : TT} {P : Bool → Cs → Prop} (h : EvT K t Γ C P) : EvT K (tNot t) Γ C (fun b C' => P (!b) C') := fun σ H s Q q => h σ H s _ fun b C2 H2 a p => q (!b) C2 H2 a (by show P (!!b) C2; rw [Bool.not_not]; exact p)
theorem ev_or {t u : TT} {a : Bool} {P : Bool → Cs → Prop} (h1 : PuT K t Γ C a) (h2 : a = false → EvT K u Γ C P) : EvT K (tOr t u) Γ C (fun b C' => (a = true ∧ b = true ∧ C' = C) ∨ (a = false ∧ P b C')) := fun σ H s Q q => h1 σ H s _ fun H1 a1 => by
  cases a with
  | true =>
    show Q true H1
    exact q true C H1 a1 (.inl ⟨rfl, rfl, rfl⟩)
  | false =>
    show u σ H1 Q
    exact h2 rfl σ H1 (a1.sta s) Q fun b C2 H2 a2 p => q b C2 H2 (a1.trans a2) (.inr ⟨rfl, p⟩)
theorem EvT.imp {t : TT} {P P' : Bool → Cs → Prop} (h : EvT K t Γ C P) (k : ∀ b C, P b C → P' b C) : EvT K t Γ C P' := fun σ H s Q q => h σ H s Q fun b C2 H2 a p => q b C2 H2 a (k _ _ p)
/-- what is passed and changed: the store at the end is the caller's -/
theorem rt_mut {R : Ax → Cs → Prop} {C1 : Cs} {d : PyData} (sb : ∀ a, (C a).isSome = true → (C1 a).isSome = true) (cl : Clo C1) (h : R (.dat d) C1) : Rt C R (.dat d) C1 :=
  ⟨.dat d, C1, (fun _ _ e => e), sb, cl, .inl ⟨rfl, fun _ e => nomatch e⟩, h⟩
theorem Clo.put {p : Addr} {ds : List PyData} (cl : Clo C) : Clo (updC C p (.lst (ds.map .dat))) := fun a o e => by
  by_cases h : a = p
  · subst h
    rw [updC_same] at e
    cases e
    intro b hb
    obtain ⟨d, _, hd⟩ := List.mem_map.mp hb
    cases hd
  · rw [updC_ne h] at e
    have q := cl a o e
    cases o with
    | lst xs => exact fun b hb => updC_sub b (q b hb)
    | dic xs => exact fun b hb => updC_sub b (q b hb)
theorem dpa_app {H : Hp} : ∀ {us ws : List V} {xs ys : List PyData}, DpAll K H us xs → DpAll K H ws ys → DpAll K H (us ++ ws) (xs ++ ys)
  | _, _, _, _, .nil, k => k
  | _, _, _, _, .cons h t, k => .cons h (dpa_app t k)
theorem rxa_app {H : Hp} : ∀ {us ws : List V} {xs ys : List Ax}, RxA K C H us xs → RxA K C H ws ys → RxA K C H (us ++ ws) (xs ++ ys)
  | _, _, _, _, .nil, k => k
  | _, _, _, _, .cons h t, k => .cons h (rxa_app t k)
/-! ### lists put together -/
/-- two mutable lists -/
theorem pl_cat {p q : Addr} {xs ys : List Ax} (ha : Pu K ta Γ C (.ref p)) (hb : Pu K tb Γ C (.ref q)) (hp : C p = some (.lst xs)) (hq : C q = some (.lst ys)) (hn : xs.length + ys.length ≤ 100000) : PuL K (tOp rCat ta tb) Γ C (xs ++ ys) := fun σ H s Q k =>
  ha σ H s _ fun v H1 a1 r1 => hb σ H1 (a1.sta s) _ fun w H2 a2 r2 => by
    obtain ⟨rfl, _⟩ := r1
    obtain ⟨rfl, _⟩ := r2
    obtain ⟨us, e1, e2⟩ := a2.cells p _ hp
    obtain ⟨ws, e3, e4⟩ := a2.cells q _ hq
    exact ⟨p, q, us, ws, rfl, rfl, e1, e3, sz (by rw [e2.length, e4.length]; exact hn), fun n hn => k n _ H2 (a1.trans a2) hn (rxa_app e2 e4)⟩
/-- a mutable list and a new one -/
theorem pl_catN {p : Addr} {xs ys : List Ax} (ha : Pu K ta Γ C (.ref p)) (hb : PuL K tb Γ C ys) (hp : C p = some (.lst xs)) (hn : xs.length + ys.length ≤ 100000) : PuL K (tOp rCat ta tb) Γ C (xs ++ ys) := fun σ H s Q k =>
  ha σ H s _ fun v H1 a1 r1 => hb σ H1 (a1.sta s) _ fun q ws H2 a2 hq r2 => by
    obtain ⟨rfl, _⟩ := r1
    have a3 := Adv.new (o := .lst ws) a2.cells hq
    obtain ⟨us, e1, e2⟩ := a3.cells p _ hp
    refine ⟨p, q, us, ws, rfl, rfl, e1, upd_same, sz (by rw [e2.length, r2.length]; exact hn), fun n hn => ?_⟩
    exact k n _ _ ((a1.trans a2).trans a3) hn (rxa_app e2 (Paired.map2 r2 fun _ _ h => a3.rx h))
/-- a tuple and a tuple -/
theorem pu_catA {ds es : List PyData} (ha : Pu K ta Γ C (T ds)) (hb : Pu K tb Γ C (T es)) (hn : ds.length + es.length ≤ 100000) : Pu K (tOp (rCatA K) ta tb) Γ C (T (ds ++ es)) :=
  pu_op ha hb fun v w H c r1 r2 Q q => by
    cases r1 with
    | tup hs hd =>
      cases r2 with
      | tup hs2 hd2 =>
        rename_i a us b ws
        refine ⟨a, b, us, ws, rfl, rfl, SqT.up hid_le hs, SqT.up hid_le hs2, sz (by rw [hd.len, hd2.len]; exact hn), fun e => ?_, fun _ e => ?_, fun _ _ p hp => ?_⟩
        · subst e
          cases hd
          exact q _ H (Adv.refl c) (.tup hs2 hd2)
        · subst e
          cases hd2
          rw [List.append_nil] at q
          exact q _ H (Adv.refl c) (.tup hs hd)
        · have a4 := Adv.new (o := .tup (us ++ ws)) c hp
          refine q _ _ a4 (.tup (SqT.of (hid_of upd_same (c.free hp))) (DpAll.up a4.ex _ ?_))
          exact dpa_app hd hd2
theorem pu_slA {ds es : List PyData} {tl th : TO} {lo hi : Option Int} (h : Pu K te Γ C (T ds)) (h1 : PuO K tl Γ C lo) (h2 : PuO K th Γ C hi) (e : cutD ds lo hi = es) : Pu K (tSl (rSlA K) te tl th) Γ C (T es) := fun σ H s Q q =>
  h σ H s _ fun v H1 a1 r1 => h1 σ H1 (a1.sta s) _ fun H2 a2 => h2 σ H2 ((a1.trans a2).sta s) _ fun H3 a3 => by
    subst e
    cases (a2.trans a3).rx r1 with
    | tup hs hd =>
      rename_i ad us
      refine ⟨_, _, rfl, SqT.up hid_le hs, fun k => ?_, fun _ p hp => ?_⟩
      · refine q _ _ ((a1.trans a2).trans a3) (.tup hs ?_)
        rw [hd.len] at k
        unfold cutD
        rw [k.1, k.2, List.drop_zero, Nat.sub_zero, List.take_length]
        exact hd
      · have a4 := Adv.new (o := .tup (cutV us lo hi)) a3.cells hp
        exact q _ _ (((a1.trans a2).trans a3).trans a4) (.tup (SqT.of (hid_of upd_same (a3.cells.free hp))) (DpAll.up a4.ex _ (dpa_cut hd)))
/-! ### in a row of ints; truth; slices by written places -/
theorem inV_ints {s : Int} : ∀ ss : List Int, inV (.int s) (ss.map V.int) = decide (s ∈ ss)
  | [] => rfl
  | r :: ss => by
    have ih := inV_ints (s := s) ss
    have e : eqV (.int r) (.int s) = decide (r = s) := by
      show (r == s) = _
      exact Bool.beq_eq_decide_eq r s
    show (eqV (.int r) (.int s) || inV (.int s) (ss.map V.int)) = _
    rw [ih, e]
    by_cases h : r = s
    · subst h
      simp
    · have h' : s ≠ r := fun e => h e.symm
      simp [h, h']
theorem flat_ints : ∀ ss : List Int, (ss.map V.int).all flatV = true
  | [] => rfl
  | _ :: ss => flat_ints ss
theorem dpa_intsV {H : Hp} : ∀ {vs : List V} {ss : List Int}, DpAll K H vs (ss.map PyData.int) → vs = ss.map V.int
  | _, [], h => by cases h; rfl
  | _, s :: ss, h => by
    cases h with
    | cons h1 h2 =>
      cases h1
      rw [dpa_intsV h2]
      rfl
theorem pu_inI {s : Int} {ss : List Int} (ha : Pu K ta Γ C (I s)) (hb : Pu K tb Γ C (T (ss.map .int))) : Pu K (tOp (rIn K false) ta tb) Γ C (B (decide (s ∈ ss))) :=
  pu_op ha hb fun v w H c r1 r2 Q q => by
    cases rx_int r1
    cases r2 with
    | tup hs hd =>
      have e := dpa_intsV hd
      subst e
      refine ⟨_, _, rfl, .inr (SqT.up hid_le hs), rfl, flat_ints ss, ?_⟩
      rw [if_neg (by decide), inV_ints]
      exact q _ H (Adv.refl c) rx_B
theorem pu_notInI {s : Int} {ss : List Int} (ha : Pu K ta Γ C (I s)) (hb : Pu K tb Γ C (T (ss.map .int))) : Pu K (tOp (rIn K true) ta tb) Γ C (B (!decide (s ∈ ss))) :=
  pu_op ha hb fun v w H c r1 r2 Q q => by
    cases rx_int r1
    cases r2 with
    | tup hs hd =>
      have e := dpa_intsV hd
      subst e
      refine ⟨_, _, rfl, .inr (SqT.up hid_le hs), rfl, flat_ints ss, ?_⟩
      rw [if_pos rfl, inV_ints]
      exact q _ H (Adv.refl c) rx_B
abbrev tTruth (K : PySem.W.Frag) (te : TE) : TT := fun σ H Q => te σ H fun x H' => ∃ k, TruV K x H' k ∧ Q k H'
theorem ut_trT {ds : List PyData} (h : Pu K te Γ C (T ds)) : PuT K (tTruth K te) Γ C (!ds.isEmpty) := fun σ H s Q q => h σ H s _ fun v H1 a r => by
  cases r with
  | tup hs hd =>
    rename_i ad us
    refine ⟨!ds.isEmpty, .inr (.inl ⟨us, SqT.up hid_le hs, ?_⟩), q H1 a⟩
    have := hd.len
    cases us <;> cases ds <;> simp_all
theorem ut_trL {ds : List PyData} (h : Pu K te Γ C (Ls ds)) : PuT K (tTruth K te) Γ C (!ds.isEmpty) := fun σ H s Q q => h σ H s _ fun v H1 a r => by
  cases r with
  | lst hs hd =>
    rename_i ad us
    refine ⟨!ds.isEmpty, .inl ⟨us, SqL.up hid_le hs, ?_⟩, q H1 a⟩
    have := hd.len
    cases us <;> cases ds <;> simp_all
def isNoD : PyData → Bool
  | .none => true
  | _ => false
theorem pu_isN {d : PyData} (h : Pu K te Γ C (.dat d)) : Pu K (tIsN te) Γ C (B (isNoD d)) := fun σ H s Q q => h σ H s _ fun v H1 a r => by
  have e : decide (v = .non) = isNoD d := by cases d <;> cases r <;> rfl
  rw [e]
  exact q _ H1 a rx_B
theorem pu_notN {d : PyData} (h : Pu K te Γ C (.dat d)) : Pu K (tNotN te) Γ C (B (!isNoD d)) := fun σ H s Q q => h σ H s _ fun v H1 a r => by
  have e : decide (v = .non) = isNoD d := by cases d <;> cases r <;> rfl
  rw [e]
  exact q _ H1 a rx_B
end Ab

/-! Ab10: lists of lists that are passed and changed. -/
namespace Ab
open PySem PySem.Spec PyProof.Rows L2
variable {K : PySem.W.Frag} {An : Cs} {Γ Γ' : Gm} {C : Cs} {ta tb tc te to ti : TE} {x y z : Ax} {t u rest : TS} {c : TT} {E : En} {g : TG}
structure GridA (C1 : Cs) (p : Addr) (ps : List Addr) (fs : List (List PyData)) : Prop where
  top : C1 p = some (.lst (ps.map .ref))
  len : ps.length = fs.length
  row : ∀ (i : Nat) q, ps[i]? = some q → C1 q = some (.lst ((fs.getD i []).map .dat))
  nd : ps.Nodup
  apart : p ∉ ps
theorem Grid.toA {C1 : Cs} {p : Addr} {ps : List Addr} {fs : List (List PyData)} (G : Grid C C1 p ps fs) : GridA C1 p ps fs := ⟨G.top, G.len, G.row, G.nd, G.apart⟩
theorem GridA.put {C1 : Cs} {p q : Addr} {ps : List Addr} {fs : List (List PyData)} (G : GridA C1 p ps fs) {i : Nat} (hq : ps[i]? = some q) (f : List PyData) : GridA (updC C1 q (.lst (f.map .dat))) p ps (fs.set i f) := by
  have hm := List.mem_of_getElem? hq
  have hi : i < ps.length := (List.getElem?_eq_some_iff.mp hq).1
  have hpq : p ≠ q := fun e => G.apart (e ▸ hm)
  refine ⟨by rw [updC_ne hpq]; exact G.top, by rw [List.length_set]; exact G.len, fun j r hj => ?_, G.nd, G.apart⟩
  by_cases e : j = i
  · subst e
    cases hj.symm.trans hq
    rw [updC_same, List.getD_eq_getElem?_getD, List.getElem?_set_self (by rw [← G.len]; exact hi)]
    rfl
  · have hr : r ≠ q := fun e2 => e (nd_ix G.nd hj (e2 ▸ hq))
    rw [updC_ne hr, G.row j r hj, List.getD_eq_getElem?_getD, List.getD_eq_getElem?_getD, List.getElem?_set_ne (fun e2 => e e2.symm)]
theorem GridA.at_ {C1 : Cs} {p : Addr} {ps : List Addr} {fs : List (List PyData)} (G : GridA C1 p ps fs) {i : Nat} (hi : i < fs.length) : ∃ q, ps[i]? = some q ∧ C1 q = some (.lst ((fs.getD i []).map .dat)) ∧ atI (ps.map Ax.ref) (i : Int) = some (.ref q) := by
  have h : i < ps.length := by rw [G.len]; exact hi
  refine ⟨ps[i], List.getElem?_eq_getElem h, G.row i _ (List.getElem?_eq_getElem h), atI_nat ?_⟩
  rw [List.getElem?_map, List.getElem?_eq_getElem h]
  rfl
/-- only the rows' cells change -/
def Only (ps : List Addr) (C C1 : Cs) : Prop := ∀ a, a ∉ ps → C1 a = C a
theorem Only.refl {ps : List Addr} : Only ps C C := fun _ _ => rfl
theorem Only.put {ps : List Addr} {C1 : Cs} {q : Addr} {o : MO} (h : Only ps C C1) (hq : q ∈ ps) : Only ps C (updC C1 q o) := fun a ha => by
  rw [updC_ne (show a ≠ q from fun e => ha (by rw [e]; exact hq))]
  exact h a ha
theorem Only.trans {ps : List Addr} {C1 C2 : Cs} (a : Only ps C C1) (b : Only ps C1 C2) : Only ps C C2 := fun x h => (b x h).trans (a x h)
theorem Grid.ofA {C0 C1 C2 : Cs} {p : Addr} {ps : List Addr} {fs gs : List (List PyData)} (G : Grid C0 C1 p ps fs) (o : Only ps C1 C2) (A : GridA C2 p ps gs) : Grid C0 C2 p ps gs :=
  ⟨fun a h => by
    have na : a ∉ ps := fun hm => by rw [G.news a hm] at h; cases h
    exact (o a na).trans (G.mor a h), G.new, G.news, A.top, A.len, A.row, A.nd, A.apart⟩
theorem paired_of_get {α β : Type} {F : α → β → Prop} : ∀ {xs : List α} {ys : List β}, xs.length = ys.length → (∀ (i : Nat) x y, xs[i]? = some x → ys[i]? = some y → F x y) → Paired F xs ys
  | [], [], _, _ => .nil
  | x :: xs, y :: ys, hl, h => .cons (h 0 x y rfl rfl) (paired_of_get (by simpa using hl) fun i a b e1 e2 => h (i + 1) a b (by simpa using e1) (by simpa using e2))
/-- a grid handed back, as data -/
theorem Grid.dz {C1 : Cs} {p : Addr} {ps : List Addr} {fs : List (List PyData)} (G : Grid C C1 p ps fs) : Dz C1 C (.ref p) (.list (fs.map .list)) := by
  refine .lst G.top G.new (paired_of_get (by simp [G.len]) fun i x y e1 e2 => ?_)
  rw [List.getElem?_map] at e1 e2
  cases h1 : ps[i]? with
  | none => rw [h1] at e1; cases e1
  | some q =>
    cases h2 : fs[i]? with
    | none => rw [h2] at e2; cases e2
    | some f =>
      rw [h1] at e1
      rw [h2] at e2
      cases e1
      cases e2
      have := G.row i q h1
      rw [List.getD_eq_getElem?_getD, h2] at this
      exact dz_lst this (G.news q (List.mem_of_getElem? h1))
/-- [..] * n -/
theorem pl_rep {xs : List Ax} {n : Int} (ha : PuL K ta Γ C xs) (hb : Pu K tb Γ C (I n)) (h0 : 0 ≤ n) (h1 : n ≤ 1000) (hx : xs.length ≤ 100) : PuL K (tOp rRep ta tb) Γ C (List.replicate n.toNat xs).flatten := fun σ H s Q k =>
  ha σ H s _ fun p vs H1 a1 hp r1 => by
    have a2 := Adv.new (o := .lst vs) a1.cells hp
    refine hb σ _ ((a1.trans a2).sta s) _ fun w H2 a3 r3 => ?_
    cases rx_int r3
    have e1 : H2 p = some (.lst vs) := by
      have := a3.ex p _ (hid_of upd_same (a1.cells.free hp))
      exact hid_le _ _ this
    have hv : vs.length ≤ 100 := by rw [r1.length]; exact hx
    have hz : vs.length * n.toNat ≤ 100000 := Nat.le_trans (Nat.mul_le_mul hv (by omega : n.toNat ≤ 1000)) (by decide)
    refine ⟨p, n, vs, rfl, rfl, e1, by omega, by omega, sz hz, fun q hq => ?_⟩
    refine k q _ H2 ((a1.trans a2).trans a3) hq ?_
    have r4 : RxA K C H2 vs xs := Paired.map2 r1 fun _ _ h => (a2.trans a3).rx h
    generalize n.toNat = m
    induction m with
    | zero => exact .nil
    | succ m ih =>
      rw [List.replicate_succ, List.replicate_succ, List.flatten_cons, List.flatten_cons]
      exact rxa_app r4 ih
end Ab

/-! Ab11: the same at a block's end. -/
namespace Ab
open PySem PySem.Spec PyProof.Rows L2
variable {K : PySem.W.Frag} {An : Cs} {Γ Γ' : Gm} {C : Cs} {ta tb tc te to ti : TE} {x y z : Ax} {t u rest : TS} {c : TT} {E : En} {g : TG}
theorem ixk {n : Nat} {k : Int} (h0 : 0 ≤ k) (h : k < n) : ixN n k = some k.toNat := by
  have := Evl.ixN_nat (n := n) (j := k.toNat) (by omega)
  rwa [show ((k.toNat : Nat) : Int) = k by omega] at this
theorem ds_setix1 {a : Addr} {xs : List Ax} {k : Int} {j : Nat} (h : Pu K te Γ C y) (ho : Pu K to Γ C (.ref a)) (hi : Pu K ti Γ C (I k)) (hc : C a = some (.lst xs)) (hj : ixN xs.length k = some j) (kk : E.nx Γ (updC C a (.lst (xs.set j y)))) :
    Ds K An (tAsg te (gSub to ti rSetL)) E Γ C :=
  show Ds K An (tSeq (tAsg te (gSub to ti rSetL)) tNext) E Γ C from ds_setix h ho hi hc hj (ds_next kk)
theorem ds_setE1 {i : Nat} {P : Ax → Cs → Prop} (h : Ev K te Γ C P) (k : ∀ x C', P x C' → E.nx (Γ.set i (some x)) C') : Ds K An (tAsg te (gName i)) E Γ C :=
  show Ds K An (tSeq (tAsg te (gName i)) tNext) E Γ C from ds_setE h fun x C' p => ds_next (k x C' p)
theorem ds_tgt1 {vs : List Nat} (h : Pu K te Γ C x) (ht : Tg K g x Γ Γ' vs) (k : E.nx Γ' C) : Ds K An (tAsg te g) E Γ C :=
  show Ds K An (tSeq (tAsg te g) tNext) E Γ C from ds_tgt h ht (ds_next k)
theorem flatten_one {α : Type} (x : α) : ∀ n : Nat, (List.replicate n [x]).flatten = List.replicate n x
  | 0 => rfl
  | n + 1 => by rw [List.replicate_succ, List.flatten_cons, flatten_one x n, List.replicate_succ]; rfl
/-- a mutable list is changed by a def that a caller's data do not reach: nothing of it is forgotten -/
theorem atI_app {α : Type} (l : List α) (x : α) : atI (l ++ [x]) (-1) = some x := atI_last l x
end Ab

/-! Lm: what the laws' own helpers reckon, and what they promise. -/
namespace Lm
open PySem PySem.Spec PyProof.Rows L2 Ab
abbrev Rel := Cs → List Ax → (Ax → Cs → Prop) → Prop
/-! ### the mathematics -/
def cellM (ns : List Int) (k : Int) : Int := ns.getD k.toNat 0
def mixM (c : Int) (k : Int) : Int := ((c * 48271 + k * 69621) % 2147483647 * ((c * 48271 + k * 69621) % 2147483647) + c * 31 + k) % 1000003
def drawSt (c : Int) : Nat → Int × List Int
  | 0 => (c, [])
  | i + 1 => if (10 : Int) ^ (18 : Int).toNat ≤ c then ((drawSt c i).1 / 1009, (drawSt c i).2 ++ [(drawSt c i).1 % 1009]) else ((drawSt c i).1, (drawSt c i).2 ++ [mixM (drawSt c i).1 (0 + (i : Int))])
def drawsM (c n : Int) : List Int := (drawSt c n.toNat).2
theorem drawSt_len (c : Int) : ∀ i, (drawSt c i).2.length = i
  | 0 => rfl
  | i + 1 => by
    unfold drawSt
    split <;> simp [drawSt_len c i]
theorem drawSt_nn (c : Int) : ∀ i, ∀ d ∈ (drawSt c i).2, 0 ≤ d
  | 0 => fun d h => by cases h
  | i + 1 => fun d h => by
    unfold drawSt at h
    split at h
    · rcases List.mem_append.mp h with h | h
      · exact drawSt_nn c i d h
      · rw [List.mem_singleton.mp h]
        exact Int.emod_nonneg _ (by decide)
    · rcases List.mem_append.mp h with h | h
      · exact drawSt_nn c i d h
      · rw [List.mem_singleton.mp h]
        exact Int.emod_nonneg _ (by decide)
theorem drawsM_len {c n : Int} (h : 0 ≤ n) : ((drawsM c n).length : Int) = n := by
  unfold drawsM
  rw [drawSt_len]
  omega
theorem getD_nn {ns : List Int} (h : ∀ d ∈ ns, 0 ≤ d) (i : Nat) : 0 ≤ ns.getD i 0 := by
  rw [List.getD_eq_getElem?_getD]
  cases e : ns[i]? with
  | none => exact Int.le_refl _
  | some d => exact h d (List.mem_of_getElem? e)
/-- (makes, treats) -/
def pfD (f : Bool × Bool) : PyData := .tuple [.bool f.1, .bool f.2]
def flagsB (ns : List Int) (k : Nat) : Bool × Bool := (decide (ns.getD (1 + (0 + (k : Int))).toNat 0 % 2 = 0), decide (ns.getD (7 + (0 + (k : Int))).toNat 0 % 3 = 0))
def partiesB (ns : List Int) : List (Bool × Bool) := (List.range (2 + ns.getD 0 0 % 4).toNat).map (flagsB ns)
theorem partiesB_len (ns : List Int) : ((partiesB ns).length : Int) = 2 + ns.getD 0 0 % 4 := by
  unfold partiesB
  rw [List.length_map, List.length_range]
  omega
inductive Evt where
  | own (w : Str) (n p k a : Int)
  | hand (n g t k a : Int) (s : Bool)
  | pass (g t k a : Int)
  | sec (w : Str) (p k a : Int)
def evD : Evt → PyData
  | .own w n p k a => .tuple [.str w, .int n, .int p, .int k, .int a]
  | .hand n g t k a s => .tuple [.str "handed", .int n, .int g, .int t, .int k, .int a, .bool s]
  | .pass g t k a => .tuple [.str "passed", .int g, .int t, .int k, .int a]
  | .sec w p k a => .tuple [.str w, .int p, .int k, .int a]
/-- its parties are below m, its kind below kd, its word is one of those -/
def EvK (m kd : Nat) : Evt → Prop
  | .own w n p k a => w ∈ (["made", "treated", "found"] : List Str) ∧ 0 ≤ p ∧ p < m ∧ 0 ≤ k ∧ k < kd
  | .hand n g t k a s => 0 ≤ g ∧ g < m ∧ 0 ≤ t ∧ t < m ∧ 0 ≤ k ∧ k < kd
  | .pass g t k a => 0 ≤ g ∧ g < m ∧ 0 ≤ t ∧ t < m ∧ 0 ≤ k ∧ k < kd
  | .sec w p k a => w ∈ (["dumped", "conjured"] : List Str) ∧ 0 ≤ p ∧ p < m ∧ 0 ≤ k ∧ k < kd
theorem at2 {a b : Str} {i : Int} (h0 : 0 ≤ i) (h : i < 2) : atI [PyData.str a, .str b] i = some (.str (if i = 0 then a else b)) := by
  have e : i = 0 ∨ i = 1 := by omega
  rcases e with rfl | rfl <;> rfl
theorem at3 {a b c : Str} {i : Int} (h0 : 0 ≤ i) (h : i < 3) : atI [PyData.str a, .str b, .str c] i = some (.str (if i = 0 then a else if i = 1 then b else c)) := by
  have e : i = 0 ∨ i = 1 ∨ i = 2 := by omega
  rcases e with rfl | rfl | rfl <;> rfl
def numM (i : Int) : Int := if i < 4 then 1 else if i = 4 then 5 else 0
theorem at6 {i : Int} (h0 : 0 ≤ i) (h : i < 6) : atI [PyData.int 1, .int 1, .int 1, .int 1, .int 5, .int 0] i = some (.int (numM i)) := by
  have e : i = 0 ∨ i = 1 ∨ i = 2 ∨ i = 3 ∨ i = 4 ∨ i = 5 := by omega
  rcases e with rfl | rfl | rfl | rfl | rfl | rfl <;> rfl
def w3 (i : Int) : Str := if i = 0 then "made" else if i = 1 then "made" else "treated"
def w2 (i : Int) : Str := if i = 0 then "dumped" else "conjured"
def eventM (ns : List Int) (many kinds number : Int) : Evt :=
  if ns.getD 0 0 % 9 < 3 then .own (w3 (ns.getD 0 0 % 9)) number (ns.getD 1 0 % many) (ns.getD 3 0 % kinds) (1 + ns.getD 4 0 % 6)
  else if ns.getD 0 0 % 9 = 3 then .own "found" number (ns.getD 1 0 % many) (ns.getD 3 0 % kinds) (ns.getD 4 0 % 8)
  else if ns.getD 0 0 % 9 < 6 then .hand number (ns.getD 1 0 % many) (ns.getD 2 0 % many) (ns.getD 3 0 % kinds) (1 + ns.getD 4 0 % 6) (decide (ns.getD 5 0 % 2 = 0))
  else if ns.getD 0 0 % 9 = 6 then .pass (ns.getD 1 0 % many) (ns.getD 2 0 % many) (ns.getD 3 0 % kinds) (1 + ns.getD 4 0 % 6)
  else .sec (w2 (ns.getD 0 0 % 9 - 7)) (ns.getD 1 0 % many) (ns.getD 3 0 % kinds) (1 + ns.getD 4 0 % 6)
theorem eventM_k {ns : List Int} {many kinds : Nat} {number : Int} (h : 0 < many) (hk : 0 < kinds) : EvK many kinds (eventM ns many kinds number) := by
  have hp : ∀ x : Int, 0 ≤ x % (many : Int) ∧ x % (many : Int) < many := fun x => ⟨Int.emod_nonneg _ (by omega), Int.emod_lt_of_pos _ (by omega)⟩
  have hq : ∀ x : Int, 0 ≤ x % (kinds : Int) ∧ x % (kinds : Int) < kinds := fun x => ⟨Int.emod_nonneg _ (by omega), Int.emod_lt_of_pos _ (by omega)⟩
  unfold eventM
  split
  · refine ⟨?_, (hp _).1, (hp _).2, hq _⟩
    unfold w3
    split
    · simp
    · split <;> simp
  · split
    · exact ⟨by simp, (hp _).1, (hp _).2, hq _⟩
    · split
      · exact ⟨(hp _).1, (hp _).2, (hp _).1, (hp _).2, hq _⟩
      · split
        · exact ⟨(hp _).1, (hp _).2, (hp _).1, (hp _).2, hq _⟩
        · refine ⟨?_, (hp _).1, (hp _).2, hq _⟩
          unfold w2
          split <;> simp
def evSt (ns : List Int) (at_ many kinds : Int) : Nat → Int × List Evt
  | 0 => (0, [])
  | i + 1 =>
    let d := drawsM (cellM ns (at_ + 1 + (0 + (i : Int)))) 7
    let n := (evSt ns at_ many kinds i).1 + numM (d.getD 6 0 % 6)
    (n, (evSt ns at_ many kinds i).2 ++ [eventM d many kinds (if n > 1 then n else 1)])
def eventsM (ns : List Int) (at_ most many kinds : Int) : List Evt := (evSt ns at_ many kinds (cellM ns at_ % (most + 1)).toNat).2
theorem evSt_len (ns : List Int) (at_ many kinds : Int) : ∀ i, (evSt ns at_ many kinds i).2.length = i
  | 0 => rfl
  | i + 1 => by simp [evSt, evSt_len ns at_ many kinds i]
theorem evSt_k (ns : List Int) (at_ : Int) {many kinds : Nat} (h : 0 < many) (hk : 0 < kinds) : ∀ i, ∀ e ∈ (evSt ns at_ many kinds i).2, EvK many kinds e
  | 0 => fun e he => by cases he
  | i + 1 => fun e he => by
    simp only [evSt, List.mem_append, List.mem_singleton] at he
    rcases he with he | rfl
    · exact evSt_k ns at_ h hk i e he
    · exact eventM_k h hk
theorem eventsM_len {ns : List Int} {at_ most many kinds : Int} (h : 0 ≤ most) : ((eventsM ns at_ most many kinds).length : Int) ≤ most := by
  unfold eventsM
  rw [evSt_len]
  have c0 : 0 ≤ cellM ns at_ % (most + 1) := Int.emod_nonneg _ (by omega)
  have c1 : cellM ns at_ % (most + 1) < most + 1 := Int.emod_lt_of_pos _ (by omega)
  omega
theorem str_ok {w : Str} {l : List Str} (h : w ∈ l) (k : l.all PyData.strOk = true) : PyData.strOk w = true := List.all_eq_true.mp k w h
theorem evk_sh {m kd : Nat} {e : Evt} (h : EvK m kd e) : Sh 1 (evD e) := by
  cases e with
  | own w n p k a => exact sh_tup (sh_cons (sh_str (str_ok h.1 (by decide +kernel))) (sh_cons sh_int (sh_cons sh_int (sh_cons sh_int (sh_cons sh_int sh_nil)))))
  | hand n g t k a s => exact sh_tup (sh_cons (sh_str (by decide +kernel)) (sh_cons sh_int (sh_cons sh_int (sh_cons sh_int (sh_cons sh_int (sh_cons sh_int (sh_cons sh_bool sh_nil)))))))
  | pass g t k a => exact sh_tup (sh_cons (sh_str (by decide +kernel)) (sh_cons sh_int (sh_cons sh_int (sh_cons sh_int (sh_cons sh_int sh_nil)))))
  | sec w p k a => exact sh_tup (sh_cons (sh_str (str_ok h.1 (by decide +kernel))) (sh_cons sh_int (sh_cons sh_int (sh_cons sh_int sh_nil))))
theorem mapget {α β : Type} {f : α → β} {l : List α} {i : Nat} {y : β} (h : (l.map f)[i]? = some y) : ∃ a, l[i]? = some a ∧ y = f a := by
  rw [List.getElem?_map] at h
  cases e : l[i]? with
  | none => rw [e] at h; cases h
  | some a => rw [e] at h; cases h; exact ⟨a, rfl, rfl⟩
def rel__law_cell : Rel := fun C xs R => ∃ (ns : List Int) (k : Int), xs = [Ls (ns.map .int), I k] ∧ 0 ≤ k ∧ R (I (cellM ns k)) C
def rel__law_draws : Rel := fun C xs R => ∃ (c n : Int), xs = [I c, I n] ∧ 0 ≤ n ∧ n ≤ 1000 ∧ R (Ls ((drawsM c n).map .int)) C
def rel__law_parties : Rel := fun C xs R => ∃ (ns : List Int), xs = [Ls (ns.map .int)] ∧ 12 ≤ ns.length ∧ R (T ((partiesB ns).map pfD)) C
def rel__law_event : Rel := fun C xs R => ∃ (ns : List Int) (many kinds number : Int), xs = [Ls (ns.map .int), I many, I kinds, I number] ∧ 7 ≤ ns.length ∧ (∀ d ∈ ns, 0 ≤ d) ∧ 0 < many ∧ 0 < kinds ∧ R (.dat (evD (eventM ns many kinds number))) C
def rel__law_events : Rel := fun C xs R => ∃ (ns : List Int) (at_ most many kinds : Int), xs = [Ls (ns.map .int), I at_, I most, I many, I kinds] ∧ 0 ≤ at_ ∧ 0 ≤ most ∧ most ≤ 1000 ∧ 0 < many ∧ 0 < kinds ∧ R (Ls ((eventsM ns at_ most many kinds).map evD)) C
end Lm

/-! Gm2: all groups of some parties, the smaller ones first. -/
namespace Lm
open PySem PySem.Spec PyProof.Rows L2 Ab
def grD (g : List Int) : PyData := .tuple (g.map .int)
def begM (g : List Int) : Int := match g.getLast? with
  | none => 0
  | some x => x + 1
def extM (many : Int) (g : List Int) : List (List Int) := (List.range (many - begM g).toNat).map fun (j : Nat) => g ++ [begM g + (j : Int)]
def lonM (many : Int) (s : Nat) (f : List (List Int)) : List (List Int) := f.flatMap fun g => if g.length = s then extM many g else []
def grpSt (many : Int) : Nat → List (List Int)
  | 0 => [[]]
  | s + 1 => grpSt many s ++ lonM many s (grpSt many s)
def groupsM (many : Int) : List (List Int) := grpSt many many.toNat
def sgM (draw many : Int) : List Int := (groupsM many).getD (draw % ((groupsM many).length : Int)).toNat []
theorem grp_len : ∀ many : Fin 6, ∀ s : Fin 7, (grpSt (many.val : Int) s.val).length ≤ 64 ∧ (lonM (many.val : Int) s.val (grpSt (many.val : Int) s.val)).length ≤ 64 ∧ 1 ≤ (grpSt (many.val : Int) s.val).length := by decide +kernel
theorem grp_bound {many : Int} (h0 : 0 ≤ many) (h1 : many ≤ 5) {s : Nat} (hs : s ≤ 5) : (grpSt many s).length ≤ 64 ∧ (lonM many s (grpSt many s)).length ≤ 64 ∧ 1 ≤ (grpSt many s).length := by
  have := grp_len ⟨many.toNat, by omega⟩ ⟨s, by omega⟩
  rw [show (((⟨many.toNat, by omega⟩ : Fin 6).val : Nat) : Int) = many by show ((many.toNat : Nat) : Int) = many; omega] at this
  exact this
theorem grp_in : ∀ many : Fin 6, ∀ s : Fin 7, (grpSt (many.val : Int) s.val).all (fun g => g.all (fun x => decide (0 ≤ x) && decide (x < (many.val : Int)))) = true := by decide +kernel
theorem grp_mem {many : Int} (h0 : 0 ≤ many) (h1 : many ≤ 5) {s : Nat} (hs : s ≤ 5) {g : List Int} (hg : g ∈ grpSt many s) : ∀ x ∈ g, 0 ≤ x ∧ x < many := fun x hx => by
  have := grp_in ⟨many.toNat, by omega⟩ ⟨s, by omega⟩
  rw [show (((⟨many.toNat, by omega⟩ : Fin 6).val : Nat) : Int) = many by show ((many.toNat : Nat) : Int) = many; omega] at this
  have := List.all_eq_true.mp (List.all_eq_true.mp this g hg) x hx
  rw [Bool.and_eq_true] at this
  exact ⟨of_decide_eq_true this.1, of_decide_eq_true this.2⟩
theorem begM_in {many : Int} (h0 : 0 ≤ many) (h1 : many ≤ 5) {s : Nat} (hs : s ≤ 5) {g : List Int} (hg : g ∈ grpSt many s) : 0 ≤ begM g ∧ begM g ≤ 5 := by
  unfold begM
  cases e : g.getLast? with
  | none => exact ⟨Int.le_refl _, by decide⟩
  | some x =>
    have := grp_mem h0 h1 hs hg x (List.mem_of_getLast? e)
    exact ⟨by show 0 ≤ x + 1; omega, by show x + 1 ≤ 5; omega⟩
theorem extM_get {many : Int} {g : List Int} {j : Nat} (h : j < (many - begM g).toNat) : (extM many g)[j]? = some (g ++ [begM g + (j : Int)]) := by
  unfold extM
  rw [List.getElem?_map, List.getElem?_range h]
  rfl
theorem extM_len {many : Int} {g : List Int} : (extM many g).length = (many - begM g).toNat := by simp [extM]
def rel__law_groups : Rel := fun C xs R => ∃ (many : Int), xs = [I many] ∧ 0 ≤ many ∧ many ≤ 5 ∧ R (Ls ((groupsM many).map grD)) C
def rel__law_some_group : Rel := fun C xs R => ∃ (draw many : Int), xs = [I draw, I many] ∧ 0 ≤ many ∧ many ≤ 5 ∧ R (T ((sgM draw many).map .int)) C
theorem flat_pre {α β : Type} (f : α → List β) (l : List α) (i : Nat) (x : α) (h : l[i]? = some x) : (l.take (i + 1)).flatMap f = (l.take i).flatMap f ++ f x := by
  rw [List.take_add_one, h, List.flatMap_append]
  simp
theorem flat_le {α β : Type} (f : α → List β) (l : List α) (i : Nat) : ((l.take i).flatMap f).length ≤ (l.flatMap f).length := by
  have e : l.flatMap f = (l.take i).flatMap f ++ (l.drop i).flatMap f := by rw [← List.flatMap_append, List.take_append_drop]
  rw [e, List.length_append]
  omega
end Lm

/-! Hm: what can happen: stocks behind a history. -/
namespace Hm
open PySem PySem.Spec PyProof.Rows L2 Ab Lm
abbrev Stk := List (List Int)
def rowD (r : List Int) : List PyData := r.map .int
def rowsD (st : Stk) : List (List PyData) := st.map rowD
def getM (st : Stk) (p k : Int) : Int := (st.getD p.toNat []).getD k.toNat 0
def addM (st : Stk) (p k a : Int) : Stk := st.set p.toNat ((st.getD p.toNat []).set k.toNat (getM st p k + a))
/-- m rows of kd -/
def Shp (m kd : Nat) (st : Stk) : Prop := st.length = m ∧ ∀ r ∈ st, r.length = kd
theorem Shp.row {m kd : Nat} {st : Stk} (h : Shp m kd st) {i : Nat} (hi : i < m) : (st.getD i []).length = kd := by
  rw [List.getD_eq_getElem?_getD, List.getElem?_eq_getElem (by rw [h.1]; exact hi)]
  exact h.2 _ (List.getElem_mem _)
theorem Shp.add {m kd : Nat} {st : Stk} (h : Shp m kd st) {p k a : Int} (hp : p.toNat < m) : Shp m kd (addM st p k a) := by
  refine ⟨by simp [addM, h.1], fun r hr => ?_⟩
  rcases List.mem_or_eq_of_mem_set hr with hr | rfl
  · exact h.2 r hr
  · rw [List.length_set]
    exact h.row hp
theorem rowsD_len (st : Stk) : (rowsD st).length = st.length := List.length_map _
theorem rowsD_get (st : Stk) (i : Nat) : (rowsD st).getD i [] = rowD (st.getD i []) := by
  unfold rowsD
  rw [List.getD_eq_getElem?_getD, List.getD_eq_getElem?_getD, List.getElem?_map]
  cases st[i]? <;> rfl
theorem rowsD_set (st : Stk) (i : Nat) (r : List Int) : (rowsD st).set i (rowD r) = rowsD (st.set i r) := by
  unfold rowsD
  rw [List.map_set]
theorem rowD_set (r : List Int) (k : Nat) (a : Int) : (rowD r).set k (.int a) = rowD (r.set k a) := by
  unfold rowD
  rw [List.map_set]
theorem s_tm : ((Str.ofString "treated") = (Str.ofString "made")) = False := eq_false (by decide)
theorem s_fm : ((Str.ofString "found") = (Str.ofString "made")) = False := eq_false (by decide)
theorem s_ft : ((Str.ofString "found") = (Str.ofString "treated")) = False := eq_false (by decide)
theorem s_cd : ((Str.ofString "conjured") = (Str.ofString "dumped")) = False := eq_false (by decide)
/-- as it happens -/
def hapM (st : Stk) : Evt → Option Stk
  | .own w n p k a => if w = "made" then some (addM st p k a) else if w = "treated" then (if getM st p k < a then none else some (addM st p k (-a))) else if getM st p k = a then some st else none
  | .hand n g t k a s => if getM st g k < a then none else some (addM (addM st g k (-a)) t k a)
  | .pass g t k a => if getM st g k < a then none else some (addM (addM st g k (-a)) t k a)
  | .sec w p k a => if w = "dumped" then (if getM st p k < a then none else some (addM st p k (-a))) else some (addM st p k a)
def pfAt (pf : List (Bool × Bool)) (p : Int) : Bool × Bool := pf.getD p.toNat (false, false)
/-- what does not depend on the stocks -/
def alwM (pf : List (Bool × Bool)) (grp : List Int) : Evt → Bool
  | .own w n p k a => if w = "made" then (pfAt pf p).1 else if w = "treated" then (pfAt pf p).2 else true
  | .hand n g t k a s => !decide (g = t)
  | .pass g t k a => !decide (g = t) && (decide (g ∈ grp) && decide (t ∈ grp))
  | .sec w p k a => if w = "dumped" then decide (p ∈ grp) else (pfAt pf p).1 && decide (p ∈ grp)
def stepM (pf : List (Bool × Bool)) (grp : List Int) (st : Stk) (e : Evt) : Option Stk := if alwM pf grp e = true then hapM st e else none
def runM (pf : List (Bool × Bool)) (grp : List Int) : Stk → List Evt → Option Stk
  | st, [] => some st
  | st, e :: es => (stepM pf grp st e).bind fun st' => runM pf grp st' es
theorem runM_app (pf : List (Bool × Bool)) (grp : List Int) : ∀ (es fs : List Evt) (st : Stk), runM pf grp st (es ++ fs) = (runM pf grp st es).bind fun st' => runM pf grp st' fs
  | [], fs, st => rfl
  | e :: es, fs, st => by
    show (stepM pf grp st e).bind _ = ((stepM pf grp st e).bind _).bind _
    cases stepM pf grp st e with
    | none => rfl
    | some st' => exact runM_app pf grp es fs st'
theorem runM_snoc {pf : List (Bool × Bool)} {grp : List Int} {es : List Evt} {st st' : Stk} {i : Nat} {e : Evt} (he : es[i]? = some e) (h : runM pf grp st (es.take i) = some st') : runM pf grp st (es.take (i + 1)) = stepM pf grp st' e := by
  rw [List.take_add_one, he, runM_app, h]
  show (stepM pf grp st' e).bind _ = _
  cases stepM pf grp st' e <;> rfl
theorem runM_stop {pf : List (Bool × Bool)} {grp : List Int} {es : List Evt} {st : Stk} {i : Nat} (h : runM pf grp st (es.take i) = none) : runM pf grp st es = none := by
  have e := runM_app pf grp (es.take i) (es.drop i) st
  rw [List.take_append_drop, h] at e
  exact e
def st0 (m kd : Nat) : Stk := List.replicate m (List.replicate kd 0)
theorem st0_shp (m kd : Nat) : Shp m kd (st0 m kd) := ⟨by simp [st0], fun r hr => by rw [(List.mem_replicate.mp hr).2]; simp⟩
theorem hapM_shp {m kd : Nat} {st st' : Stk} {e : Evt} (h : Shp m kd st) (ek : EvK m kd e) (hs : hapM st e = some st') : Shp m kd st' := by
  cases e with
  | own w n p k a =>
    have hp : p.toNat < m := by have := ek.2; omega
    simp only [hapM] at hs
    split at hs
    · cases hs; exact h.add hp
    · split at hs
      · split at hs
        · cases hs
        · cases hs; exact h.add hp
      · split at hs
        · cases hs; exact h
        · cases hs
  | hand n g t k a s =>
    obtain ⟨g0, g1, t0, t1, _⟩ := ek
    simp only [hapM] at hs
    split at hs
    · cases hs
    · cases hs; exact (h.add (by omega)).add (by omega)
  | pass g t k a =>
    obtain ⟨g0, g1, t0, t1, _⟩ := ek
    simp only [hapM] at hs
    split at hs
    · cases hs
    · cases hs; exact (h.add (by omega)).add (by omega)
  | sec w p k a =>
    have hp : p.toNat < m := by have := ek.2; omega
    simp only [hapM] at hs
    split at hs
    · split at hs
      · cases hs
      · cases hs; exact h.add hp
    · cases hs; exact h.add hp
theorem stepM_shp {pf : List (Bool × Bool)} {grp : List Int} {m kd : Nat} {st st' : Stk} {e : Evt} (h : Shp m kd st) (ek : EvK m kd e) (hs : stepM pf grp st e = some st') : Shp m kd st' := by
  unfold stepM at hs
  split at hs
  · exact hapM_shp h ek hs
  · cases hs
def optD : Option Stk → PyData
  | none => .none
  | some st => .list ((rowsD st).map .list)
theorem optD_sh (o : Option Stk) : Sh 2 (optD o) := by
  cases o with
  | none => exact sh_none.mono (by decide)
  | some st =>
    refine sh_list fun d hd => ?_
    obtain ⟨r, hr, rfl⟩ := List.mem_map.mp hd
    refine sh_list fun d hd => ?_
    obtain ⟨r', _, rfl⟩ := List.mem_map.mp hr
    obtain ⟨i, _, rfl⟩ := List.mem_map.mp hd
    exact sh_int
def isNumM : Evt → Bool
  | .own .. => true
  | .hand .. => true
  | _ => false
def partsD : Evt → List PyData
  | .own w n p k a => [.int p, .int k, .int a]
  | .hand n g t k a s => [.int g, .int t, .int k, .int a, .bool s]
  | .pass g t k a => [.int g, .int t, .int k, .int a]
  | .sec w p k a => [.int p, .int k, .int a]
def rel_is_numbered : Rel := fun C xs R => ∃ (m kd : Nat) (e : Evt), xs = [.dat (evD e)] ∧ EvK m kd e ∧ R (B (isNumM e)) C
def rel_parts_of : Rel := fun C xs R => ∃ (m kd : Nat) (e : Evt), xs = [.dat (evD e)] ∧ EvK m kd e ∧ R (T (partsD e)) C
def rel__takes_away : Rel := fun C xs R => ∃ (q : Addr) (row : List Int) (k a : Int) (j : Nat), xs = [.ref q, I k, I a] ∧ C q = some (.lst ((rowD row).map .dat)) ∧ k = (j : Int) ∧ j < row.length ∧
  (if row.getD j 0 < a then R (B false) C else R (B true) (updC C q (.lst ((rowD (row.set j (row.getD j 0 - a))).map .dat))))
def rel__happens : Rel := fun C xs R => ∃ (p : Addr) (ps : List Addr) (st : Stk) (m kd : Nat) (e : Evt), xs = [.ref p, .dat (evD e)] ∧ GridA C p ps (rowsD st) ∧ Shp m kd st ∧ EvK m kd e ∧
  (match hapM st e with
  | some st' => ∀ C', Only ps C C' → GridA C' p ps (rowsD st') → R (B true) C'
  | none => R (B false) C)
def rel__is_allowed : Rel := fun C xs R => ∃ (pf : List (Bool × Bool)) (grp : List Int) (kd : Nat) (e : Evt), xs = [T (pf.map pfD), T (grp.map .int), .dat (evD e)] ∧ EvK pf.length kd e ∧ R (B (alwM pf grp e)) C
def rel_stocks : Rel := fun C xs R => ∃ (kd : Nat) (pf : List (Bool × Bool)) (grp : List Int) (es : List Evt), xs = [I kd, T (pf.map pfD), T (grp.map .int), Ls (es.map evD)] ∧ kd ≤ 100 ∧ pf.length ≤ 100 ∧ es.length ≤ 1000 ∧ (∀ e ∈ es, EvK pf.length kd e) ∧
  R (.dat (optD (runM pf grp (st0 pf.length kd) es))) C
def rel__law_played : Rel := rel_stocks
theorem pf_at {pf : List (Bool × Bool)} {p : Int} (h0 : 0 ≤ p) (h : p < pf.length) : atI (pf.map pfD) p = some (pfD (pfAt pf p)) := by
  have hp : p.toNat < pf.length := by omega
  have : atI (pf.map pfD) ((p.toNat : Nat) : Int) = some (pfD (pfAt pf p)) := atI_nat (by
    rw [List.getElem?_map, List.getElem?_eq_getElem hp]
    unfold pfAt
    rw [List.getD_eq_getElem?_getD, List.getElem?_eq_getElem hp]
    rfl)
  rwa [show ((p.toNat : Nat) : Int) = p by omega] at this
/-- a row of the grid, an item of the row -/
theorem grid_row {C : Cs} {p : Addr} {ps : List Addr} {st : Stk} {m kd : Nat} (G : GridA C p ps (rowsD st)) (h : Shp m kd st) {i : Int} (h0 : 0 ≤ i) (h1 : i < m) :
    ∃ q, ps[i.toNat]? = some q ∧ q ∈ ps ∧ C q = some (.lst ((rowD (st.getD i.toNat [])).map .dat)) ∧ atI (ps.map Ax.ref) i = some (.ref q) := by
  obtain ⟨q, a, b, c⟩ := G.at_ (i := i.toNat) (by rw [rowsD_len, h.1]; omega)
  rw [rowsD_get] at b
  rw [show ((i.toNat : Nat) : Int) = i by omega] at c
  exact ⟨q, a, List.mem_of_getElem? a, b, c⟩
theorem row_get {row : List Int} {k : Int} (h0 : 0 ≤ k) (h : k < row.length) : ((rowD row).map Ax.dat)[k.toNat]? = some (I (row.getD k.toNat 0)) := by
  have hk : k.toNat < row.length := by omega
  unfold rowD
  rw [List.getElem?_map, List.getElem?_map, List.getD_eq_getElem?_getD, List.getElem?_eq_getElem hk]
  rfl
theorem row_at {row : List Int} {k : Int} (h0 : 0 ≤ k) (h : k < row.length) : atI ((rowD row).map Ax.dat) k = some (I (row.getD k.toNat 0)) := by
  have := atI_nat (row_get h0 h)
  rwa [show ((k.toNat : Nat) : Int) = k by omega] at this
theorem row_set (row : List Int) (k : Nat) (a : Int) : ((rowD row).map Ax.dat).set k (I a) = (rowD (row.set k a)).map .dat := by
  rw [← rowD_set, List.map_set]
theorem grid_add {C : Cs} {p q : Addr} {ps : List Addr} {st : Stk} {i k a : Int} (G : GridA C p ps (rowsD st)) (hq : ps[i.toNat]? = some q) : GridA (updC C q (.lst ((rowD ((st.getD i.toNat []).set k.toNat (getM st i k + a))).map .dat))) p ps (rowsD (addM st i k a)) := by
  have := G.put hq (rowD ((st.getD i.toNat []).set k.toNat (getM st i k + a)))
  rwa [rowsD_set] at this
end Hm

namespace K20
open PySem PySem.Spec PyProof.Rows L2 Ab Lm Hm
def topS (i : Nat) : Stmt := PySem.Challenge.pw_notetrail_k20_what_can_happen.main.body.getD i (.Pass ⟨0, 0, 0, 0⟩)
section
variable {P : Program} {w : World} {K : PySem.W.Frag} {mg : Str → Option Value} {base : Heap}
abbrev s_is_numbered : Stmt := topS 1
abbrev N_is_numbered : List Str := ["event"]
theorem sc_is_numbered : FnScope N_is_numbered ["event"] (defScope s_is_numbered) := ⟨rfl, rfl, rfl, by decide +kernel, rfl, by decide +kernel, by decide +kernel⟩

theorem ok_is_numbered {f_is_numbered : Addr} {fd_is_numbered : FuncData} (F_is_numbered : Fun K "is_numbered" "is_numbered" s_is_numbered f_is_numbered fd_is_numbered) : FnOk P w K mg base CX0 1 f_is_numbered fd_is_numbered ["event"] (SpG K rel_is_numbered) := by
  refine ok_def F_is_numbered sc_is_numbered (fun C xs R h => by obtain ⟨_, _, _, rfl, _⟩ := h; rfl) (fun cdv A outer s H E hr => ?_)
  refine ⟨_, (pss_one (ps_ret (pe_cmpR (kx_in K rfl) (pe_ix (kx_ixT K rfl) (pv 0) pe_int (fun _ _ => rfl)) (pe_tup (pa_cons pe_str (pa_cons pe_str (pa_cons pe_str (pa_cons pe_str pa_nil))))) (by rfl)))), ?_⟩
  rintro C xs R cl ⟨m, kd, e, rfl, ek, q⟩
  cases e with
  | own w n p k a =>
    refine ds_ret (pu_is (pu_in (ss := ["made", "treated", "handed", "found"]) (pu_ixT (pu_var rfl) pu_int rfl) (pu_tup (ds := [.str "made", .str "treated", .str "handed", .str "found"]) (au_cons pu_str (au_cons pu_str (au_cons pu_str (au_cons pu_str au_nil)))) (lk rfl))) ?_) (rt_dat cl Mor.refl q)
    have h := ek.1
    simp only [List.mem_cons, List.not_mem_nil, or_false] at h
    rcases h with rfl | rfl | rfl <;> rfl
  | hand n g t k a s => exact ds_ret (pu_is (pu_in (ss := ["made", "treated", "handed", "found"]) (pu_ixT (pu_var rfl) pu_int rfl) (pu_tup (ds := [.str "made", .str "treated", .str "handed", .str "found"]) (au_cons pu_str (au_cons pu_str (au_cons pu_str (au_cons pu_str au_nil)))) (lk rfl))) rfl) (rt_dat cl Mor.refl q)
  | pass g t k a => exact ds_ret (pu_is (pu_in (ss := ["made", "treated", "handed", "found"]) (pu_ixT (pu_var rfl) pu_int rfl) (pu_tup (ds := [.str "made", .str "treated", .str "handed", .str "found"]) (au_cons pu_str (au_cons pu_str (au_cons pu_str (au_cons pu_str au_nil)))) (lk rfl))) rfl) (rt_dat cl Mor.refl q)
  | sec w p k a =>
    refine ds_ret (pu_is (pu_in (ss := ["made", "treated", "handed", "found"]) (pu_ixT (pu_var rfl) pu_int rfl) (pu_tup (ds := [.str "made", .str "treated", .str "handed", .str "found"]) (au_cons pu_str (au_cons pu_str (au_cons pu_str (au_cons pu_str au_nil)))) (lk rfl))) ?_) (rt_dat cl Mor.refl q)
    have h := ek.1
    simp only [List.mem_cons, List.not_mem_nil, or_false] at h
    rcases h with rfl | rfl <;> rfl

abbrev s_parts_of : Stmt := topS 2
abbrev N_parts_of : List Str := ["event"]
theorem sc_parts_of : FnScope N_parts_of ["event"] (defScope s_parts_of) := ⟨rfl, rfl, rfl, by decide +kernel, rfl, by decide +kernel, by decide +kernel⟩

theorem ok_parts_of {f_parts_of : Addr} {fd_parts_of : FuncData} (F_parts_of : Fun K "parts_of" "parts_of" s_parts_of f_parts_of fd_parts_of) {f_is_numbered : Addr} {fd_is_numbered : FuncData} (F_is_numbered : Fun K "is_numbered" "is_numbered" s_is_numbered f_is_numbered fd_is_numbered) (G_is_numbered : FnOk P w K mg base CX0 1 f_is_numbered fd_is_numbered ["event"] (SpG K rel_is_numbered)) (b_is_numbered : Binds K fd_is_numbered ["event"] []) (g_is_numbered : mg "is_numbered" = some (.ref f_is_numbered)) : FnOk P w K mg base CX0 2 f_parts_of fd_parts_of ["event"] (SpG K rel_parts_of) := by
  refine ok_def F_parts_of sc_parts_of (fun C xs R h => by obtain ⟨_, _, _, rfl, _⟩ := h; rfl) (fun cdv A outer s H E hr => ?_)
  refine ⟨_, (pss_one (ps_ret (pe_ifExp (pt_val (pe_call G_is_numbered (hr.mono (by decide)) (by rfl) g_is_numbered F_is_numbered.kp b_is_numbered .nil pass0 (pa_cons (pv 0) pa_nil))) (pe_slice (kx_slA K rfl) (pv 0) (po_some pe_int) po_none) (pe_slice (kx_slA K rfl) (pv 0) (po_some pe_int) po_none)))), ?_⟩
  rintro C xs R cl ⟨m, kd, e, rfl, ek, q⟩
  cases e with
  | own w n p k a => exact ds_ret (pu_if (ut_B (pu_call (au_cons (pu_var rfl) au_nil) ⟨m, kd, _, rfl, ek, rfl, rfl⟩)) (fun h => (pu_slA (pu_var rfl) (uo_some pu_int) uo_none rfl)) (fun h => by cases h)) (rt_dat cl Mor.refl q)
  | hand n g t k a s => exact ds_ret (pu_if (ut_B (pu_call (au_cons (pu_var rfl) au_nil) ⟨m, kd, _, rfl, ek, rfl, rfl⟩)) (fun h => (pu_slA (pu_var rfl) (uo_some pu_int) uo_none rfl)) (fun h => by cases h)) (rt_dat cl Mor.refl q)
  | pass g t k a => exact ds_ret (pu_if (ut_B (pu_call (au_cons (pu_var rfl) au_nil) ⟨m, kd, _, rfl, ek, rfl, rfl⟩)) (fun h => by cases h) (fun h => (pu_slA (pu_var rfl) (uo_some pu_int) uo_none rfl))) (rt_dat cl Mor.refl q)
  | sec w p k a => exact ds_ret (pu_if (ut_B (pu_call (au_cons (pu_var rfl) au_nil) ⟨m, kd, _, rfl, ek, rfl, rfl⟩)) (fun h => by cases h) (fun h => (pu_slA (pu_var rfl) (uo_some pu_int) uo_none rfl))) (rt_dat cl Mor.refl q)

abbrev s__takes_away : Stmt := topS 7
abbrev N__takes_away : List Str := ["own", "kind", "amount"]
theorem sc__takes_away : FnScope N__takes_away ["own", "kind", "amount"] (defScope s__takes_away) := ⟨rfl, rfl, rfl, by decide +kernel, rfl, by decide +kernel, by decide +kernel⟩

theorem ok__takes_away {f__takes_away : Addr} {fd__takes_away : FuncData} (F__takes_away : Fun K "_takes_away" "_takes_away" s__takes_away f__takes_away fd__takes_away) : FnOk P w K mg base CX0 1 f__takes_away fd__takes_away ["own", "kind", "amount"] (SpG K rel__takes_away) := by
  refine ok_def F__takes_away sc__takes_away (fun C xs R h => by obtain ⟨_, _, _, _, _, rfl, _⟩ := h; rfl) (fun cdv A outer s H E hr => ?_)
  refine ⟨_, (pss_cons (ps_if (pt_cmpR op_lt (pe_ix (kx_ixL K rfl) (pv 0) (pv 1) (fun _ _ => rfl)) (pv 2) (nomark _)) (pss_one (ps_ret pe_bl)) pss_nil)
  (pss_cons (ps_augS (pv 0) (pv 1) (kx_getL K rfl) (pv 2) ip_sub set_list)
  (pss_one (ps_ret pe_bl)))), ?_⟩
  rintro C xs R cl ⟨q, row, k, a, j, rfl, hc, rfl, hj, r⟩
  have hx := row_at (row := row) (k := (j : Int)) (by omega) (by omega)
  have hg := row_get (row := row) (k := (j : Int)) (by omega) (by omega)
  rw [show ((j : Int)).toNat = j by omega] at hx hg
  refine ds_ifs (ut_test (pu_lt (pu_ixM (pu_var rfl) (pu_var rfl) hc hx) (pu_var rfl))) (fun h => ?_) (fun h => ?_)
  · rw [if_pos (of_decide_eq_true h)] at r
    exact ds_retseq (ds_ret pu_bl (rt_dat cl Mor.refl r))
  · rw [if_neg (of_decide_eq_false h)] at r
    refine ds_nextseq (ds_augix (pu_var rfl) (pu_var rfl) (pu_var rfl) hc rfl hg ?_)
    rw [row_set]
    exact ds_ret pu_bl (rt_mut updC_sub cl.put r)

abbrev s__happens : Stmt := topS 6
abbrev N__happens : List Str := ["have", "event", "word", "giver", "taker", "kind", "amount", "party"]
theorem sc__happens : FnScope N__happens ["have", "event"] (defScope s__happens) := ⟨rfl, rfl, rfl, by decide +kernel, rfl, by decide +kernel, by decide +kernel⟩

theorem ok__happens {f__happens : Addr} {fd__happens : FuncData} (F__happens : Fun K "_happens" "_happens" s__happens f__happens fd__happens) {f__takes_away : Addr} {fd__takes_away : FuncData} (F__takes_away : Fun K "_takes_away" "_takes_away" s__takes_away f__takes_away fd__takes_away) (G__takes_away : FnOk P w K mg base CX0 1 f__takes_away fd__takes_away ["own", "kind", "amount"] (SpG K rel__takes_away)) (b__takes_away : Binds K fd__takes_away ["own", "kind", "amount"] []) (g__takes_away : mg "_takes_away" = some (.ref f__takes_away)) {f_parts_of : Addr} {fd_parts_of : FuncData} (F_parts_of : Fun K "parts_of" "parts_of" s_parts_of f_parts_of fd_parts_of) (G_parts_of : FnOk P w K mg base CX0 2 f_parts_of fd_parts_of ["event"] (SpG K rel_parts_of)) (b_parts_of : Binds K fd_parts_of ["event"] []) (g_parts_of : mg "parts_of" = some (.ref f_parts_of)) : FnOk P w K mg base CX0 3 f__happens fd__happens ["have", "event"] (SpG K rel__happens) := by
  refine ok_def F__happens sc__happens (fun C xs R h => by obtain ⟨_, _, _, _, _, _, rfl, _⟩ := h; rfl) (fun cdv A outer s H E hr => ?_)
  refine ⟨_, (pss_cons (ps_set (i := 2) sc__happens.nd rfl (Or.inl rfl) (pe_ix (kx_ixT K rfl) (pv 1) pe_int (fun _ _ => rfl)))
  (pss_cons (ps_if (pt_cmpR (kx_in K rfl) (pv 2) (pe_tup (pa_cons pe_str (pa_cons pe_str pa_nil))) (by rfl)) (pss_cons (ps_asg (pe_slice (kx_slA K rfl) (pe_call G_parts_of (hr.mono (by decide)) (by rfl) g_parts_of F_parts_of.kp b_parts_of .nil pass0 (pa_cons (pv 1) pa_nil)) po_none (po_some pe_int)) (pg_tup rfl (pgs_cons (pg_name (i := 3) sc__happens.nd rfl (Or.inl rfl)) (pgs_cons (pg_name (i := 4) sc__happens.nd rfl (Or.inl rfl)) (pgs_cons (pg_name (i := 5) sc__happens.nd rfl (Or.inl rfl)) (pgs_cons (pg_name (i := 6) sc__happens.nd rfl (Or.inl rfl)) pgs_nil))))))
  (pss_cons (ps_if (pt_not (pt_val (pe_call G__takes_away (hr.mono (by decide)) (by rfl) g__takes_away F__takes_away.kp b__takes_away .nil pass0 (pa_cons (pe_ix (kx_ixL K rfl) (pv 0) (pv 3) (fun _ _ => rfl)) (pa_cons (pv 5) (pa_cons (pv 6) pa_nil)))))) (pss_one (ps_ret pe_bl)) pss_nil)
  (pss_cons (ps_augS (pe_ix (kx_ixL K rfl) (pv 0) (pv 4) (fun _ _ => rfl)) (pv 5) (kx_getL K rfl) (pv 6) ip_add set_list)
  (pss_one (ps_ret pe_bl))))) pss_nil)
  (pss_cons (ps_asg (pe_call G_parts_of (hr.mono (by decide)) (by rfl) g_parts_of F_parts_of.kp b_parts_of .nil pass0 (pa_cons (pv 1) pa_nil)) (pg_tup rfl (pgs_cons (pg_name (i := 7) sc__happens.nd rfl (Or.inl rfl)) (pgs_cons (pg_name (i := 5) sc__happens.nd rfl (Or.inl rfl)) (pgs_cons (pg_name (i := 6) sc__happens.nd rfl (Or.inl rfl)) pgs_nil)))))
  (pss_cons (ps_if (pt_cmpR op_eq (pv 2) pe_str (nomark _)) (pss_one (ps_ret (pe_cmpR op_eq (pe_ix (kx_ixL K rfl) (pe_ix (kx_ixL K rfl) (pv 0) (pv 7) (fun _ _ => rfl)) (pv 5) (fun _ _ => rfl)) (pv 6) (nomark _)))) pss_nil)
  (pss_cons (ps_if (pt_cmpR (kx_in K rfl) (pv 2) (pe_tup (pa_cons pe_str (pa_cons pe_str pa_nil))) (by rfl)) (pss_one (ps_ret (pe_call G__takes_away (hr.mono (by decide)) (by rfl) g__takes_away F__takes_away.kp b__takes_away .nil pass0 (pa_cons (pe_ix (kx_ixL K rfl) (pv 0) (pv 7) (fun _ _ => rfl)) (pa_cons (pv 5) (pa_cons (pv 6) pa_nil)))))) pss_nil)
  (pss_cons (ps_augS (pe_ix (kx_ixL K rfl) (pv 0) (pv 7) (fun _ _ => rfl)) (pv 5) (kx_getL K rfl) (pv 6) ip_add set_list)
  (pss_one (ps_ret pe_bl)))))))), ?_⟩
  rintro C xs R cl ⟨p, ps, st, m, kd, e, rfl, G, hS, ek, q⟩
  cases e with
  | hand n g t k a s =>
    obtain ⟨g0, g1, t0, t1, k0, k1⟩ := id ek
    refine ds_set (pu_ixT (pu_var rfl) pu_int rfl) ?_
    refine ds_ifs (ut_test (pu_in (ss := ["handed", "passed"]) (pu_var rfl) (pu_tup (ds := [.str "handed", .str "passed"]) (au_cons pu_str (au_cons pu_str au_nil)) (lk rfl)))) (fun hc => ?_) (fun hc => absurd hc (by decide))
    refine ds_tgt (pu_slA (pu_call (au_cons (pu_var rfl) au_nil) ⟨m, kd, _, rfl, ek, rfl, rfl⟩) uo_none (uo_some pu_int) rfl) (tg_tup (tgl_cons tg_name (tgl_cons tg_name (tgl_cons tg_name (tgl_cons tg_name tgl_nil)))) rfl) ?_
    obtain ⟨q1, a1, a2, a3, a4⟩ := grid_row G hS g0 g1
    have l1 := hS.row (i := g.toNat) (by omega)
    refine ds_ifsE (ev_not (ev_B (ev_call (P := fun x C' => (getM st g k < a ∧ x = B false ∧ C' = C) ∨ (¬ getM st g k < a ∧ x = B true ∧ C' = updC C q1 (.lst ((rowD ((st.getD g.toNat []).set k.toNat (getM st g k + -a))).map .dat)))) (au_cons (pu_ixM (pu_var rfl) (pu_var rfl) G.top a4) (au_cons (pu_var rfl) (au_cons (pu_var rfl) au_nil))) ⟨q1, st.getD g.toNat [], k, a, k.toNat, rfl, a3, by omega, by omega, ?_⟩) ?_)) (fun C' h => ?_) (fun C' h => ?_)
    · by_cases hk : getM st g k < a
      · rw [if_pos (show (st.getD g.toNat []).getD k.toNat 0 < a from hk)]
        exact .inl ⟨hk, rfl, rfl⟩
      · rw [if_neg (show ¬ (st.getD g.toNat []).getD k.toNat 0 < a from hk)]
        exact .inr ⟨hk, rfl, rfl⟩
    · rintro x C' (⟨_, rfl, _⟩ | ⟨_, rfl, _⟩) <;> exact ⟨_, rfl⟩
    · rcases h with ⟨hk, _, rfl⟩ | ⟨_, h, _⟩
      · simp only [hapM, if_pos hk] at q
        exact ds_retseq (ds_ret pu_bl (rt_dat cl Mor.refl q))
      · cases h
    · rcases h with ⟨_, h, _⟩ | ⟨hk, _, rfl⟩
      · cases h
      simp only [hapM, if_neg hk] at q
      have G1 := grid_add (a := -a) (k := k) G a1
      have S1 := hS.add (p := g) (k := k) (a := -a) (by omega)
      obtain ⟨q2, b1, b2, b3, b4⟩ := grid_row G1 S1 t0 t1
      have l2 := S1.row (i := t.toNat) (by omega)
      refine ds_nextseq (ds_augix (pu_ixM (pu_var rfl) (pu_var rfl) G1.top b4) (pu_var rfl) (pu_var rfl) b3 (j := k.toNat) (by omega) (row_get k0 (by omega)) ?_)
      rw [row_set]
      exact ds_ret pu_bl (rt_mut (fun b hb => updC_sub b (updC_sub b hb)) cl.put.put (q _ ((Only.refl.put a2).put b2) (grid_add G1 b1)))
  | pass g t k a =>
    obtain ⟨g0, g1, t0, t1, k0, k1⟩ := id ek
    refine ds_set (pu_ixT (pu_var rfl) pu_int rfl) ?_
    refine ds_ifs (ut_test (pu_in (ss := ["handed", "passed"]) (pu_var rfl) (pu_tup (ds := [.str "handed", .str "passed"]) (au_cons pu_str (au_cons pu_str au_nil)) (lk rfl)))) (fun hc => ?_) (fun hc => absurd hc (by decide))
    refine ds_tgt (pu_slA (pu_call (au_cons (pu_var rfl) au_nil) ⟨m, kd, _, rfl, ek, rfl, rfl⟩) uo_none (uo_some pu_int) rfl) (tg_tup (tgl_cons tg_name (tgl_cons tg_name (tgl_cons tg_name (tgl_cons tg_name tgl_nil)))) rfl) ?_
    obtain ⟨q1, a1, a2, a3, a4⟩ := grid_row G hS g0 g1
    have l1 := hS.row (i := g.toNat) (by omega)
    refine ds_ifsE (ev_not (ev_B (ev_call (P := fun x C' => (getM st g k < a ∧ x = B false ∧ C' = C) ∨ (¬ getM st g k < a ∧ x = B true ∧ C' = updC C q1 (.lst ((rowD ((st.getD g.toNat []).set k.toNat (getM st g k + -a))).map .dat)))) (au_cons (pu_ixM (pu_var rfl) (pu_var rfl) G.top a4) (au_cons (pu_var rfl) (au_cons (pu_var rfl) au_nil))) ⟨q1, st.getD g.toNat [], k, a, k.toNat, rfl, a3, by omega, by omega, ?_⟩) ?_)) (fun C' h => ?_) (fun C' h => ?_)
    · by_cases hk : getM st g k < a
      · rw [if_pos (show (st.getD g.toNat []).getD k.toNat 0 < a from hk)]
        exact .inl ⟨hk, rfl, rfl⟩
      · rw [if_neg (show ¬ (st.getD g.toNat []).getD k.toNat 0 < a from hk)]
        exact .inr ⟨hk, rfl, rfl⟩
    · rintro x C' (⟨_, rfl, _⟩ | ⟨_, rfl, _⟩) <;> exact ⟨_, rfl⟩
    · rcases h with ⟨hk, _, rfl⟩ | ⟨_, h, _⟩
      · simp only [hapM, if_pos hk] at q
        exact ds_retseq (ds_ret pu_bl (rt_dat cl Mor.refl q))
      · cases h
    · rcases h with ⟨_, h, _⟩ | ⟨hk, _, rfl⟩
      · cases h
      simp only [hapM, if_neg hk] at q
      have G1 := grid_add (a := -a) (k := k) G a1
      have S1 := hS.add (p := g) (k := k) (a := -a) (by omega)
      obtain ⟨q2, b1, b2, b3, b4⟩ := grid_row G1 S1 t0 t1
      have l2 := S1.row (i := t.toNat) (by omega)
      refine ds_nextseq (ds_augix (pu_ixM (pu_var rfl) (pu_var rfl) G1.top b4) (pu_var rfl) (pu_var rfl) b3 (j := k.toNat) (by omega) (row_get k0 (by omega)) ?_)
      rw [row_set]
      exact ds_ret pu_bl (rt_mut (fun b hb => updC_sub b (updC_sub b hb)) cl.put.put (q _ ((Only.refl.put a2).put b2) (grid_add G1 b1)))
  | own w n i k a =>
    obtain ⟨hw, i0, i1, k0, k1⟩ := id ek
    obtain ⟨q1, a1, a2, a3, a4⟩ := grid_row G hS i0 i1
    have l1 := hS.row (i := i.toNat) (by omega)
    simp only [List.mem_cons, List.not_mem_nil, or_false] at hw
    refine ds_set (pu_ixT (pu_var rfl) pu_int rfl) ?_
    refine ds_ifs (ut_test (pu_in (ss := ["handed", "passed"]) (pu_var rfl) (pu_tup (ds := [.str "handed", .str "passed"]) (au_cons pu_str (au_cons pu_str au_nil)) (lk rfl)))) (fun hc => ?_) (fun hc => ?_)
    · rcases hw with rfl | rfl | rfl <;> exact absurd hc (by decide)
    refine ds_nextseq (ds_tgt (pu_call (au_cons (pu_var rfl) au_nil) ⟨m, kd, _, rfl, ek, rfl, rfl⟩) (tg_tup (tgl_cons tg_name (tgl_cons tg_name (tgl_cons tg_name tgl_nil))) rfl) ?_)
    refine ds_ifs (ut_test (pu_eqStr (pu_var rfl) pu_str)) (fun hc => ?_) (fun hc => ?_)
    · have e : w = "found" := of_decide_eq_true hc
      subst e
      have q : (match (if getM st i k = a then some st else none) with
        | some st' => ∀ C', Only ps C C' → GridA C' p ps (rowsD st') → R (B true) C'
        | none => R (B false) C) := q
      refine ds_retseq (ds_ret (pu_eqI (pu_ixM (pu_ixM (pu_var rfl) (pu_var rfl) G.top a4) (pu_var rfl) a3 (row_at k0 (by omega))) (pu_var rfl)) ?_)
      by_cases hk : getM st i k = a
      · rw [if_pos hk] at q
        rw [decide_eq_true (show (st.getD i.toNat []).getD k.toNat 0 = a from hk)]
        exact rt_dat cl Mor.refl (q C Only.refl G)
      · rw [if_neg hk] at q
        rw [decide_eq_false (show ¬ (st.getD i.toNat []).getD k.toNat 0 = a from hk)]
        exact rt_dat cl Mor.refl q
    refine ds_nextseq (ds_ifs (ut_test (pu_in (ss := ["treated", "dumped"]) (pu_var rfl) (pu_tup (ds := [.str "treated", .str "dumped"]) (au_cons pu_str (au_cons pu_str au_nil)) (lk rfl)))) (fun hd => ?_) (fun hd => ?_))
    · have e : w = "treated" := by
        rcases hw with rfl | rfl | rfl
        · exact absurd hd (by decide)
        · rfl
        · exact absurd hd (by decide)
      subst e
      have q : (match (if getM st i k < a then none else some (addM st i k (-a))) with
        | some st' => ∀ C', Only ps C C' → GridA C' p ps (rowsD st') → R (B true) C'
        | none => R (B false) C) := q
      refine ds_retseq (ds_retE (ev_call (P := Rt C R) (au_cons (pu_ixM (pu_var rfl) (pu_var rfl) G.top a4) (au_cons (pu_var rfl) (au_cons (pu_var rfl) au_nil))) ⟨q1, st.getD i.toNat [], k, a, k.toNat, rfl, a3, by omega, by omega, ?_⟩) (fun x C' h => h))
      by_cases hk : getM st i k < a
      · rw [if_pos hk] at q
        rw [if_pos (show (st.getD i.toNat []).getD k.toNat 0 < a from hk)]
        exact rt_dat cl Mor.refl q
      · rw [if_neg hk] at q
        rw [if_neg (show ¬ (st.getD i.toNat []).getD k.toNat 0 < a from hk)]
        exact rt_mut updC_sub cl.put (q _ (Only.refl.put a2) (grid_add (a := -a) G a1))
    · have e : w = "made" := by
        rcases hw with rfl | rfl | rfl
        · rfl
        · exact absurd hd (by decide)
        · exact absurd hc (by decide)
      subst e
      refine ds_nextseq (ds_augix (pu_ixM (pu_var rfl) (pu_var rfl) G.top a4) (pu_var rfl) (pu_var rfl) a3 (j := k.toNat) (by omega) (row_get k0 (by omega)) ?_)
      rw [row_set]
      exact ds_ret pu_bl (rt_mut updC_sub cl.put (q _ (Only.refl.put a2) (grid_add G a1)))
  | sec w i k a =>
    obtain ⟨hw, i0, i1, k0, k1⟩ := id ek
    obtain ⟨q1, a1, a2, a3, a4⟩ := grid_row G hS i0 i1
    have l1 := hS.row (i := i.toNat) (by omega)
    simp only [List.mem_cons, List.not_mem_nil, or_false] at hw
    refine ds_set (pu_ixT (pu_var rfl) pu_int rfl) ?_
    refine ds_ifs (ut_test (pu_in (ss := ["handed", "passed"]) (pu_var rfl) (pu_tup (ds := [.str "handed", .str "passed"]) (au_cons pu_str (au_cons pu_str au_nil)) (lk rfl)))) (fun hc => ?_) (fun hc => ?_)
    · rcases hw with rfl | rfl <;> exact absurd hc (by decide)
    refine ds_nextseq (ds_tgt (pu_call (au_cons (pu_var rfl) au_nil) ⟨m, kd, _, rfl, ek, rfl, rfl⟩) (tg_tup (tgl_cons tg_name (tgl_cons tg_name (tgl_cons tg_name tgl_nil))) rfl) ?_)
    refine ds_ifs (ut_test (pu_eqStr (pu_var rfl) pu_str)) (fun hc => ?_) (fun hc => ?_)
    · rcases hw with rfl | rfl <;> exact absurd hc (by decide)
    refine ds_nextseq (ds_ifs (ut_test (pu_in (ss := ["treated", "dumped"]) (pu_var rfl) (pu_tup (ds := [.str "treated", .str "dumped"]) (au_cons pu_str (au_cons pu_str au_nil)) (lk rfl)))) (fun hd => ?_) (fun hd => ?_))
    · have e : w = "dumped" := by
        rcases hw with rfl | rfl
        · rfl
        · exact absurd hd (by decide)
      subst e
      have q : (match (if getM st i k < a then none else some (addM st i k (-a))) with
        | some st' => ∀ C', Only ps C C' → GridA C' p ps (rowsD st') → R (B true) C'
        | none => R (B false) C) := q
      refine ds_retseq (ds_retE (ev_call (P := Rt C R) (au_cons (pu_ixM (pu_var rfl) (pu_var rfl) G.top a4) (au_cons (pu_var rfl) (au_cons (pu_var rfl) au_nil))) ⟨q1, st.getD i.toNat [], k, a, k.toNat, rfl, a3, by omega, by omega, ?_⟩) (fun x C' h => h))
      by_cases hk : getM st i k < a
      · rw [if_pos hk] at q
        rw [if_pos (show (st.getD i.toNat []).getD k.toNat 0 < a from hk)]
        exact rt_dat cl Mor.refl q
      · rw [if_neg hk] at q
        rw [if_neg (show ¬ (st.getD i.toNat []).getD k.toNat 0 < a from hk)]
        exact rt_mut updC_sub cl.put (q _ (Only.refl.put a2) (grid_add (a := -a) G a1))
    · have e : w = "conjured" := by
        rcases hw with rfl | rfl
        · exact absurd hd (by decide)
        · rfl
      subst e
      refine ds_nextseq (ds_augix (pu_ixM (pu_var rfl) (pu_var rfl) G.top a4) (pu_var rfl) (pu_var rfl) a3 (j := k.toNat) (by omega) (row_get k0 (by omega)) ?_)
      rw [row_set]
      exact ds_ret pu_bl (rt_mut updC_sub cl.put (q _ (Only.refl.put a2) (grid_add G a1)))

abbrev s__law_cell : Stmt := topS 9
abbrev N__law_cell : List Str := ["script", "k"]
theorem sc__law_cell : FnScope N__law_cell ["script", "k"] (defScope s__law_cell) := ⟨rfl, rfl, rfl, by decide +kernel, rfl, by decide +kernel, by decide +kernel⟩

theorem ok__law_cell {f__law_cell : Addr} {fd__law_cell : FuncData} (F__law_cell : Fun K "_law_cell" "_law_cell" s__law_cell f__law_cell fd__law_cell) (z_len : mg "len" = none) : FnOk P w K mg base CX0 1 f__law_cell fd__law_cell ["script", "k"] (SpG K rel__law_cell) := by
  refine ok_def F__law_cell sc__law_cell (fun C xs R h => by obtain ⟨_, _, rfl, _⟩ := h; rfl) (fun cdv A outer s H E hr => ?_)
  refine ⟨_, (pss_cons (ps_if (pt_cmpR op_lt (pv 1) (pe_callB (kx_len K rfl) (by rfl) z_len PySem.boot_len (pa_cons (pv 0) pa_nil)) (nomark _)) (pss_one (ps_ret (pe_ix (kx_ixL K rfl) (pv 0) (pv 1) (fun _ _ => rfl)))) pss_nil)
  (pss_one (ps_ret pe_int))), ?_⟩
  rintro C xs R cl ⟨ns, k, rfl, h0, q⟩
  refine ds_ifs (ut_test (pu_lt (pu_var rfl) (pu_cb (au_cons (pu_var rfl) au_nil) rc_lenL))) (fun hc => ?_) (fun hc => ?_)
  · exact ds_retseq (ds_ret (pu_ixI (pu_var rfl) (pu_var rfl) h0 (by simpa using of_decide_eq_true hc)) (rt_dat cl Mor.refl q))
  · have e : cellM ns k = 0 := by
      have h := of_decide_eq_false hc
      rw [List.length_map] at h
      unfold cellM
      rw [List.getD_eq_getElem?_getD, List.getElem?_eq_none (by omega)]
      rfl
    rw [e] at q
    exact ds_nextseq (ds_ret pu_int (rt_dat cl Mor.refl q))

abbrev s__law_draws : Stmt := topS 10
abbrev N__law_draws : List Str := ["cell", "count", "found", "is_wide", "k", "mixed"]
theorem sc__law_draws : FnScope N__law_draws ["cell", "count"] (defScope s__law_draws) := ⟨rfl, rfl, rfl, by decide +kernel, rfl, by decide +kernel, by decide +kernel⟩

theorem ok__law_draws {f__law_draws : Addr} {fd__law_draws : FuncData} (F__law_draws : Fun K "_law_draws" "_law_draws" s__law_draws f__law_draws fd__law_draws) (z_range : mg "range" = none) : FnOk P w K mg base CX0 1 f__law_draws fd__law_draws ["cell", "count"] (SpG K rel__law_draws) := by
  refine ok_def F__law_draws sc__law_draws (fun C xs R h => by obtain ⟨_, _, rfl, _⟩ := h; rfl) (fun cdv A outer s H E hr => ?_)
  refine ⟨_, (pss_cons (ps_set (i := 2) sc__law_draws.nd rfl (Or.inl rfl) (pe_lst pa_nil))
  (pss_cons (ps_set (i := 3) sc__law_draws.nd rfl (Or.inl rfl) (pe_cmpR op_ge (pv 0) (pe_op op_pow pe_int pe_int) (nomark _)))
  (pss_cons (ps_for PassesOwn.never rfl (pi_range1 (by rfl) z_range (pa_cons (pv 1) pa_nil)) (pg_name (i := 4) sc__law_draws.nd rfl (Or.inl rfl)) (pss_one (ps_if (pt_val (pv 3)) (pss_cons (ps_expr (pe_bm PySem.F.plainAttrs_list PySem.F.slot_list_append PySem.F.type_list_append mt_append (pv 2) (pa_cons (pe_op op_mod (pv 0) pe_int) pa_nil)))
  (pss_one (ps_set (i := 0) sc__law_draws.nd rfl (Or.inl rfl) (pe_op op_fdiv (pv 0) pe_int)))) (pss_cons (ps_set (i := 5) sc__law_draws.nd rfl (Or.inl rfl) (pe_op op_mod (pe_op op_add (pe_op op_mul (pv 0) pe_int) (pe_op op_mul (pv 4) pe_int)) pe_int))
  (pss_one (ps_expr (pe_bm PySem.F.plainAttrs_list PySem.F.slot_list_append PySem.F.type_list_append mt_append (pv 2) (pa_cons (pe_op op_mod (pe_op op_add (pe_op op_add (pe_op op_mul (pv 5) (pv 5)) (pe_op op_mul (pv 0) pe_int)) (pv 4)) pe_int) pa_nil))))))))
  (pss_one (ps_ret (pv 2)))))), ?_⟩
  rintro C xs R cl ⟨c, n, rfl, h0, h1, q⟩
  refine ds_new (pl_lst au_nil (by decide)) fun p hp => ?_
  refine ds_set (pu_ge (pu_var rfl) (pu_pow pu_int pu_int ⟨by decide, by decide, by decide⟩)) ?_
  refine ds_forS (fun i Δ C' => Δ = [some (I (drawSt c i).1), some (I n), some (.ref p), some (B (decide ((10 : Int) ^ (18 : Int).toNat ≤ c))), none, none] ∧ C' = updC C p (.lst (((drawSt c i).2.map PyData.int).map .dat)))
    (ui_rng1 (au_cons (pu_var rfl) au_nil) (by omega)) ⟨_, Le.refl _, rfl, rfl⟩ (fun _ _ _ _ => trivial) ?_ ?_
  · rintro i x Δ C' hx ⟨rfl, rfl⟩
    obtain ⟨hi, rfl⟩ := rngD_get hx
    have hz : (((drawSt c i).2.map PyData.int).map Ax.dat).length < 100000 := by simp [drawSt_len]; omega
    refine ⟨_, _, tg_name, ?_⟩
    refine ds_if (ut_B (pu_var rfl)) (fun hc => ?_) (fun hc => ?_)
    · have hc := of_decide_eq_true hc
      refine ds_drop (ev_app (pu_var rfl) (pu_mod (pu_var rfl) pu_int (by decide)) updC_same hz) ?_
      rintro _ _ ⟨rfl, rfl⟩
      refine ds_set1 (pu_fdiv (pu_var rfl) pu_int ⟨by decide, by decide⟩) ⟨_, ?_, rfl, ?_⟩
      · rw [drawSt, if_pos hc]
        exact ⟨rfl, rfl, rfl, rfl, trivial⟩
      · rw [updC_updC, drawSt, if_pos hc, List.map_append, List.map_append]
        rfl
    · have hc := of_decide_eq_false hc
      refine ds_set (pu_mod (pu_add (pu_mul (pu_var rfl) pu_int (.inr ⟨by decide, by decide⟩)) (pu_mul (pu_var rfl) pu_int (.inr ⟨by decide, by decide⟩))) pu_int (by decide)) ?_
      refine ds_drop1 (ev_app (pu_var rfl) (pu_mod (pu_add (pu_add (pu_mul (pu_var rfl) (pu_var rfl) ?_) (pu_mul (pu_var rfl) pu_int (.inr ⟨by decide, by decide⟩))) (pu_var rfl)) pu_int (by decide)) updC_same hz) ?_
      · exact .inl (by omega)
      · rintro _ _ ⟨rfl, rfl⟩
        refine ⟨_, ?_, rfl, ?_⟩
        · rw [drawSt, if_neg hc]
          exact ⟨rfl, rfl, rfl, rfl, trivial⟩
        · rw [updC_updC, drawSt, if_neg hc, List.map_append, List.map_append]
          rfl
  · rintro Δ C' ⟨rfl, rfl⟩
    rw [rngD_len]
    exact ds_ret (pu_var rfl) (rt_fz cl (Mor.upd hp) (dz_lst updC_same hp) q)

abbrev s__law_parties : Stmt := topS 11
abbrev N__law_parties : List Str := ["draws", "k"]
theorem sc__law_parties : FnScope N__law_parties ["draws"] (defScope s__law_parties) := ⟨rfl, rfl, rfl, by decide +kernel, rfl, by decide +kernel, by decide +kernel⟩

theorem ok__law_parties {f__law_parties : Addr} {fd__law_parties : FuncData} (F__law_parties : Fun K "_law_parties" "_law_parties" s__law_parties f__law_parties fd__law_parties) (z_range : mg "range" = none) (z_tuple : mg "tuple" = none) : FnOk P w K mg base CX0 1 f__law_parties fd__law_parties ["draws"] (SpG K rel__law_parties) := by
  refine ok_def F__law_parties sc__law_parties (fun C xs R h => by obtain ⟨_, rfl, _⟩ := h; rfl) (fun cdv A outer s H E hr => ?_)
  refine ⟨_, (pss_one (ps_ret (pe_callTy (kx_tuple K rfl) (by rfl) z_tuple PyProof.Rows.boot_tuple (pa_cons (pe_lc (own := [("k", 1)]) rfl sc__law_parties.nd (pi_range1 (by rfl) z_range (pa_cons (pe_op op_add pe_int (pe_op op_mod (pe_ix (kx_ixL K rfl) (pv 0) pe_int (fun _ _ => rfl)) pe_int)) pa_nil)) (blkOk_by (N := N__law_parties) (sc := defScope s__law_parties) (by decide +kernel)) (fun _ _ _ _ _ => (pg_name (i := 1) sc__law_parties.nd rfl (Or.inl rfl))) (fun _ _ _ _ _ => pts_nil) (fun _ _ _ _ _ => (pe_tup (pa_cons (pe_cmpR op_eq (pe_op op_mod (pe_ix (kx_ixL K rfl) (pv 0) (pe_op op_add pe_int (pv 1)) (fun _ _ => rfl)) pe_int) pe_int (nomark _)) (pa_cons (pe_cmpR op_eq (pe_op op_mod (pe_ix (kx_ixL K rfl) (pv 0) (pe_op op_add pe_int (pv 1)) (fun _ _ => rfl)) pe_int) pe_int (nomark _)) pa_nil))))) pa_nil)))), ?_⟩
  rintro C xs R cl ⟨ns, rfl, hn, q⟩
  have fe : (partiesB ns).map pfD = ((List.range (2 + ns.getD 0 0 % 4).toNat).filter fun _ => true).map (fun k => pfD (flagsB ns k)) := by
    unfold partiesB
    rw [List.filter_eq_self.mpr (fun _ _ => rfl), List.map_map]
    rfl
  rw [fe] at q
  have e : (rngD 0 (2 + ns.getD 0 0 % 4).toNat).length = (2 + ns.getD 0 0 % 4).toNat := rngD_len
  rw [← e] at q
  refine ds_ret (pu_cb (au_cons ?_ au_nil) rc_tupL) (rt_dat cl Mor.refl q)
  refine pu_lc (fun _ => true) (fun k => pfD (flagsB ns k)) (ui_rng1 (au_cons (pu_add pu_int (pu_mod (pu_ixI (pu_var rfl) pu_int (by decide) (by omega)) pu_int (by decide))) au_nil) (by show 2 + ns.getD 0 0 % 4 ≤ 100000; omega) (by show -100000 ≤ 2 + ns.getD 0 0 % 4; omega)) (by rw [e]; omega) (fun _ _ => trivial) ?_
  intro i x C' m hx
  obtain ⟨hi, rfl⟩ := rngD_get hx
  refine ⟨_, [1], by simp, tg_name, ut_yes, fun _ => ?_⟩
  exact (pu_tup (ds := [_, _]) (au_cons (pu_eqI (pu_mod (pu_ixI (pu_var rfl) (pu_add pu_int (pu_var rfl)) (by omega) (by omega)) pu_int (by decide)) pu_int) (au_cons (pu_eqI (pu_mod (pu_ixI (pu_var rfl) (pu_add pu_int (pu_var rfl)) (by omega) (by omega)) pu_int (by decide)) pu_int) au_nil)) (lk rfl))

abbrev s__law_event : Stmt := topS 14
abbrev N__law_event : List Str := ["draws", "many", "kinds", "number", "one", "two", "kind", "amount", "form"]
theorem sc__law_event : FnScope N__law_event ["draws", "many", "kinds", "number"] (defScope s__law_event) := ⟨rfl, rfl, rfl, by decide +kernel, rfl, by decide +kernel, by decide +kernel⟩

theorem ok__law_event {f__law_event : Addr} {fd__law_event : FuncData} (F__law_event : Fun K "_law_event" "_law_event" s__law_event f__law_event fd__law_event) : FnOk P w K mg base CX0 1 f__law_event fd__law_event ["draws", "many", "kinds", "number"] (SpG K rel__law_event) := by
  refine ok_def F__law_event sc__law_event (fun C xs R h => by obtain ⟨_, _, _, _, rfl, _⟩ := h; rfl) (fun cdv A outer s H E hr => ?_)
  refine ⟨_, (pss_cons (ps_set (i := 4) sc__law_event.nd rfl (Or.inl rfl) (pe_op op_mod (pe_ix (kx_ixL K rfl) (pv 0) pe_int (fun _ _ => rfl)) (pv 1)))
  (pss_cons (ps_set (i := 5) sc__law_event.nd rfl (Or.inl rfl) (pe_op op_mod (pe_ix (kx_ixL K rfl) (pv 0) pe_int (fun _ _ => rfl)) (pv 1)))
  (pss_cons (ps_set (i := 6) sc__law_event.nd rfl (Or.inl rfl) (pe_op op_mod (pe_ix (kx_ixL K rfl) (pv 0) pe_int (fun _ _ => rfl)) (pv 2)))
  (pss_cons (ps_set (i := 7) sc__law_event.nd rfl (Or.inl rfl) (pe_op op_add pe_int (pe_op op_mod (pe_ix (kx_ixL K rfl) (pv 0) pe_int (fun _ _ => rfl)) pe_int)))
  (pss_cons (ps_set (i := 8) sc__law_event.nd rfl (Or.inl rfl) (pe_op op_mod (pe_ix (kx_ixL K rfl) (pv 0) pe_int (fun _ _ => rfl)) pe_int))
  (pss_cons (ps_if (pt_cmpR op_lt (pv 8) pe_int (nomark _)) (pss_one (ps_ret (pe_tup (pa_cons (pe_ix (kx_ixL K rfl) (pe_lst (pa_cons pe_str (pa_cons pe_str (pa_cons pe_str pa_nil)))) (pv 8) (fun _ _ => rfl)) (pa_cons (pv 3) (pa_cons (pv 4) (pa_cons (pv 6) (pa_cons (pv 7) pa_nil)))))))) pss_nil)
  (pss_cons (ps_if (pt_cmpR op_eq (pv 8) pe_int (nomark _)) (pss_one (ps_ret (pe_tup (pa_cons pe_str (pa_cons (pv 3) (pa_cons (pv 4) (pa_cons (pv 6) (pa_cons (pe_op op_mod (pe_ix (kx_ixL K rfl) (pv 0) pe_int (fun _ _ => rfl)) pe_int) pa_nil)))))))) pss_nil)
  (pss_cons (ps_if (pt_cmpR op_lt (pv 8) pe_int (nomark _)) (pss_one (ps_ret (pe_tup (pa_cons pe_str (pa_cons (pv 3) (pa_cons (pv 4) (pa_cons (pv 5) (pa_cons (pv 6) (pa_cons (pv 7) (pa_cons (pe_cmpR op_eq (pe_op op_mod (pe_ix (kx_ixL K rfl) (pv 0) pe_int (fun _ _ => rfl)) pe_int) pe_int (nomark _)) pa_nil)))))))))) pss_nil)
  (pss_cons (ps_if (pt_cmpR op_eq (pv 8) pe_int (nomark _)) (pss_one (ps_ret (pe_tup (pa_cons pe_str (pa_cons (pv 4) (pa_cons (pv 5) (pa_cons (pv 6) (pa_cons (pv 7) pa_nil)))))))) pss_nil)
  (pss_one (ps_ret (pe_tup (pa_cons (pe_ix (kx_ixL K rfl) (pe_lst (pa_cons pe_str (pa_cons pe_str pa_nil))) (pe_op op_sub (pv 8) pe_int) (fun _ _ => rfl)) (pa_cons (pv 4) (pa_cons (pv 6) (pa_cons (pv 7) pa_nil)))))))))))))))), ?_⟩
  rintro C xs R cl ⟨ns, many, kinds, number, rfl, hl, hn, hm, hk, q⟩
  have f0 : 0 ≤ ns.getD 0 0 % 9 := Int.emod_nonneg _ (by decide)
  have f9 : ns.getD 0 0 % 9 < 9 := Int.emod_lt_of_pos _ (by decide)
  refine ds_set (pu_mod (pu_ixI (pu_var rfl) pu_int (by decide) (by omega)) (pu_var rfl) hm) ?_   -- one = draws[1] % many
  refine ds_set (pu_mod (pu_ixI (pu_var rfl) pu_int (by decide) (by omega)) (pu_var rfl) hm) ?_   -- two = draws[2] % many
  refine ds_set (pu_mod (pu_ixI (pu_var rfl) pu_int (by decide) (by omega)) (pu_var rfl) hk) ?_   -- kind = draws[3] % kinds
  refine ds_set (pu_add pu_int (pu_mod (pu_ixI (pu_var rfl) pu_int (by decide) (by omega)) pu_int (by decide))) ?_   -- amount = 1 + draws[4] % 6
  refine ds_set (pu_mod (pu_ixI (pu_var rfl) pu_int (by decide) (by omega)) pu_int (by decide)) ?_   -- form = draws[0] % 9
  unfold eventM at q
  refine ds_ifs (ut_test (pu_lt (pu_var rfl) pu_int)) (fun hc => ?_) (fun hc => ?_)   -- if form < 3
  · have hc : ns.getD 0 0 % 9 < 3 := of_decide_eq_true hc
    rw [if_pos hc] at q
    refine ds_retseq (ds_ret (pu_tup (ds := [_, _, _, _, _]) (au_cons (pu_ixL (pu_fz (ds := [_, _, _]) (pl_lst (au_cons pu_str (au_cons pu_str (au_cons pu_str au_nil))) (lk rfl))) (pu_var rfl) (at3 f0 hc)) (au_cons (pu_var rfl) (au_cons (pu_var rfl) (au_cons (pu_var rfl) (au_cons (pu_var rfl) au_nil))))) (lk rfl)) (rt_dat cl Mor.refl ?_))
    exact q
  have hc : ¬ ns.getD 0 0 % 9 < 3 := of_decide_eq_false hc
  rw [if_neg hc] at q
  refine ds_nextseq (ds_ifs (ut_test (pu_eqI (pu_var rfl) pu_int)) (fun hc => ?_) (fun hc => ?_))   -- if form == 3
  · have hc : ns.getD 0 0 % 9 = 3 := of_decide_eq_true hc
    rw [if_pos hc] at q
    exact ds_retseq (ds_ret (pu_tup (ds := [_, _, _, _, _]) (au_cons pu_str (au_cons (pu_var rfl) (au_cons (pu_var rfl) (au_cons (pu_var rfl) (au_cons (pu_mod (pu_ixI (pu_var rfl) pu_int (by decide) (by omega)) pu_int (by decide)) au_nil))))) (lk rfl)) (rt_dat cl Mor.refl q))
  have hc : ¬ ns.getD 0 0 % 9 = 3 := of_decide_eq_false hc
  rw [if_neg hc] at q
  refine ds_nextseq (ds_ifs (ut_test (pu_lt (pu_var rfl) pu_int)) (fun hc => ?_) (fun hc => ?_))   -- if form < 6
  · have hc : ns.getD 0 0 % 9 < 6 := of_decide_eq_true hc
    rw [if_pos hc] at q
    exact ds_retseq (ds_ret (pu_tup (ds := [_, _, _, _, _, _, _]) (au_cons pu_str (au_cons (pu_var rfl) (au_cons (pu_var rfl) (au_cons (pu_var rfl) (au_cons (pu_var rfl) (au_cons (pu_var rfl) (au_cons (pu_eqI (pu_mod (pu_ixI (pu_var rfl) pu_int (by decide) (by omega)) pu_int (by decide)) pu_int) au_nil))))))) (lk rfl)) (rt_dat cl Mor.refl q))
  have hc : ¬ ns.getD 0 0 % 9 < 6 := of_decide_eq_false hc
  rw [if_neg hc] at q
  refine ds_nextseq (ds_ifs (ut_test (pu_eqI (pu_var rfl) pu_int)) (fun hc => ?_) (fun hc => ?_))   -- if form == 6
  · have hc : ns.getD 0 0 % 9 = 6 := of_decide_eq_true hc
    rw [if_pos hc] at q
    exact ds_retseq (ds_ret (pu_tup (ds := [_, _, _, _, _]) (au_cons pu_str (au_cons (pu_var rfl) (au_cons (pu_var rfl) (au_cons (pu_var rfl) (au_cons (pu_var rfl) au_nil))))) (lk rfl)) (rt_dat cl Mor.refl q))
  have hc : ¬ ns.getD 0 0 % 9 = 6 := of_decide_eq_false hc
  rw [if_neg hc] at q
  exact ds_nextseq (ds_ret (pu_tup (ds := [_, _, _, _]) (au_cons (pu_ixL (pu_fz (ds := [_, _]) (pl_lst (au_cons pu_str (au_cons pu_str au_nil)) (lk rfl))) (pu_sub (pu_var rfl) pu_int) (at2 (by show 0 ≤ ns.getD 0 0 % 9 - 7; omega) (by show ns.getD 0 0 % 9 - 7 < 2; omega))) (au_cons (pu_var rfl) (au_cons (pu_var rfl) (au_cons (pu_var rfl) au_nil)))) (lk rfl)) (rt_dat cl Mor.refl q))

abbrev s__law_events : Stmt := topS 15
abbrev N__law_events : List Str := ["script", "at", "most", "many", "kinds", "found", "number", "k", "draws"]
theorem sc__law_events : FnScope N__law_events ["script", "at", "most", "many", "kinds"] (defScope s__law_events) := ⟨rfl, rfl, rfl, by decide +kernel, rfl, by decide +kernel, by decide +kernel⟩

theorem ok__law_events {f__law_events : Addr} {fd__law_events : FuncData} (F__law_events : Fun K "_law_events" "_law_events" s__law_events f__law_events fd__law_events) {f__law_cell : Addr} {fd__law_cell : FuncData} (F__law_cell : Fun K "_law_cell" "_law_cell" s__law_cell f__law_cell fd__law_cell) (G__law_cell : FnOk P w K mg base CX0 1 f__law_cell fd__law_cell ["script", "k"] (SpG K rel__law_cell)) (b__law_cell : Binds K fd__law_cell ["script", "k"] []) (g__law_cell : mg "_law_cell" = some (.ref f__law_cell)) {f__law_draws : Addr} {fd__law_draws : FuncData} (F__law_draws : Fun K "_law_draws" "_law_draws" s__law_draws f__law_draws fd__law_draws) (G__law_draws : FnOk P w K mg base CX0 1 f__law_draws fd__law_draws ["cell", "count"] (SpG K rel__law_draws)) (b__law_draws : Binds K fd__law_draws ["cell", "count"] []) (g__law_draws : mg "_law_draws" = some (.ref f__law_draws)) {f__law_event : Addr} {fd__law_event : FuncData} (F__law_event : Fun K "_law_event" "_law_event" s__law_event f__law_event fd__law_event) (G__law_event : FnOk P w K mg base CX0 1 f__law_event fd__law_event ["draws", "many", "kinds", "number"] (SpG K rel__law_event)) (b__law_event : Binds K fd__law_event ["draws", "many", "kinds", "number"] []) (g__law_event : mg "_law_event" = some (.ref f__law_event)) (z_max : mg "max" = none) (z_range : mg "range" = none) : FnOk P w K mg base CX0 2 f__law_events fd__law_events ["script", "at", "most", "many", "kinds"] (SpG K rel__law_events) := by
  refine ok_def F__law_events sc__law_events (fun C xs R h => by obtain ⟨_, _, _, _, _, rfl, _⟩ := h; rfl) (fun cdv A outer s H E hr => ?_)
  refine ⟨_, (pss_cons (ps_set (i := 5) sc__law_events.nd rfl (Or.inl rfl) (pe_lst pa_nil))
  (pss_cons (ps_set (i := 6) sc__law_events.nd rfl (Or.inl rfl) pe_int)
  (pss_cons (ps_for PassesOwn.never rfl (pi_range1 (by rfl) z_range (pa_cons (pe_op op_mod (pe_call G__law_cell (hr.mono (by decide)) (by rfl) g__law_cell F__law_cell.kp b__law_cell .nil pass0 (pa_cons (pv 0) (pa_cons (pv 1) pa_nil))) (pe_op op_add (pv 2) pe_int)) pa_nil)) (pg_name (i := 7) sc__law_events.nd rfl (Or.inl rfl)) (pss_cons (ps_set (i := 8) sc__law_events.nd rfl (Or.inl rfl) (pe_call G__law_draws (hr.mono (by decide)) (by rfl) g__law_draws F__law_draws.kp b__law_draws .nil pass0 (pa_cons (pe_call G__law_cell (hr.mono (by decide)) (by rfl) g__law_cell F__law_cell.kp b__law_cell .nil pass0 (pa_cons (pv 0) (pa_cons (pe_op op_add (pe_op op_add (pv 1) pe_int) (pv 7)) pa_nil))) (pa_cons pe_int pa_nil))))
  (pss_cons (ps_set (i := 6) sc__law_events.nd rfl (Or.inl rfl) (pe_op op_add (pv 6) (pe_ix (kx_ixL K rfl) (pe_lst (pa_cons pe_int (pa_cons pe_int (pa_cons pe_int (pa_cons pe_int (pa_cons pe_int (pa_cons pe_int pa_nil))))))) (pe_op op_mod (pe_ix (kx_ixL K rfl) (pv 8) pe_int (fun _ _ => rfl)) pe_int) (fun _ _ => rfl))))
  (pss_one (ps_expr (pe_bm PySem.F.plainAttrs_list PySem.F.slot_list_append PySem.F.type_list_append mt_append (pv 5) (pa_cons (pe_call G__law_event (hr.mono (by decide)) (by rfl) g__law_event F__law_event.kp b__law_event .nil pass0 (pa_cons (pv 8) (pa_cons (pv 3) (pa_cons (pv 4) (pa_cons (pe_callB (call_max2 rfl) (by rfl) z_max (by decide +kernel) (pa_cons pe_int (pa_cons (pv 6) pa_nil))) pa_nil))))) pa_nil)))))))
  (pss_one (ps_ret (pv 5)))))), ?_⟩
  rintro C xs R cl ⟨ns, at_, most, many, kinds, rfl, ha, hm0, hm1, hm, hk, q⟩
  refine ds_new (pl_lst au_nil (lk rfl)) fun p hp => ?_
  refine ds_set pu_int ?_   -- number = 0
  have c0 : 0 ≤ cellM ns at_ % (most + 1) := Int.emod_nonneg _ (by omega)
  have c1 : cellM ns at_ % (most + 1) < most + 1 := Int.emod_lt_of_pos _ (by omega)
  refine ds_forS (fun i Δ C' => Δ = [some (Ls (ns.map .int)), some (I at_), some (I most), some (I many), some (I kinds), some (.ref p), some (I (evSt ns at_ many kinds i).1), none, none] ∧ C' = updC C p (.lst (((evSt ns at_ many kinds i).2.map evD).map .dat)))
    (ui_rng1 (au_cons (pu_mod (pu_call (au_cons (pu_var rfl) (au_cons (pu_var rfl) au_nil)) ⟨ns, at_, rfl, ha, rfl, rfl⟩) (pu_add (pu_var rfl) pu_int) (by omega)) au_nil) (by omega)) ⟨_, Le.refl _, rfl, rfl⟩ (fun _ _ _ _ => trivial) ?_ ?_
  · rintro i x Δ C' hx ⟨rfl, rfl⟩
    obtain ⟨hi, rfl⟩ := rngD_get hx
    have hz : (((evSt ns at_ many kinds i).2.map evD).map Ax.dat).length < 100000 := by simp [evSt_len]; omega
    refine ⟨_, _, tg_name, ?_⟩
    refine ds_set (pu_call (au_cons (pu_call (au_cons (pu_var rfl) (au_cons (pu_add (pu_add (pu_var rfl) pu_int) (pu_var rfl)) au_nil)) ⟨ns, _, rfl, by omega, rfl, rfl⟩) (au_cons pu_int au_nil)) ⟨_, 7, rfl, by decide, by decide, rfl, rfl⟩) ?_
    have dl : (drawsM (cellM ns (at_ + 1 + (0 + (i : Int)))) 7).length = 7 := by
      have := drawsM_len (c := cellM ns (at_ + 1 + (0 + (i : Int)))) (n := 7) (by decide)
      omega
    have dn : ∀ d ∈ drawsM (cellM ns (at_ + 1 + (0 + (i : Int)))) 7, 0 ≤ d := drawSt_nn _ _
    refine ds_set (pu_add (pu_var rfl) (pu_ixL (pu_fz (ds := [_, _, _, _, _, _]) (pl_lst (au_cons pu_int (au_cons pu_int (au_cons pu_int (au_cons pu_int (au_cons pu_int (au_cons pu_int au_nil)))))) (lk rfl))) (pu_mod (pu_ixI (pu_var rfl) pu_int (by decide) (by omega)) pu_int (by decide)) (at6 (Int.emod_nonneg _ (by decide)) (Int.emod_lt_of_pos _ (by decide))))) ?_
    refine ds_drop1 (ev_app (pu_var rfl) (pu_call (au_cons (pu_var rfl) (au_cons (pu_var rfl) (au_cons (pu_var rfl) (au_cons (pu_cb (au_cons pu_int (au_cons (pu_var rfl) au_nil)) rc_max2) au_nil)))) ⟨_, many, kinds, _, rfl, by omega, dn, hm, hk, rfl, rfl⟩) updC_same hz) ?_
    rintro _ _ ⟨rfl, rfl⟩
    refine ⟨_, ?_, rfl, ?_⟩
    · exact ⟨rfl, rfl, rfl, rfl, rfl, rfl, rfl, trivial⟩
    · rw [updC_updC, evSt, List.map_append, List.map_append]
      rfl
  · rintro Δ C' ⟨rfl, rfl⟩
    rw [rngD_len]
    exact ds_ret (pu_var rfl) (rt_fz cl (Mor.upd hp) (dz_lst updC_same hp) q)

end
end K20

namespace K20
open PySem PySem.Spec PyProof.Rows L2 Ab Lm Hm
section
variable {P : Program} {w : World} {K : PySem.W.Frag} {mg : Str → Option Value} {base : Heap}
abbrev s__is_allowed : Stmt := topS 5
abbrev N__is_allowed : List Str := ["parties", "coalition", "event", "word", "parts", "makes", "treats"]
theorem sc__is_allowed : FnScope N__is_allowed ["parties", "coalition", "event"] (defScope s__is_allowed) := ⟨rfl, rfl, rfl, by decide +kernel, rfl, by decide +kernel, by decide +kernel⟩

theorem ok__is_allowed {f__is_allowed : Addr} {fd__is_allowed : FuncData} (F__is_allowed : Fun K "_is_allowed" "_is_allowed" s__is_allowed f__is_allowed fd__is_allowed) {f_parts_of : Addr} {fd_parts_of : FuncData} (F_parts_of : Fun K "parts_of" "parts_of" s_parts_of f_parts_of fd_parts_of) (G_parts_of : FnOk P w K mg base CX0 2 f_parts_of fd_parts_of ["event"] (SpG K rel_parts_of)) (b_parts_of : Binds K fd_parts_of ["event"] []) (g_parts_of : mg "parts_of" = some (.ref f_parts_of)) : FnOk P w K mg base CX0 3 f__is_allowed fd__is_allowed ["parties", "coalition", "event"] (SpG K rel__is_allowed) := by
  refine ok_def F__is_allowed sc__is_allowed (fun C xs R h => by obtain ⟨_, _, _, _, rfl, _⟩ := h; rfl) (fun cdv A outer s H E hr => ?_)
  refine ⟨_, (pss_cons (ps_set (i := 3) sc__is_allowed.nd rfl (Or.inl rfl) (pe_ix (kx_ixT K rfl) (pv 2) pe_int (fun _ _ => rfl)))
  (pss_cons (ps_set (i := 4) sc__is_allowed.nd rfl (Or.inl rfl) (pe_call G_parts_of (hr.mono (by decide)) (by rfl) g_parts_of F_parts_of.kp b_parts_of .nil pass0 (pa_cons (pv 2) pa_nil)))
  (pss_cons (ps_if (pt_cmpR op_eq (pv 3) pe_str (nomark _)) (pss_one (ps_ret (pe_cmpR op_ne (pe_ix (kx_ixT K rfl) (pv 4) pe_int (fun _ _ => rfl)) (pe_ix (kx_ixT K rfl) (pv 4) pe_int (fun _ _ => rfl)) (nomark _)))) pss_nil)
  (pss_cons (ps_if (pt_cmpR op_eq (pv 3) pe_str (nomark _)) (pss_one (ps_ret (pe_and (pe_cmpR op_ne (pe_ix (kx_ixT K rfl) (pv 4) pe_int (fun _ _ => rfl)) (pe_ix (kx_ixT K rfl) (pv 4) pe_int (fun _ _ => rfl)) (nomark _)) (pe_and (pe_cmpR (kx_in K rfl) (pe_ix (kx_ixT K rfl) (pv 4) pe_int (fun _ _ => rfl)) (pv 1) (by rfl)) (pe_one (pe_cmpR (kx_in K rfl) (pe_ix (kx_ixT K rfl) (pv 4) pe_int (fun _ _ => rfl)) (pv 1) (by rfl))))))) pss_nil)
  (pss_cons (ps_asg (pe_ix (kx_ixT K rfl) (pv 0) (pe_ix (kx_ixT K rfl) (pv 4) pe_int (fun _ _ => rfl)) (fun _ _ => rfl)) (pg_tup rfl (pgs_cons (pg_name (i := 5) sc__is_allowed.nd rfl (Or.inl rfl)) (pgs_cons (pg_name (i := 6) sc__is_allowed.nd rfl (Or.inl rfl)) pgs_nil))))
  (pss_cons (ps_if (pt_cmpR op_eq (pv 3) pe_str (nomark _)) (pss_one (ps_ret (pv 5))) pss_nil)
  (pss_cons (ps_if (pt_cmpR op_eq (pv 3) pe_str (nomark _)) (pss_one (ps_ret (pv 6))) pss_nil)
  (pss_cons (ps_if (pt_cmpR op_eq (pv 3) pe_str (nomark _)) (pss_one (ps_ret (pe_and (pv 5) (pe_one (pe_cmpR (kx_in K rfl) (pe_ix (kx_ixT K rfl) (pv 4) pe_int (fun _ _ => rfl)) (pv 1) (by rfl)))))) pss_nil)
  (pss_one (ps_ret (pe_or (pe_cmpR op_eq (pv 3) pe_str (nomark _)) (pe_one (pe_cmpR (kx_in K rfl) (pe_ix (kx_ixT K rfl) (pv 4) pe_int (fun _ _ => rfl)) (pv 1) (by rfl)))))))))))))), ?_⟩
  rintro C xs R cl ⟨pf, grp, kd, e, rfl, ek, q⟩
  cases e with
  | own w n i k a =>
    obtain ⟨hw, i0, i1, _⟩ := id ek
    simp only [List.mem_cons, List.not_mem_nil, or_false] at hw
    refine ds_set (pu_ixT (pu_var rfl) pu_int rfl) (ds_set (pu_call (au_cons (pu_var rfl) au_nil) ⟨_, kd, _, rfl, ek, rfl, rfl⟩) ?_)
    refine ds_ifs (ut_test (pu_eqStr (pu_var rfl) pu_str)) (fun hc => ?_) (fun hc => ?_)
    · rcases hw with rfl | rfl | rfl <;> exact absurd hc (by decide)
    refine ds_nextseq (ds_ifs (ut_test (pu_eqStr (pu_var rfl) pu_str)) (fun hc => ?_) (fun hc => ?_))
    · rcases hw with rfl | rfl | rfl <;> exact absurd hc (by decide)
    refine ds_nextseq (ds_tgt (pu_ixT (pu_var rfl) (pu_ixT (pu_var rfl) pu_int rfl) (pf_at i0 i1)) (tg_tup (tgl_cons tg_name (tgl_cons tg_name tgl_nil)) rfl) ?_)
    rcases hw with rfl | rfl | rfl
    · exact ds_ifs (ut_test (pu_eqStr (pu_var rfl) pu_str)) (fun hc => ds_retseq (ds_ret (pu_var rfl) (rt_dat cl Mor.refl q))) (fun hc => absurd hc (by decide))
    · exact ds_ifs (ut_test (pu_eqStr (pu_var rfl) pu_str)) (fun hc => absurd hc (by decide)) (fun hc => ds_nextseq (ds_ifs (ut_test (pu_eqStr (pu_var rfl) pu_str)) (fun hc => ds_retseq (ds_ret (pu_var rfl) (rt_dat cl Mor.refl q))) (fun hc => absurd hc (by decide))))
    · refine ds_ifs (ut_test (pu_eqStr (pu_var rfl) pu_str)) (fun hc => absurd hc (by decide)) (fun hc => ds_nextseq (ds_ifs (ut_test (pu_eqStr (pu_var rfl) pu_str)) (fun hc => absurd hc (by decide)) (fun hc => ds_nextseq (ds_ifs (ut_test (pu_eqStr (pu_var rfl) pu_str)) (fun hc => absurd hc (by decide)) (fun hc => ds_nextseq ?_)))))
      exact ds_ret (pu_is (pu_orV (a := true) (b := true) (pu_is (pu_eqStr (pu_var rfl) pu_str) (by rw [decide_eq_true rfl])) (fun h => by cases h)) rfl) (rt_dat cl Mor.refl q)
  | hand n g t k a b =>
    refine ds_set (pu_ixT (pu_var rfl) pu_int rfl) (ds_set (pu_call (au_cons (pu_var rfl) au_nil) ⟨_, kd, _, rfl, ek, rfl, rfl⟩) ?_)
    exact ds_ifs (ut_test (pu_eqStr (pu_var rfl) pu_str)) (fun hc => ds_retseq (ds_ret (pu_neI (pu_ixT (pu_var rfl) pu_int rfl) (pu_ixT (pu_var rfl) pu_int rfl)) (rt_dat cl Mor.refl q))) (fun hc => absurd hc (by decide))
  | pass g t k a =>
    refine ds_set (pu_ixT (pu_var rfl) pu_int rfl) (ds_set (pu_call (au_cons (pu_var rfl) au_nil) ⟨_, kd, _, rfl, ek, rfl, rfl⟩) ?_)
    refine ds_ifs (ut_test (pu_eqStr (pu_var rfl) pu_str)) (fun hc => absurd hc (by decide)) (fun hc => ds_nextseq (ds_ifs (ut_test (pu_eqStr (pu_var rfl) pu_str)) (fun hc => ?_) (fun hc => absurd hc (by decide))))
    exact ds_retseq (ds_ret (pu_andV (pu_neI (pu_ixT (pu_var rfl) pu_int rfl) (pu_ixT (pu_var rfl) pu_int rfl)) fun h => (pu_andV (pu_inI (pu_ixT (pu_var rfl) pu_int rfl) (pu_var rfl)) fun h => (pu_inI (pu_ixT (pu_var rfl) pu_int rfl) (pu_var rfl)))) (rt_dat cl Mor.refl q))
  | sec w i k a =>
    obtain ⟨hw, i0, i1, _⟩ := id ek
    simp only [List.mem_cons, List.not_mem_nil, or_false] at hw
    refine ds_set (pu_ixT (pu_var rfl) pu_int rfl) (ds_set (pu_call (au_cons (pu_var rfl) au_nil) ⟨_, kd, _, rfl, ek, rfl, rfl⟩) ?_)
    refine ds_ifs (ut_test (pu_eqStr (pu_var rfl) pu_str)) (fun hc => ?_) (fun hc => ?_)
    · rcases hw with rfl | rfl <;> exact absurd hc (by decide)
    refine ds_nextseq (ds_ifs (ut_test (pu_eqStr (pu_var rfl) pu_str)) (fun hc => ?_) (fun hc => ?_))
    · rcases hw with rfl | rfl <;> exact absurd hc (by decide)
    refine ds_nextseq (ds_tgt (pu_ixT (pu_var rfl) (pu_ixT (pu_var rfl) pu_int rfl) (pf_at i0 i1)) (tg_tup (tgl_cons tg_name (tgl_cons tg_name tgl_nil)) rfl) ?_)
    refine ds_ifs (ut_test (pu_eqStr (pu_var rfl) pu_str)) (fun hc => ?_) (fun hc => ?_)
    · rcases hw with rfl | rfl <;> exact absurd hc (by decide)
    refine ds_nextseq (ds_ifs (ut_test (pu_eqStr (pu_var rfl) pu_str)) (fun hc => ?_) (fun hc => ?_))
    · rcases hw with rfl | rfl <;> exact absurd hc (by decide)
    rcases hw with rfl | rfl
    · refine ds_nextseq (ds_ifs (ut_test (pu_eqStr (pu_var rfl) pu_str)) (fun hc => absurd hc (by decide)) (fun hc => ds_nextseq ?_))
      refine ds_ret (pu_is (pu_orV (a := false) (pu_is (pu_eqStr (pu_var rfl) pu_str) (by rw [decide_eq_false (by decide)])) (fun h => (pu_inI (pu_ixT (pu_var rfl) pu_int rfl) (pu_var rfl)))) rfl) (rt_dat cl Mor.refl q)
    · exact ds_nextseq (ds_ifs (ut_test (pu_eqStr (pu_var rfl) pu_str)) (fun hc => ds_retseq (ds_ret (pu_andV (pu_var rfl) fun h => (pu_inI (pu_ixT (pu_var rfl) pu_int rfl) (pu_var rfl))) (rt_dat cl Mor.refl q))) (fun hc => absurd hc (by decide)))

abbrev s_stocks : Stmt := topS 4
abbrev N_stocks : List Str := ["kinds", "parties", "coalition", "history", "have", "_", "event"]
theorem sc_stocks : FnScope N_stocks ["kinds", "parties", "coalition", "history"] (defScope s_stocks) := ⟨rfl, rfl, rfl, by decide +kernel, rfl, by decide +kernel, by decide +kernel⟩

theorem ok_stocks {f_stocks : Addr} {fd_stocks : FuncData} (F_stocks : Fun K "stocks" "stocks" s_stocks f_stocks fd_stocks) {f__happens : Addr} {fd__happens : FuncData} (F__happens : Fun K "_happens" "_happens" s__happens f__happens fd__happens) (G__happens : FnOk P w K mg base CX0 3 f__happens fd__happens ["have", "event"] (SpG K rel__happens)) (b__happens : Binds K fd__happens ["have", "event"] []) (g__happens : mg "_happens" = some (.ref f__happens)) {f__is_allowed : Addr} {fd__is_allowed : FuncData} (F__is_allowed : Fun K "_is_allowed" "_is_allowed" s__is_allowed f__is_allowed fd__is_allowed) (G__is_allowed : FnOk P w K mg base CX0 3 f__is_allowed fd__is_allowed ["parties", "coalition", "event"] (SpG K rel__is_allowed)) (b__is_allowed : Binds K fd__is_allowed ["parties", "coalition", "event"] []) (g__is_allowed : mg "_is_allowed" = some (.ref f__is_allowed)) : FnOk P w K mg base CX0 4 f_stocks fd_stocks ["kinds", "parties", "coalition", "history"] (SpG K rel_stocks) := by
  refine ok_def F_stocks sc_stocks (fun C xs R h => by obtain ⟨_, _, _, _, rfl, _⟩ := h; rfl) (fun cdv A outer s H E hr => ?_)
  refine ⟨_, (pss_cons (ps_setLc (i := 4) (own := [("_", 5)]) rfl sc_stocks.nd rfl rfl (sw_true rfl rfl rfl (by decide +kernel)) (kx_pTup K rfl (pv 1)) (blkOk_by (N := N_stocks) (sc := defScope s_stocks) (by decide +kernel)) (fun _ _ _ _ _ => (pg_name (i := 5) sc_stocks.nd rfl (Or.inl rfl))) (fun _ _ _ _ _ => pts_nil) (fun _ _ _ _ _ => (pe_op op_rep (pe_lst (pa_cons pe_int pa_nil)) (pv 0))))
  (pss_cons (ps_for PassesOwn.never rfl (kx_pList K rfl (pv 3)) (pg_name (i := 6) sc_stocks.nd rfl (Or.inl rfl)) (pss_one (ps_if (PW.pt (pw_or (pt_not (pt_val (pe_call G__is_allowed (hr.mono (by decide)) (by rfl) g__is_allowed F__is_allowed.kp b__is_allowed .nil pass0 (pa_cons (pv 1) (pa_cons (pv 2) (pa_cons (pv 6) pa_nil)))))) (pw_or1 (pt_not (pt_val (pe_call G__happens (hr.mono (by decide)) (by rfl) g__happens F__happens.kp b__happens .nil pass0 (pa_cons (pv 4) (pa_cons (pv 6) pa_nil)))))))) (pss_one (ps_ret pe_non)) pss_nil)))
  (pss_one (ps_ret (pv 4))))), ?_⟩
  rintro C xs R cl ⟨kd, pf, grp, es, rfl, hkd, hp, hl, ok, q⟩
  have e0 : ((List.replicate kd (PyData.int 0)).map Ax.dat) = (List.replicate ((kd : Int)).toNat [I 0]).flatten := by
    rw [flatten_one, List.map_replicate, show ((kd : Int)).toNat = kd by omega]
  have e1 : List.replicate pf.length (List.replicate kd (PyData.int 0)) = rowsD (st0 pf.length kd) := by
    unfold rowsD st0 rowD
    rw [List.map_replicate, List.map_replicate]
  refine ds_setE (ev_grid (r := List.replicate kd (.int 0)) (ui_tupD (pu_var rfl)) (by simp; omega) (fun _ _ => trivial) fun i x C' m hx => ⟨_, [5], by simp, tg_name, by rw [e0]; exact pl_rep (pl_lst (au_cons pu_int au_nil) (lk rfl)) (pu_var rfl) (by omega) (by omega) (by simp)⟩) ?_
  rintro _ C1 ⟨p, ps, rfl, G⟩
  rw [List.length_map, List.length_map, e1] at G
  refine ds_forS (fun i Δ C' => Δ = [some (I kd), some (T (pf.map pfD)), some (T (grp.map .int)), some (Ls (es.map evD)), some (.ref p), none, none] ∧ ∃ st, runM pf grp (st0 pf.length kd) (es.take i) = some st ∧ Shp pf.length kd st ∧ Grid C C' p ps (rowsD st))
    (ui_listD (pu_var rfl)) ⟨_, ?_, rfl, _, rfl, st0_shp _ _, G⟩ (fun _ _ _ _ => trivial) ?_ ?_
  · exact ⟨rfl, rfl, rfl, rfl, rfl, trivial⟩
  · rintro i x Δ C' hx ⟨rfl, st, hst, hS, G⟩
    obtain ⟨d, hd, rfl⟩ := datget hx
    obtain ⟨e, he, rfl⟩ := mapget hd
    have ek := ok e (List.mem_of_getElem? he)
    have sn := runM_snoc he hst
    refine ⟨_, _, tg_name, ?_⟩
    refine ds_ifE (ev_or (ut_not (ut_B (pu_call (au_cons (pu_var rfl) (au_cons (pu_var rfl) (au_cons (pu_var rfl) au_nil))) ⟨pf, grp, kd, e, rfl, ek, rfl, rfl⟩))) (fun h => ev_not (ev_B (ev_call (P := fun x C2 => (∃ st', hapM st e = some st' ∧ x = B true ∧ Only ps C' C2 ∧ GridA C2 p ps (rowsD st')) ∨ (hapM st e = none ∧ x = B false ∧ C2 = C')) (au_cons (pu_var rfl) (au_cons (pu_var rfl) au_nil)) ⟨p, ps, st, pf.length, kd, e, rfl, G.toA, hS, ek, ?_⟩) ?_))) (fun C2 h => ?_) (fun C2 h => ?_)
    · cases hh : hapM st e with
      | none => exact .inr ⟨rfl, rfl, rfl⟩
      | some st' => exact fun C2 o g => .inl ⟨st', rfl, rfl, o, g⟩
    · rintro x C2 (⟨_, _, rfl, _⟩ | ⟨_, rfl, _⟩) <;> exact ⟨_, rfl⟩
    · have hn : stepM pf grp st e = none ∧ C2 = C' := by
        rcases h with ⟨h1, _, rfl⟩ | ⟨h1, ⟨_, _, h, _⟩ | ⟨h2, _, rfl⟩⟩
        · refine ⟨?_, rfl⟩
          unfold stepM
          rw [if_neg (by intro z; rw [z] at h1; cases h1)]
        · cases h
        · refine ⟨?_, rfl⟩
          unfold stepM
          rw [h2]
          split <;> rfl
      obtain ⟨hn, rfl⟩ := hn
      rw [hn] at sn
      rw [runM_stop sn] at q
      exact ds_ret pu_no (rt_dat cl G.mor q)
    · rcases h with ⟨_, h, _⟩ | ⟨h1, ⟨st', h2, _, o, g⟩ | ⟨_, h, _⟩⟩
      · cases h
      · have h3 : stepM pf grp st e = some st' := by
          unfold stepM
          rw [if_pos (by cases z : alwM pf grp e with | true => rfl | false => rw [z] at h1; cases h1)]
          exact h2
        refine ds_next ⟨_, ?_, rfl, st', sn.trans h3, stepM_shp hS ek h3, G.ofA o g⟩
        exact ⟨rfl, rfl, rfl, rfl, rfl, trivial⟩
      · cases h
  · rintro Δ C' ⟨rfl, st, hst, hS, G⟩
    rw [List.length_map, List.length_map, List.take_length] at hst
    rw [hst] at q
    exact ds_ret (pu_var rfl) (rt_fz cl G.mor G.dz q)

abbrev s__law_groups : Stmt := topS 12
abbrev N__law_groups : List Str := ["many", "found", "size", "longer", "group", "party"]
theorem sc__law_groups : FnScope N__law_groups ["many"] (defScope s__law_groups) := ⟨rfl, rfl, rfl, by decide +kernel, rfl, by decide +kernel, by decide +kernel⟩

abbrev s__law_some_group : Stmt := topS 16
abbrev N__law_some_group : List Str := ["draw", "many", "groups"]
theorem sc__law_some_group : FnScope N__law_some_group ["draw", "many"] (defScope s__law_some_group) := ⟨rfl, rfl, rfl, by decide +kernel, rfl, by decide +kernel, by decide +kernel⟩

theorem ok__law_some_group {f__law_some_group : Addr} {fd__law_some_group : FuncData} (F__law_some_group : Fun K "_law_some_group" "_law_some_group" s__law_some_group f__law_some_group fd__law_some_group) {f__law_groups : Addr} {fd__law_groups : FuncData} (F__law_groups : Fun K "_law_groups" "_law_groups" s__law_groups f__law_groups fd__law_groups) (G__law_groups : FnOk P w K mg base CX0 1 f__law_groups fd__law_groups ["many"] (SpG K rel__law_groups)) (b__law_groups : Binds K fd__law_groups ["many"] []) (g__law_groups : mg "_law_groups" = some (.ref f__law_groups)) (z_len : mg "len" = none) : FnOk P w K mg base CX0 2 f__law_some_group fd__law_some_group ["draw", "many"] (SpG K rel__law_some_group) := by
  refine ok_def F__law_some_group sc__law_some_group (fun C xs R h => by obtain ⟨_, _, rfl, _⟩ := h; rfl) (fun cdv A outer s H E hr => ?_)
  refine ⟨_, (pss_cons (ps_set (i := 2) sc__law_some_group.nd rfl (Or.inl rfl) (pe_call G__law_groups (hr.mono (by decide)) (by rfl) g__law_groups F__law_groups.kp b__law_groups .nil pass0 (pa_cons (pv 1) pa_nil)))
  (pss_one (ps_ret (pe_ix (kx_ixL K rfl) (pv 2) (pe_op op_mod (pv 0) (pe_callB (kx_len K rfl) (by rfl) z_len PySem.boot_len (pa_cons (pv 2) pa_nil))) (fun _ _ => rfl))))), ?_⟩
  rintro C xs R cl ⟨draw, many, rfl, h0, h1, q⟩
  have hb := grp_bound h0 h1 (s := many.toNat) (by omega)
  have hl : 0 < ((groupsM many).length : Int) := by unfold groupsM; omega
  refine ds_set (pu_call (au_cons (pu_var rfl) au_nil) ⟨many, rfl, h0, h1, rfl, rfl⟩) ?_
  have e : ((groupsM many).map grD).length = (groupsM many).length := List.length_map _
  have m0 : 0 ≤ draw % ((groupsM many).length : Int) := Int.emod_nonneg _ (by omega)
  have m1 : draw % ((groupsM many).length : Int) < (groupsM many).length := Int.emod_lt_of_pos _ hl
  refine ds_ret (pu_ixL (d := grD (sgM draw many)) (pu_var rfl) (pu_mod (pu_var rfl) (pu_cb (au_cons (pu_var rfl) au_nil) rc_lenL) (by rw [e]; exact hl)) ?_) (rt_dat cl Mor.refl q)
  rw [e]
  have hp : (draw % ((groupsM many).length : Int)).toNat < (groupsM many).length := by omega
  have := atI_nat (xs := (groupsM many).map grD) (j := (draw % ((groupsM many).length : Int)).toNat) (v := grD (sgM draw many)) (by
    unfold sgM
    rw [List.getElem?_map, List.getD_eq_getElem?_getD, List.getElem?_eq_getElem hp]
    rfl)
  rwa [show (((draw % ((groupsM many).length : Int)).toNat : Nat) : Int) = draw % ((groupsM many).length : Int) by omega] at this

end
end K20

namespace K20
open PySem PySem.Spec PyProof.Rows L2 Ab Lm Hm
section
variable {P : Program} {w : World} {K : PySem.W.Frag} {mg : Str → Option Value} {base : Heap}
theorem ok__law_groups {f__law_groups : Addr} {fd__law_groups : FuncData} (F__law_groups : Fun K "_law_groups" "_law_groups" s__law_groups f__law_groups fd__law_groups) (z_len : mg "len" = none) (z_range : mg "range" = none) : FnOk P w K mg base CX0 1 f__law_groups fd__law_groups ["many"] (SpG K rel__law_groups) := by
  refine ok_def F__law_groups sc__law_groups (fun C xs R h => by obtain ⟨_, rfl, _⟩ := h; rfl) (fun cdv A outer s H E hr => ?_)
  refine ⟨_, (pss_cons (ps_set (i := 1) sc__law_groups.nd rfl (Or.inl rfl) (pe_lst (pa_cons (pe_tup pa_nil) pa_nil)))
  (pss_cons (ps_for PassesOwn.never rfl (pi_range1 (by rfl) z_range (pa_cons (pv 0) pa_nil)) (pg_name (i := 2) sc__law_groups.nd rfl (Or.inl rfl)) (pss_cons (ps_set (i := 3) sc__law_groups.nd rfl (Or.inl rfl) (pe_lst pa_nil))
  (pss_cons (ps_for PassesOwn.never rfl (kx_pList K rfl (pv 1)) (pg_name (i := 4) sc__law_groups.nd rfl (Or.inl rfl)) (pss_one (ps_if (pt_cmpR op_eq (pe_callB (kx_len K rfl) (by rfl) z_len PySem.boot_len (pa_cons (pv 4) pa_nil)) (pv 2) (nomark _)) (pss_one (ps_for PassesOwn.never rfl (pi_range2 (by rfl) z_range (pa_cons (pe_ifExp (pt_truth (pv 4) (by intro _; rfl)) (pe_op op_add (pe_ix (kx_ixT K rfl) (pv 4) (pe_un un_neg pe_int) (fun _ _ => rfl)) pe_int) pe_int) (pa_cons (pv 0) pa_nil))) (pg_name (i := 5) sc__law_groups.nd rfl (Or.inl rfl)) (pss_one (ps_expr (pe_bm PySem.F.plainAttrs_list PySem.F.slot_list_append PySem.F.type_list_append mt_append (pv 3) (pa_cons (pe_op (kx_catA K rfl) (pv 4) (pe_tup (pa_cons (pv 5) pa_nil))) pa_nil)))))) pss_nil)))
  (pss_one (ps_set (i := 1) sc__law_groups.nd rfl (Or.inl rfl) (pe_op op_cat (pv 1) (pv 3)))))))
  (pss_one (ps_ret (pv 1))))), ?_⟩
  rintro C xs R cl ⟨many, rfl, h0, h1, q⟩
  refine ds_new (pl_lst (au_cons (pu_tup (ds := []) au_nil (lk rfl)) au_nil) (lk rfl)) fun p hp => ?_
  refine ds_forS (fun s Δ C' => ∃ p, Δ = [some (I many), some (.ref p), none, none, none, none] ∧ Mor C C' ∧ C p = none ∧ C' p = some (.lst (((grpSt many s).map grD).map .dat)))
    (ui_rng1 (au_cons (pu_var rfl) au_nil) (by omega)) ⟨_, Le.refl _, p, rfl, Mor.upd hp, hp, updC_same⟩ (fun _ _ _ _ => trivial) ?_ ?_
  · rintro s x Δ C' hx ⟨p, rfl, hm, hp, hc⟩
    obtain ⟨hi, rfl⟩ := rngD_get hx
    obtain ⟨b1, b2, b3⟩ := grp_bound h0 h1 (s := s) (by omega)
    refine ⟨_, _, tg_name, ?_⟩
    refine ds_new (pl_lst au_nil (lk rfl)) fun r hr => ?_
    have hpr : p ≠ r := fun e => by rw [← e, hc] at hr; cases hr
    have hrC : C r = none := hm.free hr
    refine ds_forS (fun i Δ C2 => Δ = [some (I many), some (.ref p), some (I (0 + (s : Int))), some (.ref r), none, none] ∧ C2 = updC C' r (.lst (((((grpSt many s).take i).flatMap fun g => if g.length = s then extM many g else []).map grD).map .dat)))
      (ui_listM (pu_var rfl) (by rw [updC_ne hpr]; exact hc)) ⟨_, Le.refl _, rfl, rfl⟩ (fun i Γ' C2 h => by rw [h.2, updC_ne hpr]; exact hc) ?_ ?_
    · rintro i x Δ C2 hx ⟨rfl, rfl⟩
      obtain ⟨d, hd, rfl⟩ := datget hx
      obtain ⟨g, hg, rfl⟩ := mapget hd
      refine ⟨_, _, tg_name, ?_⟩
      have pre := flat_pre (fun g : List Int => if g.length = s then extM many g else []) (grpSt many s) i g hg
      have le := flat_le (fun g : List Int => if g.length = s then extM many g else []) (grpSt many s) (i + 1)
      have le2 : ((grpSt many s).flatMap fun g => if g.length = s then extM many g else []).length ≤ 64 := b2
      rw [pre, List.length_append] at le
      refine ds_if (ut_test (pu_eqI (pu_cb (au_cons (pu_var rfl) au_nil) rc_lenT) (pu_var rfl))) (fun h => ?_) (fun h => ?_)
      · have hs : g.length = s := by
          have := of_decide_eq_true h
          rw [List.length_map] at this
          omega
        rw [if_pos hs] at pre le
        have bg : Pu K (tIf (tTruth K (tVar 4)) (tOp (rI0 fun i j => .int (i + j)) (tOp (rIxT K) (tVar 4) (tUn (rU fun i => .int (-i)) (tC (.int 1)))) (tC (.int 1))) (tC (.int 0))) [some (I many), some (.ref p), some (I (0 + (s : Int))), some (.ref r), some (.dat (grD g)), none] (updC C' r (.lst (((((grpSt many s).take i).flatMap fun g => if g.length = s then extM many g else []).map grD).map .dat))) (I (begM g)) := by
          rcases List.eq_nil_or_concat g with rfl | ⟨l, v, rfl⟩
          · exact pu_if (ut_trT (pu_var rfl)) (fun h => by cases h) (fun h => pu_int)
          · have eb : begM (l.concat v) = v + 1 := by unfold begM; simp
            rw [eb]
            refine pu_if (ut_trT (pu_var rfl)) (fun h => pu_add (pu_ixT (d := .int v) (pu_var rfl) (pu_neg pu_int) ?_) pu_int) (fun h => ?_)
            · rw [List.concat_eq_append, List.map_append]
              exact atI_app _ _
            · rw [List.concat_eq_append, List.map_append] at h
              simp at h
        have hge := begM_in h0 h1 (s := s) (by omega) (List.mem_of_getElem? hg)
        refine ds_for1 (fun j Δ C2 => Δ = [some (I many), some (.ref p), some (I (0 + (s : Int))), some (.ref r), some (.dat (grD g)), none] ∧ C2 = updC C' r (.lst (((((grpSt many s).take i).flatMap fun g => if g.length = s then extM many g else []) ++ (extM many g).take j).map grD |>.map .dat)))
          (ui_rng2 (au_cons bg (au_cons (pu_var rfl) au_nil)) (by omega)) ⟨_, Le.refl _, rfl, by simp⟩ (fun _ _ _ _ => trivial) ?_ ?_
        · rintro j x Δ C2 hx ⟨rfl, rfl⟩
          obtain ⟨hj, rfl⟩ := rngD_get hx
          refine ⟨_, _, tg_name, ?_⟩
          have hz : ((((((grpSt many s).take i).flatMap fun g => if g.length = s then extM many g else []) ++ (extM many g).take j).map grD).map Ax.dat).length < 100000 := by
            simp only [List.length_map, List.length_append, List.length_take]
            omega
          refine ds_drop1 (ev_app (pu_var rfl) (pu_catA (es := [_]) (pu_var rfl) (pu_tup (ds := [_]) (au_cons (pu_var rfl) au_nil) (lk rfl)) ?_) updC_same hz) ?_
          · rw [List.length_map, hs]
            show s + 1 ≤ 100000
            omega
          · rintro _ _ ⟨rfl, rfl⟩
            refine ⟨_, ?_, rfl, ?_⟩
            · exact ⟨rfl, rfl, rfl, rfl, rfl, trivial⟩
            · rw [updC_updC, List.take_add_one, extM_get hj, ← List.append_assoc, List.map_append, List.map_append (l₁ := _ ++ _)]
              simp [grD]
        · rintro Γ' Δ C2 l ⟨rfl, rfl⟩
          have et : (extM many g).take (rngD (begM g) (many - begM g).toNat).length = extM many g := List.take_of_length_le (by rw [rngD_len, extM_len]; exact Nat.le_refl _)
          rw [et]
          refine ⟨_, ?_, rfl, ?_⟩
          · refine Le.trans _ _ _ ?_ l
            exact ⟨rfl, rfl, rfl, rfl, trivial⟩
          · rw [pre]
      · have hs : ¬ g.length = s := by
          have := of_decide_eq_false h
          rw [List.length_map] at this
          omega
        rw [if_neg hs, List.append_nil] at pre
        refine ds_next ⟨_, ?_, rfl, ?_⟩
        · exact ⟨rfl, rfl, rfl, rfl, trivial⟩
        · rw [pre]
    · rintro Δ C2 ⟨rfl, rfl⟩
      rw [List.length_map, List.length_map, List.take_length]
      have b4 : ((grpSt many s).flatMap fun g => if g.length = s then extM many g else []).length ≤ 64 := b2
      refine ds_setE1 (ev_new (pl_cat (pu_var rfl) (pu_var rfl) (show updC C' r _ p = _ by rw [updC_ne hpr]; exact hc) updC_same (by simp only [List.length_map]; omega))) ?_
      rintro _ _ ⟨n, hn, rfl, rfl⟩
      have hn' : C' n = none := by
        rw [updC_ne (fun e => by subst e; rw [updC_same] at hn; cases hn)] at hn
        exact hn
      refine ⟨_, ?_, n, rfl, (hm.put hrC).put (hm.free hn'), hm.free hn', ?_⟩
      · exact ⟨rfl, rfl, trivial⟩
      · rw [updC_same, ← List.map_append, ← List.map_append]
        rfl
  · rintro Δ C' ⟨p, rfl, hm, hp, hc⟩
    rw [rngD_len] at hc
    exact ds_ret (pu_var rfl) (rt_fz cl hm (dz_lst hc hp) q)

end
end K20

namespace K20
open PySem PySem.Spec PyProof.Rows L2 Ab Lm Hm
section
variable {P : Program} {w : World} {K : PySem.W.Frag} {mg : Str → Option Value} {base : Heap}
abbrev s__law_played : Stmt := topS 13
abbrev N__law_played : List Str := ["kinds", "parties", "group", "history", "stock", "party", "event", "giver", "taker", "kind", "amount"]
theorem sc__law_played : FnScope N__law_played ["kinds", "parties", "group", "history"] (defScope s__law_played) := ⟨rfl, rfl, rfl, by decide +kernel, rfl, by decide +kernel, by decide +kernel⟩

theorem ok__law_played {f__law_played : Addr} {fd__law_played : FuncData} (F__law_played : Fun K "_law_played" "_law_played" s__law_played f__law_played fd__law_played) : FnOk P w K mg base CX0 1 f__law_played fd__law_played ["kinds", "parties", "group", "history"] (SpG K rel__law_played) := by
  refine ok_def F__law_played sc__law_played (fun C xs R h => by obtain ⟨_, _, _, _, rfl, _⟩ := h; rfl) (fun cdv A outer s H E hr => ?_)
  refine ⟨_, (pss_cons (ps_setLc (i := 4) (own := [("party", 5)]) rfl sc__law_played.nd rfl rfl (sw_true rfl rfl rfl (by decide +kernel)) (kx_pTup K rfl (pv 1)) (blkOk_by (N := N__law_played) (sc := defScope s__law_played) (by decide +kernel)) (fun _ _ _ _ _ => (pg_name (i := 5) sc__law_played.nd rfl (Or.inl rfl))) (fun _ _ _ _ _ => pts_nil) (fun _ _ _ _ _ => (pe_op op_rep (pe_lst (pa_cons pe_int pa_nil)) (pv 0))))
  (pss_cons (ps_for PassesOwn.never rfl (kx_pList K rfl (pv 3)) (pg_name (i := 6) sc__law_played.nd rfl (Or.inl rfl)) (pss_one (ps_if (pt_cmpR (kx_in K rfl) (pe_ix (kx_ixT K rfl) (pv 6) pe_int (fun _ _ => rfl)) (pe_tup (pa_cons pe_str (pa_cons pe_str pa_nil))) (by rfl)) (pss_cons (ps_asg (pe_ifExp (pt_cmpR op_eq (pe_ix (kx_ixT K rfl) (pv 6) pe_int (fun _ _ => rfl)) pe_str (nomark _)) (pe_slice (kx_slA K rfl) (pv 6) (po_some pe_int) (po_some pe_int)) (pe_slice (kx_slA K rfl) (pv 6) (po_some pe_int) (po_some pe_int))) (pg_tup rfl (pgs_cons (pg_name (i := 7) sc__law_played.nd rfl (Or.inl rfl)) (pgs_cons (pg_name (i := 8) sc__law_played.nd rfl (Or.inl rfl)) (pgs_cons (pg_name (i := 9) sc__law_played.nd rfl (Or.inl rfl)) (pgs_cons (pg_name (i := 10) sc__law_played.nd rfl (Or.inl rfl)) pgs_nil))))))
  (pss_cons (ps_if (PW.pt (pw_or (pt_cmpR op_eq (pv 7) (pv 8) (nomark _)) (pw_or1 (pt_cmpR op_lt (pe_ix (kx_ixL K rfl) (pe_ix (kx_ixL K rfl) (pv 4) (pv 7) (fun _ _ => rfl)) (pv 9) (fun _ _ => rfl)) (pv 10) (nomark _))))) (pss_one (ps_ret pe_non)) pss_nil)
  (pss_cons (ps_if (PW.pt (pw_and (pt_cmpR op_eq (pe_ix (kx_ixT K rfl) (pv 6) pe_int (fun _ _ => rfl)) pe_str (nomark _)) (pw_and1 (PW.pt (pw_or (pt_cmpR (kx_notIn K rfl) (pv 7) (pv 2) (by rfl)) (pw_or1 (pt_cmpR (kx_notIn K rfl) (pv 8) (pv 2) (by rfl)))))))) (pss_one (ps_ret pe_non)) pss_nil)
  (pss_cons (ps_asg (pe_op op_sub (pe_ix (kx_ixL K rfl) (pe_ix (kx_ixL K rfl) (pv 4) (pv 7) (fun _ _ => rfl)) (pv 9) (fun _ _ => rfl)) (pv 10)) (pg_sub (pe_ix (kx_ixL K rfl) (pv 4) (pv 7) (fun _ _ => rfl)) (pv 9) set_list))
  (pss_one (ps_asg (pe_op op_add (pe_ix (kx_ixL K rfl) (pe_ix (kx_ixL K rfl) (pv 4) (pv 8) (fun _ _ => rfl)) (pv 9) (fun _ _ => rfl)) (pv 10)) (pg_sub (pe_ix (kx_ixL K rfl) (pv 4) (pv 8) (fun _ _ => rfl)) (pv 9) set_list))))))) (pss_cons (ps_asg (pe_slice (kx_slA K rfl) (pv 6) (po_some (pe_un un_neg pe_int)) po_none) (pg_tup rfl (pgs_cons (pg_name (i := 5) sc__law_played.nd rfl (Or.inl rfl)) (pgs_cons (pg_name (i := 9) sc__law_played.nd rfl (Or.inl rfl)) (pgs_cons (pg_name (i := 10) sc__law_played.nd rfl (Or.inl rfl)) pgs_nil)))))
  (pss_cons (ps_if (PW.pt (pw_and (pt_cmpR (kx_in K rfl) (pe_ix (kx_ixT K rfl) (pv 6) pe_int (fun _ _ => rfl)) (pe_tup (pa_cons pe_str (pa_cons pe_str pa_nil))) (by rfl)) (pw_and1 (pt_cmpR (kx_notIn K rfl) (pv 5) (pv 2) (by rfl))))) (pss_one (ps_ret pe_non)) pss_nil)
  (pss_cons (ps_if (PW.pt (pw_and (pt_cmpR (kx_in K rfl) (pe_ix (kx_ixT K rfl) (pv 6) pe_int (fun _ _ => rfl)) (pe_tup (pa_cons pe_str (pa_cons pe_str pa_nil))) (by rfl)) (pw_and1 (pt_not (pt_val (pe_ix (kx_ixT K rfl) (pe_ix (kx_ixT K rfl) (pv 1) (pv 5) (fun _ _ => rfl)) pe_int (fun _ _ => rfl))))))) (pss_one (ps_ret pe_non)) pss_nil)
  (pss_cons (ps_if (PW.pt (pw_and (pt_cmpR op_eq (pe_ix (kx_ixT K rfl) (pv 6) pe_int (fun _ _ => rfl)) pe_str (nomark _)) (pw_and1 (pt_not (pt_val (pe_ix (kx_ixT K rfl) (pe_ix (kx_ixT K rfl) (pv 1) (pv 5) (fun _ _ => rfl)) pe_int (fun _ _ => rfl))))))) (pss_one (ps_ret pe_non)) pss_nil)
  (pss_cons (ps_if (PW.pt (pw_and (pt_cmpR op_eq (pe_ix (kx_ixT K rfl) (pv 6) pe_int (fun _ _ => rfl)) pe_str (nomark _)) (pw_and1 (pt_cmpR op_ne (pe_ix (kx_ixL K rfl) (pe_ix (kx_ixL K rfl) (pv 4) (pv 5) (fun _ _ => rfl)) (pv 9) (fun _ _ => rfl)) (pv 10) (nomark _))))) (pss_one (ps_ret pe_non)) pss_nil)
  (pss_cons (ps_if (PW.pt (pw_and (pt_cmpR (kx_in K rfl) (pe_ix (kx_ixT K rfl) (pv 6) pe_int (fun _ _ => rfl)) (pe_tup (pa_cons pe_str (pa_cons pe_str pa_nil))) (by rfl)) (pw_and1 (pt_cmpR op_lt (pe_ix (kx_ixL K rfl) (pe_ix (kx_ixL K rfl) (pv 4) (pv 5) (fun _ _ => rfl)) (pv 9) (fun _ _ => rfl)) (pv 10) (nomark _))))) (pss_one (ps_ret pe_non)) pss_nil)
  (pss_one (ps_if (pt_cmpR (kx_in K rfl) (pe_ix (kx_ixT K rfl) (pv 6) pe_int (fun _ _ => rfl)) (pe_tup (pa_cons pe_str (pa_cons pe_str pa_nil))) (by rfl)) (pss_one (ps_asg (pe_op op_add (pe_ix (kx_ixL K rfl) (pe_ix (kx_ixL K rfl) (pv 4) (pv 5) (fun _ _ => rfl)) (pv 9) (fun _ _ => rfl)) (pv 10)) (pg_sub (pe_ix (kx_ixL K rfl) (pv 4) (pv 5) (fun _ _ => rfl)) (pv 9) set_list))) (pss_one (ps_if (pt_cmpR op_ne (pe_ix (kx_ixT K rfl) (pv 6) pe_int (fun _ _ => rfl)) pe_str (nomark _)) (pss_one (ps_asg (pe_op op_sub (pe_ix (kx_ixL K rfl) (pe_ix (kx_ixL K rfl) (pv 4) (pv 5) (fun _ _ => rfl)) (pv 9) (fun _ _ => rfl)) (pv 10)) (pg_sub (pe_ix (kx_ixL K rfl) (pv 4) (pv 5) (fun _ _ => rfl)) (pv 9) set_list))) pss_nil)))))))))))))
  (pss_one (ps_ret (pv 4))))), ?_⟩
  rintro C xs R cl ⟨kd, pf, grp, es, rfl, hkd, hp, hl, ok, q⟩
  have e0 : ((List.replicate kd (PyData.int 0)).map Ax.dat) = (List.replicate ((kd : Int)).toNat [I 0]).flatten := by
    rw [flatten_one, List.map_replicate, show ((kd : Int)).toNat = kd by omega]
  have e1 : List.replicate pf.length (List.replicate kd (PyData.int 0)) = rowsD (st0 pf.length kd) := by
    unfold rowsD st0 rowD
    rw [List.map_replicate, List.map_replicate]
  refine ds_setE (ev_grid (r := List.replicate kd (.int 0)) (ui_tupD (pu_var rfl)) (by simp; omega) (fun _ _ => trivial) fun i x C' m hx => ⟨_, [5], by simp, tg_name, by rw [e0]; exact pl_rep (pl_lst (au_cons pu_int au_nil) (lk rfl)) (pu_var rfl) (by omega) (by omega) (by simp)⟩) ?_
  rintro _ C1 ⟨p, ps, rfl, G⟩
  rw [List.length_map, List.length_map, e1] at G
  refine ds_forS (fun i Δ C' => Δ = [some (I kd), some (T (pf.map pfD)), some (T (grp.map .int)), some (Ls (es.map evD)), some (.ref p), none, none, none, none, none, none] ∧ ∃ st, runM pf grp (st0 pf.length kd) (es.take i) = some st ∧ Shp pf.length kd st ∧ Grid C C' p ps (rowsD st))
    (ui_listD (pu_var rfl)) ⟨_, ?_, rfl, _, rfl, st0_shp _ _, G⟩ (fun _ _ _ _ => trivial) ?_ ?_
  · exact ⟨rfl, rfl, rfl, rfl, rfl, trivial⟩
  · rintro j x Δ C' hx ⟨rfl, st, hst, hS, G⟩
    obtain ⟨d, hd, rfl⟩ := datget hx
    obtain ⟨e, he, rfl⟩ := mapget hd
    have ek := ok e (List.mem_of_getElem? he)
    have sn := runM_snoc he hst
    have non : stepM pf grp st e = none → Rt C R No C' := fun h => by
      rw [h] at sn
      rw [runM_stop sn] at q
      exact rt_dat cl G.mor q
    refine ⟨_, _, tg_name, ?_⟩
    cases e with
    | hand n g t k a b =>
      obtain ⟨g0, g1, t0, t1, k0, k1⟩ := id ek
      obtain ⟨q1, a1, a2, a3, a4⟩ := grid_row G.toA hS g0 g1
      have l1 := hS.row (i := g.toNat) (by omega)
      refine ds_if (ut_test (pu_in (ss := ["handed", "passed"]) (pu_ixT (pu_var rfl) pu_int rfl) (pu_tup (ds := [.str "handed", .str "passed"]) (au_cons pu_str (au_cons pu_str au_nil)) (lk rfl)))) (fun hc => ?_) (fun hc => absurd hc (by decide))
      refine ds_tgt (pu_if (ut_test (pu_eqStr (pu_ixT (pu_var rfl) pu_int rfl) pu_str)) (fun h => (pu_slA (pu_var rfl) (uo_some pu_int) (uo_some pu_int) rfl)) (fun h => absurd h (by decide))) (tg_tup (tgl_cons tg_name (tgl_cons tg_name (tgl_cons tg_name (tgl_cons tg_name tgl_nil)))) rfl) ?_
      refine ds_ifs (ut_or (ut_test (pu_eqI (pu_var rfl) (pu_var rfl))) fun h => (ut_test (pu_lt (pu_ixM (pu_ixM (pu_var rfl) (pu_var rfl) G.top a4) (pu_var rfl) a3 (row_at k0 (by omega))) (pu_var rfl)))) (fun h => ?_) (fun h => ?_)
      · refine ds_retseq (ds_ret pu_no (non ?_))
        rw [Bool.or_eq_true] at h
        simp only [stepM, alwM, hapM]
        rcases h with h | h
        · rw [of_decide_eq_true h]
          simp
        · have h : getM st g k < a := of_decide_eq_true h
          rw [if_pos h]
          exact ite_self _
      rw [Bool.or_eq_false_iff] at h
      have n1 : ¬ g = t := of_decide_eq_false h.1
      have n2 : ¬ getM st g k < a := of_decide_eq_false h.2
      refine ds_nextseq (ds_ifs (b := false) (ut_and (a := false) (b := false) (ut_is (ut_test (pu_eqStr (pu_ixT (pu_var rfl) pu_int rfl) pu_str)) (by decide)) (fun h => by cases h)) (fun h => by cases h) (fun h => ds_nextseq ?_))
      have h3 : stepM pf grp st (.hand n g t k a b) = some (addM (addM st g k (-a)) t k a) := by
        simp only [stepM, alwM, hapM, decide_eq_false n1, if_neg n2]
        rfl
      refine ds_setix (pu_sub (pu_ixM (pu_ixM (pu_var rfl) (pu_var rfl) G.top a4) (pu_var rfl) a3 (row_at k0 (by omega))) (pu_var rfl)) (pu_ixM (pu_var rfl) (pu_var rfl) G.top a4) (pu_var rfl) a3 (ixk k0 (by rw [List.length_map, rowD, List.length_map]; omega)) ?_
      rw [row_set]
      have G1 : GridA _ p ps (rowsD (addM st g k (-a))) := grid_add (a := -a) (k := k) G.toA a1
      have S1 := hS.add (p := g) (k := k) (a := -a) (by omega)
      have O1 : Only ps C' (updC C' q1 (.lst ((rowD ((st.getD g.toNat []).set k.toNat (getM st g k + -a))).map .dat))) := Only.refl.put a2
      obtain ⟨q2, b1, b2, b3, b4⟩ := grid_row G1 S1 t0 t1
      have l2 := S1.row (i := t.toNat) (by omega)
      refine ds_setix1 (pu_add (pu_ixM (pu_ixM (pu_var rfl) (pu_var rfl) G1.top b4) (pu_var rfl) b3 (row_at k0 (by omega))) (pu_var rfl)) (pu_ixM (pu_var rfl) (pu_var rfl) G1.top b4) (pu_var rfl) b3 (ixk k0 (by rw [List.length_map, rowD, List.length_map]; omega)) ?_
      rw [row_set]
      refine ⟨_, ?_, rfl, _, sn.trans h3, stepM_shp hS ek h3, G.ofA (O1.put b2) (grid_add G1 b1)⟩
      exact ⟨rfl, rfl, rfl, rfl, rfl, trivial⟩
    | pass g t k a =>
      obtain ⟨g0, g1, t0, t1, k0, k1⟩ := id ek
      obtain ⟨q1, a1, a2, a3, a4⟩ := grid_row G.toA hS g0 g1
      have l1 := hS.row (i := g.toNat) (by omega)
      refine ds_if (ut_test (pu_in (ss := ["handed", "passed"]) (pu_ixT (pu_var rfl) pu_int rfl) (pu_tup (ds := [.str "handed", .str "passed"]) (au_cons pu_str (au_cons pu_str au_nil)) (lk rfl)))) (fun hc => ?_) (fun hc => absurd hc (by decide))
      refine ds_tgt (pu_if (ut_test (pu_eqStr (pu_ixT (pu_var rfl) pu_int rfl) pu_str)) (fun h => absurd h (by decide)) (fun h => (pu_slA (pu_var rfl) (uo_some pu_int) (uo_some pu_int) rfl))) (tg_tup (tgl_cons tg_name (tgl_cons tg_name (tgl_cons tg_name (tgl_cons tg_name tgl_nil)))) rfl) ?_
      refine ds_ifs (ut_or (ut_test (pu_eqI (pu_var rfl) (pu_var rfl))) fun h => (ut_test (pu_lt (pu_ixM (pu_ixM (pu_var rfl) (pu_var rfl) G.top a4) (pu_var rfl) a3 (row_at k0 (by omega))) (pu_var rfl)))) (fun h => ?_) (fun h => ?_)
      · refine ds_retseq (ds_ret pu_no (non ?_))
        rw [Bool.or_eq_true] at h
        simp only [stepM, alwM, hapM]
        rcases h with h | h
        · rw [of_decide_eq_true h]
          simp
        · have h : getM st g k < a := of_decide_eq_true h
          rw [if_pos h]
          exact ite_self _
      rw [Bool.or_eq_false_iff] at h
      have n1 : ¬ g = t := of_decide_eq_false h.1
      have n2 : ¬ getM st g k < a := of_decide_eq_false h.2
      refine ds_nextseq (ds_ifs (ut_and (ut_is (b := true) (ut_test (pu_eqStr (pu_ixT (pu_var rfl) pu_int rfl) pu_str)) (by decide)) fun h => (ut_or (ut_test (pu_notInI (pu_var rfl) (pu_var rfl))) fun h => (ut_test (pu_notInI (pu_var rfl) (pu_var rfl))))) (fun h => ?_) (fun h => ds_nextseq ?_))
      · refine ds_retseq (ds_ret pu_no (non ?_))
        rw [Bool.true_and, Bool.or_eq_true] at h
        rcases h with h | h
        · rw [Bool.not_eq_true'] at h
          simp only [stepM, alwM, h]
          simp
        · rw [Bool.not_eq_true'] at h
          simp only [stepM, alwM, h]
          simp
      rw [Bool.true_and, Bool.or_eq_false_iff, Bool.not_eq_false', Bool.not_eq_false'] at h
      have h3 : stepM pf grp st (.pass g t k a) = some (addM (addM st g k (-a)) t k a) := by
        simp only [stepM, alwM, hapM, decide_eq_false n1, h.1, h.2, if_neg n2]
        rfl
      refine ds_setix (pu_sub (pu_ixM (pu_ixM (pu_var rfl) (pu_var rfl) G.top a4) (pu_var rfl) a3 (row_at k0 (by omega))) (pu_var rfl)) (pu_ixM (pu_var rfl) (pu_var rfl) G.top a4) (pu_var rfl) a3 (ixk k0 (by rw [List.length_map, rowD, List.length_map]; omega)) ?_
      rw [row_set]
      have G1 : GridA _ p ps (rowsD (addM st g k (-a))) := grid_add (a := -a) (k := k) G.toA a1
      have S1 := hS.add (p := g) (k := k) (a := -a) (by omega)
      have O1 : Only ps C' (updC C' q1 (.lst ((rowD ((st.getD g.toNat []).set k.toNat (getM st g k + -a))).map .dat))) := Only.refl.put a2
      obtain ⟨q2, b1, b2, b3, b4⟩ := grid_row G1 S1 t0 t1
      have l2 := S1.row (i := t.toNat) (by omega)
      refine ds_setix1 (pu_add (pu_ixM (pu_ixM (pu_var rfl) (pu_var rfl) G1.top b4) (pu_var rfl) b3 (row_at k0 (by omega))) (pu_var rfl)) (pu_ixM (pu_var rfl) (pu_var rfl) G1.top b4) (pu_var rfl) b3 (ixk k0 (by rw [List.length_map, rowD, List.length_map]; omega)) ?_
      rw [row_set]
      refine ⟨_, ?_, rfl, _, sn.trans h3, stepM_shp hS ek h3, G.ofA (O1.put b2) (grid_add G1 b1)⟩
      exact ⟨rfl, rfl, rfl, rfl, rfl, trivial⟩
    | own w n i k a =>
      obtain ⟨hw, i0, i1, k0, k1⟩ := id ek
      obtain ⟨q1, a1, a2, a3, a4⟩ := grid_row G.toA hS i0 i1
      have l1 := hS.row (i := i.toNat) (by omega)
      simp only [List.mem_cons, List.not_mem_nil, or_false] at hw
      rcases hw with rfl | rfl | rfl
      · refine ds_if (ut_is (b := false) (ut_test (pu_in (ss := ["handed", "passed"]) (pu_ixT (pu_var rfl) pu_int rfl) (pu_tup (ds := [.str "handed", .str "passed"]) (au_cons pu_str (au_cons pu_str au_nil)) (lk rfl)))) (by decide)) (fun h => by cases h) (fun h => ?_)
        refine ds_tgt (pu_slA (pu_var rfl) (uo_some (pu_neg pu_int)) uo_none rfl) (tg_tup (tgl_cons tg_name (tgl_cons tg_name (tgl_cons tg_name tgl_nil))) rfl) ?_
        refine (ds_ifs (b := false) (ut_and (a := false) (b := false) (ut_is (ut_test (pu_in (ss := ["dumped", "conjured"]) (pu_ixT (pu_var rfl) pu_int rfl) (pu_tup (ds := [.str "dumped", .str "conjured"]) (au_cons pu_str (au_cons pu_str au_nil)) (lk rfl)))) (by decide)) (fun h => by cases h)) (fun h => by cases h) (fun h => ?_))
        refine ds_nextseq (ds_ifs (ut_and (ut_is (b := true) (ut_test (pu_in (ss := ["made", "conjured"]) (pu_ixT (pu_var rfl) pu_int rfl) (pu_tup (ds := [.str "made", .str "conjured"]) (au_cons pu_str (au_cons pu_str au_nil)) (lk rfl)))) (by decide)) fun h => (ut_not (ut_B (pu_ixT (pu_ixT (pu_var rfl) (pu_var rfl) (pf_at i0 i1)) pu_int rfl)))) (fun h => ?_) (fun hmakes => ?_))
        · refine ds_retseq (ds_ret pu_no (non ?_))
          rw [Bool.true_and] at h
          rw [Bool.not_eq_true'] at h
          have h : (pfAt pf i).1 = false := h
          simp [s_tm, s_fm, s_ft, s_cd, stepM, alwM, h]
        rw [Bool.true_and] at hmakes
        rw [Bool.not_eq_false'] at hmakes
        have hmakes : (pfAt pf i).1 = true := hmakes
        refine ds_nextseq (ds_ifs (b := false) (ut_and (a := false) (b := false) (ut_is (ut_test (pu_eqStr (pu_ixT (pu_var rfl) pu_int rfl) pu_str)) (by decide)) (fun h => by cases h)) (fun h => by cases h) (fun h => ?_))
        refine ds_nextseq (ds_ifs (b := false) (ut_and (a := false) (b := false) (ut_is (ut_test (pu_eqStr (pu_ixT (pu_var rfl) pu_int rfl) pu_str)) (by decide)) (fun h => by cases h)) (fun h => by cases h) (fun h => ?_))
        refine ds_nextseq (ds_ifs (b := false) (ut_and (a := false) (b := false) (ut_is (ut_test (pu_in (ss := ["treated", "dumped"]) (pu_ixT (pu_var rfl) pu_int rfl) (pu_tup (ds := [.str "treated", .str "dumped"]) (au_cons pu_str (au_cons pu_str au_nil)) (lk rfl)))) (by decide)) (fun h => by cases h)) (fun h => by cases h) (fun h => ?_))
        have h3 : stepM pf grp st (.own "made" n i k a) = some (addM st i k a) := by simp [s_tm, s_fm, s_ft, s_cd, stepM, alwM, hapM, hmakes]
        refine ds_nextseq (ds_if (ut_is (b := true) (ut_test (pu_in (ss := ["made", "conjured"]) (pu_ixT (pu_var rfl) pu_int rfl) (pu_tup (ds := [.str "made", .str "conjured"]) (au_cons pu_str (au_cons pu_str au_nil)) (lk rfl)))) (by decide)) (fun h => ?_) (fun h => by cases h))
        refine ds_setix1 (pu_add (pu_ixM (pu_ixM (pu_var rfl) (pu_var rfl) G.top a4) (pu_var rfl) a3 (row_at k0 (by omega))) (pu_var rfl)) (pu_ixM (pu_var rfl) (pu_var rfl) G.top a4) (pu_var rfl) a3 (ixk k0 (by rw [List.length_map, rowD, List.length_map]; omega)) ?_
        rw [row_set]
        refine ⟨_, ?_, rfl, _, sn.trans h3, stepM_shp hS ek h3, G.ofA (Only.refl.put a2) (grid_add G.toA a1)⟩
        exact ⟨rfl, rfl, rfl, rfl, rfl, trivial⟩
      · refine ds_if (ut_is (b := false) (ut_test (pu_in (ss := ["handed", "passed"]) (pu_ixT (pu_var rfl) pu_int rfl) (pu_tup (ds := [.str "handed", .str "passed"]) (au_cons pu_str (au_cons pu_str au_nil)) (lk rfl)))) (by decide)) (fun h => by cases h) (fun h => ?_)
        refine ds_tgt (pu_slA (pu_var rfl) (uo_some (pu_neg pu_int)) uo_none rfl) (tg_tup (tgl_cons tg_name (tgl_cons tg_name (tgl_cons tg_name tgl_nil))) rfl) ?_
        refine (ds_ifs (b := false) (ut_and (a := false) (b := false) (ut_is (ut_test (pu_in (ss := ["dumped", "conjured"]) (pu_ixT (pu_var rfl) pu_int rfl) (pu_tup (ds := [.str "dumped", .str "conjured"]) (au_cons pu_str (au_cons pu_str au_nil)) (lk rfl)))) (by decide)) (fun h => by cases h)) (fun h => by cases h) (fun h => ?_))
        refine ds_nextseq (ds_ifs (b := false) (ut_and (a := false) (b := false) (ut_is (ut_test (pu_in (ss := ["made", "conjured"]) (pu_ixT (pu_var rfl) pu_int rfl) (pu_tup (ds := [.str "made", .str "conjured"]) (au_cons pu_str (au_cons pu_str au_nil)) (lk rfl)))) (by decide)) (fun h => by cases h)) (fun h => by cases h) (fun h => ?_))
        refine ds_nextseq (ds_ifs (ut_and (ut_is (b := true) (ut_test (pu_eqStr (pu_ixT (pu_var rfl) pu_int rfl) pu_str)) (by decide)) fun h => (ut_not (ut_B (pu_ixT (pu_ixT (pu_var rfl) (pu_var rfl) (pf_at i0 i1)) pu_int rfl)))) (fun h => ?_) (fun htreats => ?_))
        · refine ds_retseq (ds_ret pu_no (non ?_))
          rw [Bool.true_and] at h
          rw [Bool.not_eq_true'] at h
          have h : (pfAt pf i).2 = false := h
          simp [s_tm, s_fm, s_ft, s_cd, stepM, alwM, h]
        rw [Bool.true_and] at htreats
        rw [Bool.not_eq_false'] at htreats
        have htreats : (pfAt pf i).2 = true := htreats
        refine ds_nextseq (ds_ifs (b := false) (ut_and (a := false) (b := false) (ut_is (ut_test (pu_eqStr (pu_ixT (pu_var rfl) pu_int rfl) pu_str)) (by decide)) (fun h => by cases h)) (fun h => by cases h) (fun h => ?_))
        refine ds_nextseq (ds_ifs (ut_and (ut_is (b := true) (ut_test (pu_in (ss := ["treated", "dumped"]) (pu_ixT (pu_var rfl) pu_int rfl) (pu_tup (ds := [.str "treated", .str "dumped"]) (au_cons pu_str (au_cons pu_str au_nil)) (lk rfl)))) (by decide)) fun h => (ut_test (pu_lt (pu_ixM (pu_ixM (pu_var rfl) (pu_var rfl) G.top a4) (pu_var rfl) a3 (row_at k0 (by omega))) (pu_var rfl)))) (fun h => ?_) (fun hlt => ?_))
        · refine ds_retseq (ds_ret pu_no (non ?_))
          rw [Bool.true_and] at h
          have h : getM st i k < a := of_decide_eq_true h
          simp [s_tm, s_fm, s_ft, s_cd, stepM, hapM, h]
        rw [Bool.true_and] at hlt
        have hlt : ¬ getM st i k < a := of_decide_eq_false hlt
        have h3 : stepM pf grp st (.own "treated" n i k a) = some (addM st i k (-a)) := by simp [s_tm, s_fm, s_ft, s_cd, stepM, alwM, hapM, htreats, hlt]
        refine ds_nextseq (ds_if (ut_is (b := false) (ut_test (pu_in (ss := ["made", "conjured"]) (pu_ixT (pu_var rfl) pu_int rfl) (pu_tup (ds := [.str "made", .str "conjured"]) (au_cons pu_str (au_cons pu_str au_nil)) (lk rfl)))) (by decide)) (fun h => by cases h) (fun h => ?_))
        refine ds_if (ut_is (b := true) (ut_test (pu_neStr (pu_ixT (pu_var rfl) pu_int rfl) pu_str)) (by decide)) (fun h => ?_) (fun h => by cases h)
        refine ds_setix1 (pu_sub (pu_ixM (pu_ixM (pu_var rfl) (pu_var rfl) G.top a4) (pu_var rfl) a3 (row_at k0 (by omega))) (pu_var rfl)) (pu_ixM (pu_var rfl) (pu_var rfl) G.top a4) (pu_var rfl) a3 (ixk k0 (by rw [List.length_map, rowD, List.length_map]; omega)) ?_
        rw [row_set]
        refine ⟨_, ?_, rfl, _, sn.trans h3, stepM_shp hS ek h3, G.ofA (Only.refl.put a2) (grid_add (a := -a) G.toA a1)⟩
        exact ⟨rfl, rfl, rfl, rfl, rfl, trivial⟩
      · refine ds_if (ut_is (b := false) (ut_test (pu_in (ss := ["handed", "passed"]) (pu_ixT (pu_var rfl) pu_int rfl) (pu_tup (ds := [.str "handed", .str "passed"]) (au_cons pu_str (au_cons pu_str au_nil)) (lk rfl)))) (by decide)) (fun h => by cases h) (fun h => ?_)
        refine ds_tgt (pu_slA (pu_var rfl) (uo_some (pu_neg pu_int)) uo_none rfl) (tg_tup (tgl_cons tg_name (tgl_cons tg_name (tgl_cons tg_name tgl_nil))) rfl) ?_
        refine (ds_ifs (b := false) (ut_and (a := false) (b := false) (ut_is (ut_test (pu_in (ss := ["dumped", "conjured"]) (pu_ixT (pu_var rfl) pu_int rfl) (pu_tup (ds := [.str "dumped", .str "conjured"]) (au_cons pu_str (au_cons pu_str au_nil)) (lk rfl)))) (by decide)) (fun h => by cases h)) (fun h => by cases h) (fun h => ?_))
        refine ds_nextseq (ds_ifs (b := false) (ut_and (a := false) (b := false) (ut_is (ut_test (pu_in (ss := ["made", "conjured"]) (pu_ixT (pu_var rfl) pu_int rfl) (pu_tup (ds := [.str "made", .str "conjured"]) (au_cons pu_str (au_cons pu_str au_nil)) (lk rfl)))) (by decide)) (fun h => by cases h)) (fun h => by cases h) (fun h => ?_))
        refine ds_nextseq (ds_ifs (b := false) (ut_and (a := false) (b := false) (ut_is (ut_test (pu_eqStr (pu_ixT (pu_var rfl) pu_int rfl) pu_str)) (by decide)) (fun h => by cases h)) (fun h => by cases h) (fun h => ?_))
        refine ds_nextseq (ds_ifs (ut_and (ut_is (b := true) (ut_test (pu_eqStr (pu_ixT (pu_var rfl) pu_int rfl) pu_str)) (by decide)) fun h => (ut_test (pu_neI (pu_ixM (pu_ixM (pu_var rfl) (pu_var rfl) G.top a4) (pu_var rfl) a3 (row_at k0 (by omega))) (pu_var rfl)))) (fun h => ?_) (fun hne => ?_))
        · refine ds_retseq (ds_ret pu_no (non ?_))
          rw [Bool.true_and] at h
          rw [Bool.not_eq_true'] at h
          have h : ¬ getM st i k = a := of_decide_eq_false h
          simp [s_tm, s_fm, s_ft, s_cd, stepM, hapM, h]
        rw [Bool.true_and] at hne
        rw [Bool.not_eq_false'] at hne
        have hne : getM st i k = a := of_decide_eq_true hne
        refine ds_nextseq (ds_ifs (b := false) (ut_and (a := false) (b := false) (ut_is (ut_test (pu_in (ss := ["treated", "dumped"]) (pu_ixT (pu_var rfl) pu_int rfl) (pu_tup (ds := [.str "treated", .str "dumped"]) (au_cons pu_str (au_cons pu_str au_nil)) (lk rfl)))) (by decide)) (fun h => by cases h)) (fun h => by cases h) (fun h => ?_))
        have h3 : stepM pf grp st (.own "found" n i k a) = some (st) := by simp [s_tm, s_fm, s_ft, s_cd, stepM, alwM, hapM, hne]
        refine ds_nextseq (ds_if (ut_is (b := false) (ut_test (pu_in (ss := ["made", "conjured"]) (pu_ixT (pu_var rfl) pu_int rfl) (pu_tup (ds := [.str "made", .str "conjured"]) (au_cons pu_str (au_cons pu_str au_nil)) (lk rfl)))) (by decide)) (fun h => by cases h) (fun h => ?_))
        refine ds_if (ut_is (b := false) (ut_test (pu_neStr (pu_ixT (pu_var rfl) pu_int rfl) pu_str)) (by decide)) (fun h => by cases h) (fun h => ds_next ⟨_, ?_, rfl, _, sn.trans h3, hS, G⟩)
        exact ⟨rfl, rfl, rfl, rfl, rfl, trivial⟩
    | sec w i k a =>
      obtain ⟨hw, i0, i1, k0, k1⟩ := id ek
      obtain ⟨q1, a1, a2, a3, a4⟩ := grid_row G.toA hS i0 i1
      have l1 := hS.row (i := i.toNat) (by omega)
      simp only [List.mem_cons, List.not_mem_nil, or_false] at hw
      rcases hw with rfl | rfl
      · refine ds_if (ut_is (b := false) (ut_test (pu_in (ss := ["handed", "passed"]) (pu_ixT (pu_var rfl) pu_int rfl) (pu_tup (ds := [.str "handed", .str "passed"]) (au_cons pu_str (au_cons pu_str au_nil)) (lk rfl)))) (by decide)) (fun h => by cases h) (fun h => ?_)
        refine ds_tgt (pu_slA (pu_var rfl) (uo_some (pu_neg pu_int)) uo_none rfl) (tg_tup (tgl_cons tg_name (tgl_cons tg_name (tgl_cons tg_name tgl_nil))) rfl) ?_
        refine (ds_ifs (ut_and (ut_is (b := true) (ut_test (pu_in (ss := ["dumped", "conjured"]) (pu_ixT (pu_var rfl) pu_int rfl) (pu_tup (ds := [.str "dumped", .str "conjured"]) (au_cons pu_str (au_cons pu_str au_nil)) (lk rfl)))) (by decide)) fun h => (ut_test (pu_notInI (pu_var rfl) (pu_var rfl)))) (fun h => ?_) (fun hnotin => ?_))
        · refine ds_retseq (ds_ret pu_no (non ?_))
          rw [Bool.true_and] at h
          rw [Bool.not_eq_true'] at h
          simp [s_tm, s_fm, s_ft, s_cd, stepM, alwM, h]
        rw [Bool.true_and] at hnotin
        rw [Bool.not_eq_false'] at hnotin
        refine ds_nextseq (ds_ifs (b := false) (ut_and (a := false) (b := false) (ut_is (ut_test (pu_in (ss := ["made", "conjured"]) (pu_ixT (pu_var rfl) pu_int rfl) (pu_tup (ds := [.str "made", .str "conjured"]) (au_cons pu_str (au_cons pu_str au_nil)) (lk rfl)))) (by decide)) (fun h => by cases h)) (fun h => by cases h) (fun h => ?_))
        refine ds_nextseq (ds_ifs (b := false) (ut_and (a := false) (b := false) (ut_is (ut_test (pu_eqStr (pu_ixT (pu_var rfl) pu_int rfl) pu_str)) (by decide)) (fun h => by cases h)) (fun h => by cases h) (fun h => ?_))
        refine ds_nextseq (ds_ifs (b := false) (ut_and (a := false) (b := false) (ut_is (ut_test (pu_eqStr (pu_ixT (pu_var rfl) pu_int rfl) pu_str)) (by decide)) (fun h => by cases h)) (fun h => by cases h) (fun h => ?_))
        refine ds_nextseq (ds_ifs (ut_and (ut_is (b := true) (ut_test (pu_in (ss := ["treated", "dumped"]) (pu_ixT (pu_var rfl) pu_int rfl) (pu_tup (ds := [.str "treated", .str "dumped"]) (au_cons pu_str (au_cons pu_str au_nil)) (lk rfl)))) (by decide)) fun h => (ut_test (pu_lt (pu_ixM (pu_ixM (pu_var rfl) (pu_var rfl) G.top a4) (pu_var rfl) a3 (row_at k0 (by omega))) (pu_var rfl)))) (fun h => ?_) (fun hlt => ?_))
        · refine ds_retseq (ds_ret pu_no (non ?_))
          rw [Bool.true_and] at h
          have h : getM st i k < a := of_decide_eq_true h
          simp [s_tm, s_fm, s_ft, s_cd, stepM, hapM, h]
        rw [Bool.true_and] at hlt
        have hlt : ¬ getM st i k < a := of_decide_eq_false hlt
        have h3 : stepM pf grp st (.sec "dumped" i k a) = some (addM st i k (-a)) := by simp [s_tm, s_fm, s_ft, s_cd, stepM, alwM, hapM, hnotin, hlt]
        refine ds_nextseq (ds_if (ut_is (b := false) (ut_test (pu_in (ss := ["made", "conjured"]) (pu_ixT (pu_var rfl) pu_int rfl) (pu_tup (ds := [.str "made", .str "conjured"]) (au_cons pu_str (au_cons pu_str au_nil)) (lk rfl)))) (by decide)) (fun h => by cases h) (fun h => ?_))
        refine ds_if (ut_is (b := true) (ut_test (pu_neStr (pu_ixT (pu_var rfl) pu_int rfl) pu_str)) (by decide)) (fun h => ?_) (fun h => by cases h)
        refine ds_setix1 (pu_sub (pu_ixM (pu_ixM (pu_var rfl) (pu_var rfl) G.top a4) (pu_var rfl) a3 (row_at k0 (by omega))) (pu_var rfl)) (pu_ixM (pu_var rfl) (pu_var rfl) G.top a4) (pu_var rfl) a3 (ixk k0 (by rw [List.length_map, rowD, List.length_map]; omega)) ?_
        rw [row_set]
        refine ⟨_, ?_, rfl, _, sn.trans h3, stepM_shp hS ek h3, G.ofA (Only.refl.put a2) (grid_add (a := -a) G.toA a1)⟩
        exact ⟨rfl, rfl, rfl, rfl, rfl, trivial⟩
      · refine ds_if (ut_is (b := false) (ut_test (pu_in (ss := ["handed", "passed"]) (pu_ixT (pu_var rfl) pu_int rfl) (pu_tup (ds := [.str "handed", .str "passed"]) (au_cons pu_str (au_cons pu_str au_nil)) (lk rfl)))) (by decide)) (fun h => by cases h) (fun h => ?_)
        refine ds_tgt (pu_slA (pu_var rfl) (uo_some (pu_neg pu_int)) uo_none rfl) (tg_tup (tgl_cons tg_name (tgl_cons tg_name (tgl_cons tg_name tgl_nil))) rfl) ?_
        refine (ds_ifs (ut_and (ut_is (b := true) (ut_test (pu_in (ss := ["dumped", "conjured"]) (pu_ixT (pu_var rfl) pu_int rfl) (pu_tup (ds := [.str "dumped", .str "conjured"]) (au_cons pu_str (au_cons pu_str au_nil)) (lk rfl)))) (by decide)) fun h => (ut_test (pu_notInI (pu_var rfl) (pu_var rfl)))) (fun h => ?_) (fun hnotin => ?_))
        · refine ds_retseq (ds_ret pu_no (non ?_))
          rw [Bool.true_and] at h
          rw [Bool.not_eq_true'] at h
          simp [s_tm, s_fm, s_ft, s_cd, stepM, alwM, h]
        rw [Bool.true_and] at hnotin
        rw [Bool.not_eq_false'] at hnotin
        refine ds_nextseq (ds_ifs (ut_and (ut_is (b := true) (ut_test (pu_in (ss := ["made", "conjured"]) (pu_ixT (pu_var rfl) pu_int rfl) (pu_tup (ds := [.str "made", .str "conjured"]) (au_cons pu_str (au_cons pu_str au_nil)) (lk rfl)))) (by decide)) fun h => (ut_not (ut_B (pu_ixT (pu_ixT (pu_var rfl) (pu_var rfl) (pf_at i0 i1)) pu_int rfl)))) (fun h => ?_) (fun hmakes => ?_))
        · refine ds_retseq (ds_ret pu_no (non ?_))
          rw [Bool.true_and] at h
          rw [Bool.not_eq_true'] at h
          have h : (pfAt pf i).1 = false := h
          simp [s_tm, s_fm, s_ft, s_cd, stepM, alwM, h]
        rw [Bool.true_and] at hmakes
        rw [Bool.not_eq_false'] at hmakes
        have hmakes : (pfAt pf i).1 = true := hmakes
        refine ds_nextseq (ds_ifs (b := false) (ut_and (a := false) (b := false) (ut_is (ut_test (pu_eqStr (pu_ixT (pu_var rfl) pu_int rfl) pu_str)) (by decide)) (fun h => by cases h)) (fun h => by cases h) (fun h => ?_))
        refine ds_nextseq (ds_ifs (b := false) (ut_and (a := false) (b := false) (ut_is (ut_test (pu_eqStr (pu_ixT (pu_var rfl) pu_int rfl) pu_str)) (by decide)) (fun h => by cases h)) (fun h => by cases h) (fun h => ?_))
        refine ds_nextseq (ds_ifs (b := false) (ut_and (a := false) (b := false) (ut_is (ut_test (pu_in (ss := ["treated", "dumped"]) (pu_ixT (pu_var rfl) pu_int rfl) (pu_tup (ds := [.str "treated", .str "dumped"]) (au_cons pu_str (au_cons pu_str au_nil)) (lk rfl)))) (by decide)) (fun h => by cases h)) (fun h => by cases h) (fun h => ?_))
        have h3 : stepM pf grp st (.sec "conjured" i k a) = some (addM st i k a) := by simp [s_tm, s_fm, s_ft, s_cd, stepM, alwM, hapM, hnotin, hmakes]
        refine ds_nextseq (ds_if (ut_is (b := true) (ut_test (pu_in (ss := ["made", "conjured"]) (pu_ixT (pu_var rfl) pu_int rfl) (pu_tup (ds := [.str "made", .str "conjured"]) (au_cons pu_str (au_cons pu_str au_nil)) (lk rfl)))) (by decide)) (fun h => ?_) (fun h => by cases h))
        refine ds_setix1 (pu_add (pu_ixM (pu_ixM (pu_var rfl) (pu_var rfl) G.top a4) (pu_var rfl) a3 (row_at k0 (by omega))) (pu_var rfl)) (pu_ixM (pu_var rfl) (pu_var rfl) G.top a4) (pu_var rfl) a3 (ixk k0 (by rw [List.length_map, rowD, List.length_map]; omega)) ?_
        rw [row_set]
        refine ⟨_, ?_, rfl, _, sn.trans h3, stepM_shp hS ek h3, G.ofA (Only.refl.put a2) (grid_add G.toA a1)⟩
        exact ⟨rfl, rfl, rfl, rfl, rfl, trivial⟩
  · rintro Δ C' ⟨rfl, st, hst, hS, G⟩
    rw [List.length_map, List.length_map, List.take_length] at hst
    rw [hst] at q
    exact ds_ret (pu_var rfl) (rt_fz cl G.mor G.dz q)

end
end K20

namespace K20
open PySem PySem.Spec PyProof.Rows L2 Ab Lm Hm
section
variable {P : Program} {w : World} {K : PySem.W.Frag} {mg : Str → Option Value} {base : Heap}
def rel_law : Rel := fun C xs R => ∃ (ns : List Int), xs = [Ls (ns.map .int)] ∧ R (B true) C
abbrev s_law : Stmt := topS 17
abbrev N_law : List Str := ["script", "draws", "parties", "kinds", "group", "history", "possible", "event"]
theorem sc_law : FnScope N_law ["script"] (defScope s_law) := ⟨rfl, rfl, rfl, by decide +kernel, rfl, by decide +kernel, by decide +kernel⟩

theorem ok_law {f_law : Addr} {fd_law : FuncData} (F_law : Fun K "law" "law" s_law f_law fd_law) {f__law_cell : Addr} {fd__law_cell : FuncData} (F__law_cell : Fun K "_law_cell" "_law_cell" s__law_cell f__law_cell fd__law_cell) (G__law_cell : FnOk P w K mg base CX0 1 f__law_cell fd__law_cell ["script", "k"] (SpG K rel__law_cell)) (b__law_cell : Binds K fd__law_cell ["script", "k"] []) (g__law_cell : mg "_law_cell" = some (.ref f__law_cell)) {f__law_draws : Addr} {fd__law_draws : FuncData} (F__law_draws : Fun K "_law_draws" "_law_draws" s__law_draws f__law_draws fd__law_draws) (G__law_draws : FnOk P w K mg base CX0 1 f__law_draws fd__law_draws ["cell", "count"] (SpG K rel__law_draws)) (b__law_draws : Binds K fd__law_draws ["cell", "count"] []) (g__law_draws : mg "_law_draws" = some (.ref f__law_draws)) {f__law_events : Addr} {fd__law_events : FuncData} (F__law_events : Fun K "_law_events" "_law_events" s__law_events f__law_events fd__law_events) (G__law_events : FnOk P w K mg base CX0 2 f__law_events fd__law_events ["script", "at", "most", "many", "kinds"] (SpG K rel__law_events)) (b__law_events : Binds K fd__law_events ["script", "at", "most", "many", "kinds"] []) (g__law_events : mg "_law_events" = some (.ref f__law_events)) {f__law_parties : Addr} {fd__law_parties : FuncData} (F__law_parties : Fun K "_law_parties" "_law_parties" s__law_parties f__law_parties fd__law_parties) (G__law_parties : FnOk P w K mg base CX0 1 f__law_parties fd__law_parties ["draws"] (SpG K rel__law_parties)) (b__law_parties : Binds K fd__law_parties ["draws"] []) (g__law_parties : mg "_law_parties" = some (.ref f__law_parties)) {f__law_played : Addr} {fd__law_played : FuncData} (F__law_played : Fun K "_law_played" "_law_played" s__law_played f__law_played fd__law_played) (G__law_played : FnOk P w K mg base CX0 1 f__law_played fd__law_played ["kinds", "parties", "group", "history"] (SpG K rel__law_played)) (b__law_played : Binds K fd__law_played ["kinds", "parties", "group", "history"] []) (g__law_played : mg "_law_played" = some (.ref f__law_played)) {f__law_some_group : Addr} {fd__law_some_group : FuncData} (F__law_some_group : Fun K "_law_some_group" "_law_some_group" s__law_some_group f__law_some_group fd__law_some_group) (G__law_some_group : FnOk P w K mg base CX0 2 f__law_some_group fd__law_some_group ["draw", "many"] (SpG K rel__law_some_group)) (b__law_some_group : Binds K fd__law_some_group ["draw", "many"] []) (g__law_some_group : mg "_law_some_group" = some (.ref f__law_some_group)) {f_stocks : Addr} {fd_stocks : FuncData} (F_stocks : Fun K "stocks" "stocks" s_stocks f_stocks fd_stocks) (G_stocks : FnOk P w K mg base CX0 4 f_stocks fd_stocks ["kinds", "parties", "coalition", "history"] (SpG K rel_stocks)) (b_stocks : Binds K fd_stocks ["kinds", "parties", "coalition", "history"] []) (g_stocks : mg "stocks" = some (.ref f_stocks)) (z_len : mg "len" = none) (z_list : mg "list" = none) : FnOk P w K mg base CX0 5 f_law fd_law ["script"] (SpG K rel_law) := by
  refine ok_def F_law sc_law (fun C xs R h => by obtain ⟨_, rfl, _⟩ := h; rfl) (fun cdv A outer s H E hr => ?_)
  refine ⟨_, (pss_cons (ps_set (i := 1) sc_law.nd rfl (Or.inl rfl) (pe_call G__law_draws (hr.mono (by decide)) (by rfl) g__law_draws F__law_draws.kp b__law_draws .nil pass0 (pa_cons (pe_call G__law_cell (hr.mono (by decide)) (by rfl) g__law_cell F__law_cell.kp b__law_cell .nil pass0 (pa_cons (pv 0) (pa_cons pe_int pa_nil))) (pa_cons pe_int pa_nil))))
  (pss_cons (ps_set (i := 2) sc_law.nd rfl (Or.inl rfl) (pe_call G__law_parties (hr.mono (by decide)) (by rfl) g__law_parties F__law_parties.kp b__law_parties .nil pass0 (pa_cons (pv 1) pa_nil)))
  (pss_cons (ps_set (i := 3) sc_law.nd rfl (Or.inl rfl) (pe_op op_add pe_int (pe_op op_mod (pe_ix (kx_ixL K rfl) (pv 1) pe_int (fun _ _ => rfl)) pe_int)))
  (pss_cons (ps_set (i := 4) sc_law.nd rfl (Or.inl rfl) (pe_call G__law_some_group (hr.mono (by decide)) (by rfl) g__law_some_group F__law_some_group.kp b__law_some_group .nil pass0 (pa_cons (pe_ix (kx_ixL K rfl) (pv 1) pe_int (fun _ _ => rfl)) (pa_cons (pe_callB (kx_len K rfl) (by rfl) z_len PySem.boot_len (pa_cons (pv 2) pa_nil)) pa_nil))))
  (pss_cons (ps_set (i := 5) sc_law.nd rfl (Or.inl rfl) (pe_call G__law_events (hr.mono (by decide)) (by rfl) g__law_events F__law_events.kp b__law_events .nil pass0 (pa_cons (pv 0) (pa_cons pe_int (pa_cons pe_int (pa_cons (pe_callB (kx_len K rfl) (by rfl) z_len PySem.boot_len (pa_cons (pv 2) pa_nil)) (pa_cons (pv 3) pa_nil)))))))
  (pss_cons (ps_set (i := 6) sc_law.nd rfl (Or.inl rfl) (pe_lst pa_nil))
  (pss_cons (ps_for PassesOwn.never rfl (kx_pList K rfl (pv 5)) (pg_name (i := 7) sc_law.nd rfl (Or.inl rfl)) (pss_one (ps_if (pt_cmp (pc_notN (pe_call G__law_played (hr.mono (by decide)) (by rfl) g__law_played F__law_played.kp b__law_played .nil pass0 (pa_cons (pv 3) (pa_cons (pv 2) (pa_cons (pv 4) (pa_cons (pe_op op_cat (pv 6) (pe_lst (pa_cons (pv 7) pa_nil))) pa_nil))))))) (pss_one (ps_expr (pe_bm PySem.F.plainAttrs_list PySem.F.slot_list_append PySem.F.type_list_append mt_append (pv 6) (pa_cons (pv 7) pa_nil)))) (pss_one (ps_if (pt_cmp (pc_notN (pe_call G_stocks (hr.mono (by decide)) (by rfl) g_stocks F_stocks.kp b_stocks .nil pass0 (pa_cons (pv 3) (pa_cons (pv 2) (pa_cons (pv 4) (pa_cons (pe_op op_cat (pv 6) (pe_lst (pa_cons (pv 7) pa_nil))) pa_nil))))))) (pss_one (ps_ret pe_bl)) pss_nil)))))
  (pss_cons (ps_if (pt_cmpR (kx_neD K rfl hr.units) (pe_call G_stocks (hr.mono (by decide)) (by rfl) g_stocks F_stocks.kp b_stocks .nil pass0 (pa_cons (pv 3) (pa_cons (pv 2) (pa_cons (pv 4) (pa_cons (pv 6) pa_nil))))) (pe_call G__law_played (hr.mono (by decide)) (by rfl) g__law_played F__law_played.kp b__law_played .nil pass0 (pa_cons (pv 3) (pa_cons (pv 2) (pa_cons (pv 4) (pa_cons (pv 6) pa_nil))))) (nomark _)) (pss_one (ps_ret pe_bl)) pss_nil)
  (pss_one (ps_ret (pe_cmpR (kx_eqD K rfl hr.units) (pe_call G_stocks (hr.mono (by decide)) (by rfl) g_stocks F_stocks.kp b_stocks .nil pass0 (pa_cons (pv 3) (pa_cons (pv 2) (pa_cons (pv 4) (pa_cons (pe_callTy (kx_list K rfl) (by rfl) z_list PyProof.Rows.boot_list (pa_cons (pv 5) pa_nil)) pa_nil))))) (pe_call G__law_played (hr.mono (by decide)) (by rfl) g__law_played F__law_played.kp b__law_played .nil pass0 (pa_cons (pv 3) (pa_cons (pv 2) (pa_cons (pv 4) (pa_cons (pv 5) pa_nil))))) (nomark _)))))))))))), ?_⟩
  rintro C xs R cl ⟨ns, rfl, q⟩
  refine ds_set (pu_call (au_cons (pu_call (au_cons (pu_var rfl) (au_cons pu_int au_nil)) ⟨ns, 0, rfl, by decide, rfl, rfl⟩) (au_cons pu_int au_nil)) ⟨_, 16, rfl, by decide, by decide, rfl, rfl⟩) ?_
  have dl : (drawsM (cellM ns 0) 16).length = 16 := by
    have := drawsM_len (c := cellM ns 0) (n := 16) (by decide)
    omega
  generalize drawsM (cellM ns 0) 16 = draws at dl
  refine ds_set (pu_call (au_cons (pu_var rfl) au_nil) ⟨draws, rfl, by omega, rfl, rfl⟩) ?_
  have pl := partiesB_len draws
  have p0 : 0 ≤ draws.getD 0 0 % 4 := Int.emod_nonneg _ (by decide)
  have p1 : draws.getD 0 0 % 4 < 4 := Int.emod_lt_of_pos _ (by decide)
  have k0 : 0 ≤ draws.getD (Int.toNat 13) 0 % 3 := Int.emod_nonneg _ (by decide)
  have k1 : draws.getD (Int.toNat 13) 0 % 3 < 3 := Int.emod_lt_of_pos _ (by decide)
  generalize partiesB draws = pf at pl
  refine ds_set (x := I (((1 + draws.getD (Int.toNat 13) 0 % 3).toNat : Nat) : Int)) ?_ ?_
  · rw [show (((1 + draws.getD (Int.toNat 13) 0 % 3).toNat : Nat) : Int) = 1 + draws.getD (Int.toNat 13) 0 % 3 by omega]
    exact pu_add pu_int (pu_mod (pu_ixI (pu_var rfl) pu_int (by decide) (by omega)) pu_int (by decide))
  have kk : 0 < (1 + draws.getD (Int.toNat 13) 0 % 3).toNat ∧ (1 + draws.getD (Int.toNat 13) 0 % 3).toNat ≤ 3 := by omega
  generalize (1 + draws.getD (Int.toNat 13) 0 % 3).toNat = kd at kk
  have pfl : (pf.map pfD).length = pf.length := List.length_map _
  refine ds_set (pu_call (au_cons (pu_ixI (pu_var rfl) pu_int (by decide) (by omega)) (au_cons (pu_cb (au_cons (pu_var rfl) au_nil) rc_lenT) au_nil)) ⟨_, _, rfl, by omega, by omega, rfl, rfl⟩) ?_
  generalize sgM (draws.getD (Int.toNat 14) 0) ((pf.map pfD).length : Int) = grp
  refine ds_set (pu_call (au_cons (pu_var rfl) (au_cons pu_int (au_cons pu_int (au_cons (pu_cb (au_cons (pu_var rfl) au_nil) rc_lenT) (au_cons (pu_var rfl) au_nil))))) ⟨ns, 1, 40, _, kd, rfl, by decide, by decide, by decide, by omega, by omega, rfl, rfl⟩) ?_
  rw [pfl]
  have eok : ∀ e ∈ eventsM ns 1 40 pf.length kd, EvK pf.length kd e := evSt_k ns 1 (by omega) (by omega) _
  have elen : ((eventsM ns 1 40 pf.length kd).length : Int) ≤ 40 := eventsM_len (by decide)
  generalize eventsM ns 1 40 pf.length kd = es at eok elen
  refine ds_new (pl_lst au_nil (lk rfl)) fun p hp => ?_
  refine ds_forS (fun i Δ C' => Δ = [some (Ls (ns.map .int)), some (Ls (draws.map .int)), some (T (pf.map pfD)), some (I kd), some (T (grp.map .int)), some (Ls (es.map evD)), some (.ref p), none] ∧ ∃ l : List Evt, l.length ≤ i ∧ (∀ e ∈ l, EvK pf.length kd e) ∧ C' = updC C p (.lst ((l.map evD).map .dat)))
    (ui_listD (pu_var rfl)) ⟨_, ?_, rfl, [], Nat.le_refl _, (fun e h => by cases h), rfl⟩ (fun _ _ _ _ => trivial) ?_ ?_
  · exact ⟨rfl, rfl, rfl, rfl, rfl, rfl, rfl, trivial⟩
  · rintro i x Δ C' hx ⟨rfl, l, hl, lok, rfl⟩
    obtain ⟨d, hd, rfl⟩ := datget hx
    obtain ⟨e, he, rfl⟩ := mapget hd
    have ek := eok e (List.mem_of_getElem? he)
    have il := (List.getElem?_eq_some_iff.mp he).1
    have lek : ∀ f ∈ l ++ [e], EvK pf.length kd f := fun f hf => by
      rcases List.mem_append.mp hf with hf | hf
      · exact lok f hf
      · rw [List.mem_singleton.mp hf]; exact ek
    have ll : (l ++ [e]).length ≤ 1000 := by rw [List.length_append]; simp; omega
    have hz : ((l.map evD).map Ax.dat).length < 100000 := by simp; omega
    have cat : Pu K (tOp rCat (tVar 6) (tLst (tCons (tVar 7) tNil))) ([some (Ls (ns.map .int)), some (Ls (draws.map .int)), some (T (pf.map pfD)), some (I kd), some (T (grp.map .int)), some (Ls (es.map evD)), some (.ref p), none].set 7 (some (.dat (evD e)))) (updC C p (.lst ((l.map evD).map .dat))) (Ls ((l ++ [e]).map evD)) := by
      refine pu_fz ?_
      rw [List.map_append, List.map_append]
      exact pl_catN (pu_var rfl) (pl_lst (au_cons (pu_var rfl) au_nil) (lk rfl)) updC_same (by simp; omega)
    refine ⟨_, _, tg_name, ?_⟩
    refine ds_if (ut_B (pu_notN (pu_call (au_cons (pu_var rfl) (au_cons (pu_var rfl) (au_cons (pu_var rfl) (au_cons cat au_nil)))) ⟨kd, pf, grp, l ++ [e], rfl, by omega, by omega, ll, lek, rfl, rfl⟩))) (fun hc => ?_) (fun hc => ?_)
    · refine ds_drop1 (ev_app (pu_var rfl) (pu_var rfl) updC_same hz) ?_
      rintro _ _ ⟨rfl, rfl⟩
      refine ⟨_, ?_, rfl, l ++ [e], by rw [List.length_append]; simp; omega, lek, ?_⟩
      · exact ⟨rfl, rfl, rfl, rfl, rfl, rfl, rfl, trivial⟩
      · rw [updC_updC, List.map_append, List.map_append]
        rfl
    · refine ds_if (ut_B (pu_notN (pu_call (au_cons (pu_var rfl) (au_cons (pu_var rfl) (au_cons (pu_var rfl) (au_cons cat au_nil)))) ⟨kd, pf, grp, l ++ [e], rfl, by omega, by omega, ll, lek, rfl, rfl⟩))) (fun hd => ?_) (fun hd => ?_)
      · rw [hc] at hd
        cases hd
      · refine ds_next ⟨_, ?_, rfl, l, by omega, lok, rfl⟩
        exact ⟨rfl, rfl, rfl, rfl, rfl, rfl, rfl, trivial⟩
  · rintro Δ C' ⟨rfl, l, hl, lok, rfl⟩
    rw [List.length_map, List.length_map] at hl
    refine ds_freeze (Δ := [some (Ls (ns.map .int)), some (Ls (draws.map .int)), some (T (pf.map pfD)), some (I kd), some (T (grp.map .int)), some (Ls (es.map evD)), some (Ls (l.map evD)), none]) rfl hp cl hp ⟨rfl, rfl, rfl, rfl, rfl, rfl, .inr ⟨rfl, rfl⟩, trivial⟩ ?_
    refine ds_ifs (ut_test (pu_neD (pu_call (au_cons (pu_var rfl) (au_cons (pu_var rfl) (au_cons (pu_var rfl) (au_cons (pu_var rfl) au_nil)))) ⟨kd, pf, grp, l, rfl, by omega, by omega, by omega, lok, rfl, rfl⟩) (pu_call (au_cons (pu_var rfl) (au_cons (pu_var rfl) (au_cons (pu_var rfl) (au_cons (pu_var rfl) au_nil)))) ⟨kd, pf, grp, l, rfl, by omega, by omega, by omega, lok, rfl, rfl⟩) (optD_sh _).sh (optD_sh _).sh)) (fun hc => ?_) (fun hc => ds_nextseq ?_)
    · rw [(optD_sh _).eq] at hc
      cases hc
    refine ds_ret (pu_eqD (pu_call (au_cons (pu_var rfl) (au_cons (pu_var rfl) (au_cons (pu_var rfl) (au_cons (pu_fz (pl_listD (au_cons (pu_var rfl) au_nil) (.inl rfl))) au_nil)))) ⟨kd, pf, grp, es, rfl, by omega, by omega, by omega, eok, rfl, rfl⟩) (pu_call (au_cons (pu_var rfl) (au_cons (pu_var rfl) (au_cons (pu_var rfl) (au_cons (pu_var rfl) au_nil)))) ⟨kd, pf, grp, es, rfl, by omega, by omega, by omega, eok, rfl, rfl⟩) (optD_sh _).sh (optD_sh _).sh) ?_
    rw [(optD_sh _).eq]
    exact rt_dat cl Mor.refl q
end
theorem all_mk {l : PySem.W.OpenLaw} {w : World} {K : PySem.W.Frag} {h : Heap} {mg : Str → Option Value} {fa : Addr} (X : K.In h) (G : h.Ns mainGlobals mg) (hfa : mg "law" = some (.ref fa))
    {f_is_numbered : Addr} {od_is_numbered an_is_numbered : Option Addr} {sl_is_numbered : Array (Option Value)} {oc_is_numbered kV_is_numbered dc_is_numbered pm_is_numbered cd_is_numbered ct_is_numbered : Value} (a_is_numbered : PySem.W.nsIn K mainGlobals "is_numbered" = some (some (.ref f_is_numbered))) (l_is_numbered : K.lookup f_is_numbered = some ⟨oc_is_numbered, od_is_numbered, .func (PySem.W.fnOf "is_numbered" "is_numbered" (defArgs s_is_numbered) (defBody s_is_numbered) (defScope s_is_numbered) .none kV_is_numbered dc_is_numbered pm_is_numbered an_is_numbered cd_is_numbered ct_is_numbered), sl_is_numbered⟩) (c_is_numbered : PySem.W.codeIn K cd_is_numbered "is_numbered" = true) (k_is_numbered : PySem.W.keepIn K (.ref f_is_numbered) = true)
    {f_parts_of : Addr} {od_parts_of an_parts_of : Option Addr} {sl_parts_of : Array (Option Value)} {oc_parts_of kV_parts_of dc_parts_of pm_parts_of cd_parts_of ct_parts_of : Value} (a_parts_of : PySem.W.nsIn K mainGlobals "parts_of" = some (some (.ref f_parts_of))) (l_parts_of : K.lookup f_parts_of = some ⟨oc_parts_of, od_parts_of, .func (PySem.W.fnOf "parts_of" "parts_of" (defArgs s_parts_of) (defBody s_parts_of) (defScope s_parts_of) .none kV_parts_of dc_parts_of pm_parts_of an_parts_of cd_parts_of ct_parts_of), sl_parts_of⟩) (c_parts_of : PySem.W.codeIn K cd_parts_of "parts_of" = true) (k_parts_of : PySem.W.keepIn K (.ref f_parts_of) = true)
    {f__takes_away : Addr} {od__takes_away an__takes_away : Option Addr} {sl__takes_away : Array (Option Value)} {oc__takes_away kV__takes_away dc__takes_away pm__takes_away cd__takes_away ct__takes_away : Value} (a__takes_away : PySem.W.nsIn K mainGlobals "_takes_away" = some (some (.ref f__takes_away))) (l__takes_away : K.lookup f__takes_away = some ⟨oc__takes_away, od__takes_away, .func (PySem.W.fnOf "_takes_away" "_takes_away" (defArgs s__takes_away) (defBody s__takes_away) (defScope s__takes_away) .none kV__takes_away dc__takes_away pm__takes_away an__takes_away cd__takes_away ct__takes_away), sl__takes_away⟩) (c__takes_away : PySem.W.codeIn K cd__takes_away "_takes_away" = true) (k__takes_away : PySem.W.keepIn K (.ref f__takes_away) = true)
    {f__happens : Addr} {od__happens an__happens : Option Addr} {sl__happens : Array (Option Value)} {oc__happens kV__happens dc__happens pm__happens cd__happens ct__happens : Value} (a__happens : PySem.W.nsIn K mainGlobals "_happens" = some (some (.ref f__happens))) (l__happens : K.lookup f__happens = some ⟨oc__happens, od__happens, .func (PySem.W.fnOf "_happens" "_happens" (defArgs s__happens) (defBody s__happens) (defScope s__happens) .none kV__happens dc__happens pm__happens an__happens cd__happens ct__happens), sl__happens⟩) (c__happens : PySem.W.codeIn K cd__happens "_happens" = true) (k__happens : PySem.W.keepIn K (.ref f__happens) = true)
    {f__is_allowed : Addr} {od__is_allowed an__is_allowed : Option Addr} {sl__is_allowed : Array (Option Value)} {oc__is_allowed kV__is_allowed dc__is_allowed pm__is_allowed cd__is_allowed ct__is_allowed : Value} (a__is_allowed : PySem.W.nsIn K mainGlobals "_is_allowed" = some (some (.ref f__is_allowed))) (l__is_allowed : K.lookup f__is_allowed = some ⟨oc__is_allowed, od__is_allowed, .func (PySem.W.fnOf "_is_allowed" "_is_allowed" (defArgs s__is_allowed) (defBody s__is_allowed) (defScope s__is_allowed) .none kV__is_allowed dc__is_allowed pm__is_allowed an__is_allowed cd__is_allowed ct__is_allowed), sl__is_allowed⟩) (c__is_allowed : PySem.W.codeIn K cd__is_allowed "_is_allowed" = true) (k__is_allowed : PySem.W.keepIn K (.ref f__is_allowed) = true)
    {f_stocks : Addr} {od_stocks an_stocks : Option Addr} {sl_stocks : Array (Option Value)} {oc_stocks kV_stocks dc_stocks pm_stocks cd_stocks ct_stocks : Value} (a_stocks : PySem.W.nsIn K mainGlobals "stocks" = some (some (.ref f_stocks))) (l_stocks : K.lookup f_stocks = some ⟨oc_stocks, od_stocks, .func (PySem.W.fnOf "stocks" "stocks" (defArgs s_stocks) (defBody s_stocks) (defScope s_stocks) .none kV_stocks dc_stocks pm_stocks an_stocks cd_stocks ct_stocks), sl_stocks⟩) (c_stocks : PySem.W.codeIn K cd_stocks "stocks" = true) (k_stocks : PySem.W.keepIn K (.ref f_stocks) = true)
    {f__law_cell : Addr} {od__law_cell an__law_cell : Option Addr} {sl__law_cell : Array (Option Value)} {oc__law_cell kV__law_cell dc__law_cell pm__law_cell cd__law_cell ct__law_cell : Value} (a__law_cell : PySem.W.nsIn K mainGlobals "_law_cell" = some (some (.ref f__law_cell))) (l__law_cell : K.lookup f__law_cell = some ⟨oc__law_cell, od__law_cell, .func (PySem.W.fnOf "_law_cell" "_law_cell" (defArgs s__law_cell) (defBody s__law_cell) (defScope s__law_cell) .none kV__law_cell dc__law_cell pm__law_cell an__law_cell cd__law_cell ct__law_cell), sl__law_cell⟩) (c__law_cell : PySem.W.codeIn K cd__law_cell "_law_cell" = true) (k__law_cell : PySem.W.keepIn K (.ref f__law_cell) = true)
    {f__law_draws : Addr} {od__law_draws an__law_draws : Option Addr} {sl__law_draws : Array (Option Value)} {oc__law_draws kV__law_draws dc__law_draws pm__law_draws cd__law_draws ct__law_draws : Value} (a__law_draws : PySem.W.nsIn K mainGlobals "_law_draws" = some (some (.ref f__law_draws))) (l__law_draws : K.lookup f__law_draws = some ⟨oc__law_draws, od__law_draws, .func (PySem.W.fnOf "_law_draws" "_law_draws" (defArgs s__law_draws) (defBody s__law_draws) (defScope s__law_draws) .none kV__law_draws dc__law_draws pm__law_draws an__law_draws cd__law_draws ct__law_draws), sl__law_draws⟩) (c__law_draws : PySem.W.codeIn K cd__law_draws "_law_draws" = true) (k__law_draws : PySem.W.keepIn K (.ref f__law_draws) = true)
    {f__law_parties : Addr} {od__law_parties an__law_parties : Option Addr} {sl__law_parties : Array (Option Value)} {oc__law_parties kV__law_parties dc__law_parties pm__law_parties cd__law_parties ct__law_parties : Value} (a__law_parties : PySem.W.nsIn K mainGlobals "_law_parties" = some (some (.ref f__law_parties))) (l__law_parties : K.lookup f__law_parties = some ⟨oc__law_parties, od__law_parties, .func (PySem.W.fnOf "_law_parties" "_law_parties" (defArgs s__law_parties) (defBody s__law_parties) (defScope s__law_parties) .none kV__law_parties dc__law_parties pm__law_parties an__law_parties cd__law_parties ct__law_parties), sl__law_parties⟩) (c__law_parties : PySem.W.codeIn K cd__law_parties "_law_parties" = true) (k__law_parties : PySem.W.keepIn K (.ref f__law_parties) = true)
    {f__law_groups : Addr} {od__law_groups an__law_groups : Option Addr} {sl__law_groups : Array (Option Value)} {oc__law_groups kV__law_groups dc__law_groups pm__law_groups cd__law_groups ct__law_groups : Value} (a__law_groups : PySem.W.nsIn K mainGlobals "_law_groups" = some (some (.ref f__law_groups))) (l__law_groups : K.lookup f__law_groups = some ⟨oc__law_groups, od__law_groups, .func (PySem.W.fnOf "_law_groups" "_law_groups" (defArgs s__law_groups) (defBody s__law_groups) (defScope s__law_groups) .none kV__law_groups dc__law_groups pm__law_groups an__law_groups cd__law_groups ct__law_groups), sl__law_groups⟩) (c__law_groups : PySem.W.codeIn K cd__law_groups "_law_groups" = true) (k__law_groups : PySem.W.keepIn K (.ref f__law_groups) = true)
    {f__law_played : Addr} {od__law_played an__law_played : Option Addr} {sl__law_played : Array (Option Value)} {oc__law_played kV__law_played dc__law_played pm__law_played cd__law_played ct__law_played : Value} (a__law_played : PySem.W.nsIn K mainGlobals "_law_played" = some (some (.ref f__law_played))) (l__law_played : K.lookup f__law_played = some ⟨oc__law_played, od__law_played, .func (PySem.W.fnOf "_law_played" "_law_played" (defArgs s__law_played) (defBody s__law_played) (defScope s__law_played) .none kV__law_played dc__law_played pm__law_played an__law_played cd__law_played ct__law_played), sl__law_played⟩) (c__law_played : PySem.W.codeIn K cd__law_played "_law_played" = true) (k__law_played : PySem.W.keepIn K (.ref f__law_played) = true)
    {f__law_event : Addr} {od__law_event an__law_event : Option Addr} {sl__law_event : Array (Option Value)} {oc__law_event kV__law_event dc__law_event pm__law_event cd__law_event ct__law_event : Value} (a__law_event : PySem.W.nsIn K mainGlobals "_law_event" = some (some (.ref f__law_event))) (l__law_event : K.lookup f__law_event = some ⟨oc__law_event, od__law_event, .func (PySem.W.fnOf "_law_event" "_law_event" (defArgs s__law_event) (defBody s__law_event) (defScope s__law_event) .none kV__law_event dc__law_event pm__law_event an__law_event cd__law_event ct__law_event), sl__law_event⟩) (c__law_event : PySem.W.codeIn K cd__law_event "_law_event" = true) (k__law_event : PySem.W.keepIn K (.ref f__law_event) = true)
    {f__law_events : Addr} {od__law_events an__law_events : Option Addr} {sl__law_events : Array (Option Value)} {oc__law_events kV__law_events dc__law_events pm__law_events cd__law_events ct__law_events : Value} (a__law_events : PySem.W.nsIn K mainGlobals "_law_events" = some (some (.ref f__law_events))) (l__law_events : K.lookup f__law_events = some ⟨oc__law_events, od__law_events, .func (PySem.W.fnOf "_law_events" "_law_events" (defArgs s__law_events) (defBody s__law_events) (defScope s__law_events) .none kV__law_events dc__law_events pm__law_events an__law_events cd__law_events ct__law_events), sl__law_events⟩) (c__law_events : PySem.W.codeIn K cd__law_events "_law_events" = true) (k__law_events : PySem.W.keepIn K (.ref f__law_events) = true)
    {f__law_some_group : Addr} {od__law_some_group an__law_some_group : Option Addr} {sl__law_some_group : Array (Option Value)} {oc__law_some_group kV__law_some_group dc__law_some_group pm__law_some_group cd__law_some_group ct__law_some_group : Value} (a__law_some_group : PySem.W.nsIn K mainGlobals "_law_some_group" = some (some (.ref f__law_some_group))) (l__law_some_group : K.lookup f__law_some_group = some ⟨oc__law_some_group, od__law_some_group, .func (PySem.W.fnOf "_law_some_group" "_law_some_group" (defArgs s__law_some_group) (defBody s__law_some_group) (defScope s__law_some_group) .none kV__law_some_group dc__law_some_group pm__law_some_group an__law_some_group cd__law_some_group ct__law_some_group), sl__law_some_group⟩) (c__law_some_group : PySem.W.codeIn K cd__law_some_group "_law_some_group" = true) (k__law_some_group : PySem.W.keepIn K (.ref f__law_some_group) = true)
    {f_law : Addr} {od_law an_law : Option Addr} {sl_law : Array (Option Value)} {oc_law kV_law dc_law pm_law cd_law ct_law : Value} (a_law : PySem.W.nsIn K mainGlobals "law" = some (some (.ref f_law))) (l_law : K.lookup f_law = some ⟨oc_law, od_law, .func (PySem.W.fnOf "law" "law" (defArgs s_law) (defBody s_law) (defScope s_law) .none kV_law dc_law pm_law an_law cd_law ct_law), sl_law⟩) (c_law : PySem.W.codeIn K cd_law "law" = true) (k_law : PySem.W.keepIn K (.ref f_law) = true)
    (z_len : PySem.W.nsIn K mainGlobals "len" = some none)
    (z_list : PySem.W.nsIn K mainGlobals "list" = some none)
    (z_max : PySem.W.nsIn K mainGlobals "max" = some none)
    (z_range : PySem.W.nsIn K mainGlobals "range" = some none)
    (z_tuple : PySem.W.nsIn K mainGlobals "tuple" = some none) :
    ∃ fd : FuncData, (∀ (s : Shared) (v : Value), BindsTo s fd ⟨[v], []⟩ [("script", v)]) ∧ ∀ base : Heap, K.In base → base.Ns mainGlobals mg → FnOk l.prog w K mg base CX0 5 fa fd ["script"] (SpG K rel_law) := by
  have e := hfa.symm.trans (PySem.W.mg_of X G a_law)
  cases e
  have F_is_numbered := fun_mk (st := s_is_numbered) l_is_numbered c_is_numbered k_is_numbered
  have b_is_numbered := F_is_numbered.binds (ps := ["event"]) fun _ _ _ _ _ _ us hl => match us, hl with | [_], _ => rfl
  have g_is_numbered := PySem.W.mg_of X G a_is_numbered
  have F_parts_of := fun_mk (st := s_parts_of) l_parts_of c_parts_of k_parts_of
  have b_parts_of := F_parts_of.binds (ps := ["event"]) fun _ _ _ _ _ _ us hl => match us, hl with | [_], _ => rfl
  have g_parts_of := PySem.W.mg_of X G a_parts_of
  have F__takes_away := fun_mk (st := s__takes_away) l__takes_away c__takes_away k__takes_away
  have b__takes_away := F__takes_away.binds (ps := ["own", "kind", "amount"]) fun _ _ _ _ _ _ us hl => match us, hl with | [_, _, _], _ => rfl
  have g__takes_away := PySem.W.mg_of X G a__takes_away
  have F__happens := fun_mk (st := s__happens) l__happens c__happens k__happens
  have b__happens := F__happens.binds (ps := ["have", "event"]) fun _ _ _ _ _ _ us hl => match us, hl with | [_, _], _ => rfl
  have g__happens := PySem.W.mg_of X G a__happens
  have F__is_allowed := fun_mk (st := s__is_allowed) l__is_allowed c__is_allowed k__is_allowed
  have b__is_allowed := F__is_allowed.binds (ps := ["parties", "coalition", "event"]) fun _ _ _ _ _ _ us hl => match us, hl with | [_, _, _], _ => rfl
  have g__is_allowed := PySem.W.mg_of X G a__is_allowed
  have F_stocks := fun_mk (st := s_stocks) l_stocks c_stocks k_stocks
  have b_stocks := F_stocks.binds (ps := ["kinds", "parties", "coalition", "history"]) fun _ _ _ _ _ _ us hl => match us, hl with | [_, _, _, _], _ => rfl
  have g_stocks := PySem.W.mg_of X G a_stocks
  have F__law_cell := fun_mk (st := s__law_cell) l__law_cell c__law_cell k__law_cell
  have b__law_cell := F__law_cell.binds (ps := ["script", "k"]) fun _ _ _ _ _ _ us hl => match us, hl with | [_, _], _ => rfl
  have g__law_cell := PySem.W.mg_of X G a__law_cell
  have F__law_draws := fun_mk (st := s__law_draws) l__law_draws c__law_draws k__law_draws
  have b__law_draws := F__law_draws.binds (ps := ["cell", "count"]) fun _ _ _ _ _ _ us hl => match us, hl with | [_, _], _ => rfl
  have g__law_draws := PySem.W.mg_of X G a__law_draws
  have F__law_parties := fun_mk (st := s__law_parties) l__law_parties c__law_parties k__law_parties
  have b__law_parties := F__law_parties.binds (ps := ["draws"]) fun _ _ _ _ _ _ us hl => match us, hl with | [_], _ => rfl
  have g__law_parties := PySem.W.mg_of X G a__law_parties
  have F__law_groups := fun_mk (st := s__law_groups) l__law_groups c__law_groups k__law_groups
  have b__law_groups := F__law_groups.binds (ps := ["many"]) fun _ _ _ _ _ _ us hl => match us, hl with | [_], _ => rfl
  have g__law_groups := PySem.W.mg_of X G a__law_groups
  have F__law_played := fun_mk (st := s__law_played) l__law_played c__law_played k__law_played
  have b__law_played := F__law_played.binds (ps := ["kinds", "parties", "group", "history"]) fun _ _ _ _ _ _ us hl => match us, hl with | [_, _, _, _], _ => rfl
  have g__law_played := PySem.W.mg_of X G a__law_played
  have F__law_event := fun_mk (st := s__law_event) l__law_event c__law_event k__law_event
  have b__law_event := F__law_event.binds (ps := ["draws", "many", "kinds", "number"]) fun _ _ _ _ _ _ us hl => match us, hl with | [_, _, _, _], _ => rfl
  have g__law_event := PySem.W.mg_of X G a__law_event
  have F__law_events := fun_mk (st := s__law_events) l__law_events c__law_events k__law_events
  have b__law_events := F__law_events.binds (ps := ["script", "at", "most", "many", "kinds"]) fun _ _ _ _ _ _ us hl => match us, hl with | [_, _, _, _, _], _ => rfl
  have g__law_events := PySem.W.mg_of X G a__law_events
  have F__law_some_group := fun_mk (st := s__law_some_group) l__law_some_group c__law_some_group k__law_some_group
  have b__law_some_group := F__law_some_group.binds (ps := ["draw", "many"]) fun _ _ _ _ _ _ us hl => match us, hl with | [_, _], _ => rfl
  have g__law_some_group := PySem.W.mg_of X G a__law_some_group
  have F_law := fun_mk (st := s_law) l_law c_law k_law
  have z_len := PySem.W.mg_none_of X G z_len
  have z_list := PySem.W.mg_none_of X G z_list
  have z_max := PySem.W.mg_none_of X G z_max
  have z_range := PySem.W.mg_none_of X G z_range
  have z_tuple := PySem.W.mg_none_of X G z_tuple
  refine ⟨PySem.W.fnOf "law" "law" (defArgs s_law) (defBody s_law) (defScope s_law) .none kV_law dc_law pm_law an_law cd_law ct_law, fun s v => .of_eq rfl, fun base _ _ => ?_⟩
  have G_is_numbered := ok_is_numbered (P := l.prog) (w := w) (mg := mg) (base := base) F_is_numbered
  have G_parts_of := ok_parts_of (P := l.prog) (w := w) (mg := mg) (base := base) F_parts_of F_is_numbered G_is_numbered b_is_numbered g_is_numbered
  have G__takes_away := ok__takes_away (P := l.prog) (w := w) (mg := mg) (base := base) F__takes_away
  have G__happens := ok__happens (P := l.prog) (w := w) (mg := mg) (base := base) F__happens F__takes_away G__takes_away b__takes_away g__takes_away F_parts_of G_parts_of b_parts_of g_parts_of
  have G__is_allowed := ok__is_allowed (P := l.prog) (w := w) (mg := mg) (base := base) F__is_allowed F_parts_of G_parts_of b_parts_of g_parts_of
  have G_stocks := ok_stocks (P := l.prog) (w := w) (mg := mg) (base := base) F_stocks F__happens G__happens b__happens g__happens F__is_allowed G__is_allowed b__is_allowed g__is_allowed
  have G__law_cell := ok__law_cell (P := l.prog) (w := w) (mg := mg) (base := base) F__law_cell z_len
  have G__law_draws := ok__law_draws (P := l.prog) (w := w) (mg := mg) (base := base) F__law_draws z_range
  have G__law_parties := ok__law_parties (P := l.prog) (w := w) (mg := mg) (base := base) F__law_parties z_range z_tuple
  have G__law_groups := ok__law_groups (P := l.prog) (w := w) (mg := mg) (base := base) F__law_groups z_len z_range
  have G__law_played := ok__law_played (P := l.prog) (w := w) (mg := mg) (base := base) F__law_played
  have G__law_event := ok__law_event (P := l.prog) (w := w) (mg := mg) (base := base) F__law_event
  have G__law_events := ok__law_events (P := l.prog) (w := w) (mg := mg) (base := base) F__law_events F__law_cell G__law_cell b__law_cell g__law_cell F__law_draws G__law_draws b__law_draws g__law_draws F__law_event G__law_event b__law_event g__law_event z_max z_range
  have G__law_some_group := ok__law_some_group (P := l.prog) (w := w) (mg := mg) (base := base) F__law_some_group F__law_groups G__law_groups b__law_groups g__law_groups z_len
  exact ok_law F_law F__law_cell G__law_cell b__law_cell g__law_cell F__law_draws G__law_draws b__law_draws g__law_draws F__law_events G__law_events b__law_events g__law_events F__law_parties G__law_parties b__law_parties g__law_parties F__law_played G__law_played b__law_played g__law_played F__law_some_group G__law_some_group b__law_some_group g__law_some_group F_stocks G_stocks b_stocks g_stocks z_len z_list
end K20
open PySem PySem.W PyProof.Rows
set_option maxHeartbeats 0 in
theorem PySem.Challenge.cw_notetrail_k20_what_can_happen_holds : PySem.Challenge.rw_notetrail_k20_what_can_happen.Holds := by
  w_on; o_law; k_head; (case hw => w_witness2)
  k_fill
  refine L2.walk_of (l := PySem.Challenge.rw_notetrail_k20_what_can_happen) (n := 63) (k := 5) (x := "script") (CX := fun _ => L2.CX0) (sp := fun w => Ab.SpG _ K20.rel_law) rfl (by decide) rfl ⟨rfl, by decide, by decide⟩ (fun w h Y => PySem.W.kIn_of Y) ?F (fun _ _ a ns hl _ hS => Ab.sp_law hS fun C R q => ⟨ns, rfl, q⟩) (fun _ _ _ _ _ h => h)
  case F =>
    intro w mg fa h KX G hmg
    refine' K20.all_mk KX G hmg ?a_is_numbered ?l_is_numbered ?c_is_numbered ?k_is_numbered ?a_parts_of ?l_parts_of ?c_parts_of ?k_parts_of ?a__takes_away ?l__takes_away ?c__takes_away ?k__takes_away ?a__happens ?l__happens ?c__happens ?k__happens ?a__is_allowed ?l__is_allowed ?c__is_allowed ?k__is_allowed ?a_stocks ?l_stocks ?c_stocks ?k_stocks ?a__law_cell ?l__law_cell ?c__law_cell ?k__law_cell ?a__law_draws ?l__law_draws ?c__law_draws ?k__law_draws ?a__law_parties ?l__law_parties ?c__law_parties ?k__law_parties ?a__law_groups ?l__law_groups ?c__law_groups ?k__law_groups ?a__law_played ?l__law_played ?c__law_played ?k__law_played ?a__law_event ?l__law_event ?c__law_event ?k__law_event ?a__law_events ?l__law_events ?c__law_events ?k__law_events ?a__law_some_group ?l__law_some_group ?c__law_some_group ?k__law_some_group ?a_law ?l_law ?c_law ?k_law ?z_len ?z_list ?z_max ?z_range ?z_tuple
    (case a_is_numbered => k_is); (case l_is_numbered => k_is); (case c_is_numbered => k_is); (case k_is_numbered => k_is); (case a_parts_of => k_is); (case l_parts_of => k_is); (case c_parts_of => k_is); (case k_parts_of => k_is); (case a__takes_away => k_is); (case l__takes_away => k_is); (case c__takes_away => k_is); (case k__takes_away => k_is); (case a__happens => k_is); (case l__happens => k_is); (case c__happens => k_is); (case k__happens => k_is); (case a__is_allowed => k_is); (case l__is_allowed => k_is); (case c__is_allowed => k_is); (case k__is_allowed => k_is); (case a_stocks => k_is); (case l_stocks => k_is); (case c_stocks => k_is); (case k_stocks => k_is); (case a__law_cell => k_is); (case l__law_cell => k_is); (case c__law_cell => k_is); (case k__law_cell => k_is); (case a__law_draws => k_is); (case l__law_draws => k_is); (case c__law_draws => k_is); (case k__law_draws => k_is); (case a__law_parties => k_is); (case l__law_parties => k_is); (case c__law_parties => k_is); (case k__law_parties => k_is); (case a__law_groups => k_is); (case l__law_groups => k_is); (case c__law_groups => k_is); (case k__law_groups => k_is); (case a__law_played => k_is); (case l__law_played => k_is); (case c__law_played => k_is); (case k__law_played => k_is); (case a__law_event => k_is); (case l__law_event => k_is); (case c__law_event => k_is); (case k__law_event => k_is); (case a__law_events => k_is); (case l__law_events => k_is); (case c__law_events => k_is); (case k__law_events => k_is); (case a__law_some_group => k_is); (case l__law_some_group => k_is); (case c__law_some_group => k_is); (case k__law_some_group => k_is); (case a_law => k_is); (case l_law => k_is); (case c_law => k_is); (case k_law => k_is); (case z_len => k_is); (case z_list => k_is); (case z_max => k_is); (case z_range => k_is); (case z_tuple => k_is)

