import PyProof.Rows.All
import Wide.All
import OpenK.AllK
import Wide.FinOn
import HandS.ForMost
import PySem.Challenge.RW_notetrail_k21_honest_files
set_option Elab.async false
set_option linter.all false
set_option maxRecDepth 100000
set_option maxHeartbeats 4000000
/-! Ab: an abstract store over the hand layer: immutable data by value, mutable objects by address. -/
namespace Ab
open PySem PySem.Spec PyProof.Rows L2

/-- an abstract value: data, or the address of a mutable object -/
inductive Ax where
  | dat (d : PyData)
  | ref (a : Addr)
/-- a mutable object -/
inductive MO where
  | lst (xs : List Ax)
  | dic (kvs : List (Key × Ax))
abbrev Cs := Addr → Option MO
abbrev Gm := List (Option Ax)
def hid (C : Cs) (H : Hp) : Hp := fun a => if (C a).isSome = true then none else H a
def Rx (K : PySem.W.Frag) (C : Cs) (H : Hp) (v : V) : Ax → Prop
  | .dat d => Dp K (hid C H) v d
  | .ref a => v = .ref a ∧ (C a).isSome = true
abbrev RxA (K : PySem.W.Frag) (C : Cs) (H : Hp) : List V → List Ax → Prop := Paired (Rx K C H)
def RxK (K : PySem.W.Frag) (C : Cs) (H : Hp) : List (Key × V) → List (Key × Ax) → Prop := Paired fun p q => p.1 = q.1 ∧ Rx K C H p.2 q.2
def Cell (K : PySem.W.Frag) (C : Cs) (H : Hp) (a : Addr) : MO → Prop
  | .lst xs => ∃ vs, H a = some (.lst vs) ∧ RxA K C H vs xs
  | .dic kvs => ∃ ws, H a = some (.dK ws) ∧ RxK K C H ws kvs
def Cells (K : PySem.W.Frag) (C : Cs) (H : Hp) : Prop := ∀ a o, C a = some o → Cell K C H a o
structure Adv (K : PySem.W.Frag) (C : Cs) (H : Hp) (C' : Cs) (H' : Hp) : Prop where
  ex : ∀ a o, hid C H a = some o → hid C' H' a = some o
  sub : ∀ a, (C a).isSome = true → (C' a).isSome = true
  dom : ∀ a, (H a).isSome = true → (H' a).isSome = true
  cells : Cells K C' H'
structure Sta (K : PySem.W.Frag) (Γ : Gm) (C : Cs) (σ : L2.St) (H : Hp) : Prop where
  len : σ.length = Γ.length
  slot : ∀ (i : Nat) x, Γ[i]? = some (some x) → ∃ v, σ[i]? = some (some v) ∧ Rx K C H v x
  cells : Cells K C H

/-! ### monotone -/
theorem Rd.up {H H' : Hp} {a : Addr} {u : HO} (e : ∀ a o, H a = some o → H' a = some o) (h : Rd H a u) : Rd H' a u := by
  rcases h with h | ⟨o, h⟩
  · exact .inl (e _ _ h)
  · exact .inr ⟨o, e _ _ h⟩
theorem SqL.up {K : PySem.W.Frag} {H H' : Hp} {a : Addr} {xs : List V} (e : ∀ a o, H a = some o → H' a = some o) (h : SqL K H a xs) : SqL K H' a xs := by
  rcases h with h | h
  · exact .inl (Rd.up e h)
  · exact .inr h
theorem SqT.up {K : PySem.W.Frag} {H H' : Hp} {a : Addr} {xs : List V} (e : ∀ a o, H a = some o → H' a = some o) (h : SqT K H a xs) : SqT K H' a xs := by
  rcases h with h | h
  · exact .inl (Rd.up e h)
  · exact .inr h
mutual
theorem Dp.up {K : PySem.W.Frag} {H H' : Hp} (e : ∀ a o, H a = some o → H' a = some o) : ∀ (d : PyData) {v : V}, Dp K H v d → Dp K H' v d
  | .none, _, h => by cases h; exact .non
  | .bool _, _, h => by cases h; exact .bl _
  | .int _, _, h => by cases h; exact .int _
  | .str _, _, h => by cases h; exact .str _
  | .list ds, _, h => by
    cases h with
    | lst hs ha => exact .lst (SqL.up e hs) (DpAll.up e ds ha)
  | .tuple ds, _, h => by
    cases h with
    | tup hs ha => exact .tup (SqT.up e hs) (DpAll.up e ds ha)
  | .dict _, _, h => by cases h
theorem DpAll.up {K : PySem.W.Frag} {H H' : Hp} (e : ∀ a o, H a = some o → H' a = some o) : ∀ (ds : List PyData) {vs : List V}, DpAll K H vs ds → DpAll K H' vs ds
  | [], _, h => by cases h; exact .nil
  | d :: ds, _, h => by
    cases h with
    | cons h1 h2 => exact .cons (Dp.up e d h1) (DpAll.up e ds h2)
end
theorem hid_le {C : Cs} {H : Hp} : ∀ a o, hid C H a = some o → H a = some o := fun a o h => by
  unfold hid at h
  split at h
  · cases h
  · exact h
theorem hid_of {C : Cs} {H : Hp} {a : Addr} {o : HO} (h : H a = some o) (c : C a = none) : hid C H a = some o := by
  unfold hid
  rw [c]
  exact h
theorem _root_.L2.DpAll.len {K : PySem.W.Frag} {H : Hp} : ∀ {vs : List V} {ds : List PyData}, DpAll K H vs ds → vs.length = ds.length
  | _, _, .nil => rfl
  | _, _, .cons _ t => by simp [L2.DpAll.len t]
theorem _root_.L2.DpAll.get {K : PySem.W.Frag} {H : Hp} : ∀ {vs : List V} {ds : List PyData} {i : Nat} {d : PyData}, DpAll K H vs ds → ds[i]? = some d → ∃ v, vs[i]? = some v ∧ Dp K H v d
  | _, _, _, _, .nil, e => by simp at e
  | _, _, 0, _, .cons r _, e => by simp at e; subst e; exact ⟨_, rfl, r⟩
  | _, _, i + 1, d, .cons _ t, e => by
    obtain ⟨u, h1, h2⟩ := L2.DpAll.get (i := i) (d := d) t (by simpa using e)
    exact ⟨u, by simpa using h1, h2⟩
theorem _root_.L2.DpAll.getV {K : PySem.W.Frag} {H : Hp} : ∀ {vs : List V} {ds : List PyData} {i : Nat} {v : V}, DpAll K H vs ds → vs[i]? = some v → ∃ d, ds[i]? = some d ∧ Dp K H v d
  | _, _, _, _, .nil, e => by simp at e
  | _, _, 0, _, .cons r _, e => by simp at e; subst e; exact ⟨_, rfl, r⟩
  | _, _, i + 1, v, .cons _ t, e => by
    obtain ⟨u, h1, h2⟩ := L2.DpAll.getV (i := i) (v := v) t (by simpa using e)
    exact ⟨u, by simpa using h1, h2⟩
theorem Rx.up {K : PySem.W.Frag} {C C' : Cs} {H H' : Hp} (e : ∀ a o, hid C H a = some o → hid C' H' a = some o) (s : ∀ a, (C a).isSome = true → (C' a).isSome = true) : ∀ {x : Ax} {v : V}, Rx K C H v x → Rx K C' H' v x
  | .dat d, _, h => Dp.up e d h
  | .ref _, _, h => ⟨h.1, s _ h.2⟩
theorem Adv.rx {K : PySem.W.Frag} {C C' : Cs} {H H' : Hp} {v : V} {x : Ax} (a : Adv K C H C' H') (h : Rx K C H v x) : Rx K C' H' v x := Rx.up a.ex a.sub h
theorem Adv.refl {K : PySem.W.Frag} {C : Cs} {H : Hp} (c : Cells K C H) : Adv K C H C H := ⟨fun _ _ h => h, fun _ h => h, fun _ h => h, c⟩
theorem Adv.trans {K : PySem.W.Frag} {C C1 C2 : Cs} {H H1 H2 : Hp} (a : Adv K C H C1 H1) (b : Adv K C1 H1 C2 H2) : Adv K C H C2 H2 :=
  ⟨fun x o h => b.ex x o (a.ex x o h), fun x h => b.sub x (a.sub x h), fun x h => b.dom x (a.dom x h), b.cells⟩
theorem Adv.sta {K : PySem.W.Frag} {Γ : Gm} {C C' : Cs} {σ : L2.St} {H H' : Hp} (a : Adv K C H C' H') (h : Sta K Γ C σ H) : Sta K Γ C' σ H' :=
  ⟨h.len, fun i x e => let ⟨v, e1, r⟩ := h.slot i x e; ⟨v, e1, a.rx r⟩, a.cells⟩
theorem Sta.adv {K : PySem.W.Frag} {Γ : Gm} {C : Cs} {σ : L2.St} {H : Hp} (h : Sta K Γ C σ H) : Adv K C H C H := Adv.refl h.cells
theorem Paired.map2 {α β : Type} {F G : α → β → Prop} : ∀ {l₁ : List α} {l₂ : List β}, Paired F l₁ l₂ → (∀ a b, F a b → G a b) → Paired G l₁ l₂
  | _, _, .nil, _ => .nil
  | _, _, .cons h t, f => .cons (f _ _ h) (Paired.map2 t f)
theorem Cell.up {K : PySem.W.Frag} {C C' : Cs} {H H' : Hp} {a : Addr} (e : ∀ a o, hid C H a = some o → hid C' H' a = some o) (s : ∀ a, (C a).isSome = true → (C' a).isSome = true) (k : H' a = H a) : ∀ {o : MO}, Cell K C H a o → Cell K C' H' a o
  | .lst _, ⟨vs, h, r⟩ => ⟨vs, k.trans h, Paired.map2 r fun _ _ q => Rx.up e s q⟩
  | .dic _, ⟨ws, h, r⟩ => ⟨ws, k.trans h, Paired.map2 r fun _ _ q => ⟨q.1, Rx.up e s q.2⟩⟩
theorem Cells.some {K : PySem.W.Frag} {C : Cs} {H : Hp} (c : Cells K C H) {a : Addr} (h : (C a).isSome = true) : (H a).isSome = true := by
  cases e : C a with
  | none => rw [e] at h; cases h
  | some o =>
    have q := c a o e
    cases o with
    | lst xs => obtain ⟨vs, h, _⟩ := q; rw [h]; rfl
    | dic xs => obtain ⟨vs, h, _⟩ := q; rw [h]; rfl
theorem Cells.free {K : PySem.W.Frag} {C : Cs} {H : Hp} (c : Cells K C H) {a : Addr} (h : H a = none) : C a = none := by
  cases e : C a with
  | none => rfl
  | some o =>
    have := c.some (a := a) (by rw [e]; rfl)
    rw [h] at this
    cases this
/-- a new immutable object -/
theorem Adv.new {K : PySem.W.Frag} {C : Cs} {H : Hp} {p : Addr} {o : HO} (c : Cells K C H) (hp : H p = none) : Adv K C H C (upd H p o) := by
  have cp := c.free hp
  have ex : ∀ a u, hid C H a = some u → hid C (upd H p o) a = some u := fun a u h => by
    have h1 := hid_le a u h
    have ne : a ≠ p := ne_of_none h1 hp
    unfold hid at h ⊢
    rw [upd_ne ne]
    exact h
  refine ⟨ex, fun _ h => h, fun a h => ?_, fun a u e => ?_⟩
  · by_cases ha : a = p
    · subst ha; rw [upd_same]; rfl
    · rw [upd_ne ha]; exact h
  · have ne : a ≠ p := fun z => by subst z; rw [cp] at e; cases e
    exact Cell.up ex (fun _ h => h) (upd_ne ne) (c a u e)
def updC (C : Cs) (a : Addr) (o : MO) : Cs := fun b => if b = a then some o else C b
theorem updC_same {C : Cs} {a : Addr} {o : MO} : updC C a o a = some o := by unfold updC; rw [if_pos rfl]
theorem updC_ne {C : Cs} {a b : Addr} {o : MO} (h : b ≠ a) : updC C a o b = C b := by unfold updC; rw [if_neg h]
theorem updC_sub {C : Cs} {a : Addr} {o : MO} : ∀ b, (C b).isSome = true → (updC C a o b).isSome = true := fun b h => by
  by_cases e : b = a
  · subst e; rw [updC_same]; rfl
  · rw [updC_ne e]; exact h
def repH : MO → HO → Prop
  | .lst _, .lst _ => True
  | .dic _, .dK _ => True
  | _, _ => False
/-- a new mutable list -/
theorem Adv.newL {K : PySem.W.Frag} {C : Cs} {H : Hp} {p : Addr} {vs : List V} {xs : List Ax} (c : Cells K C H) (hp : H p = none) (r : RxA K C H vs xs) : Adv K C H (updC C p (.lst xs)) (upd H p (.lst vs)) := by
  have ex : ∀ a u, hid C H a = some u → hid (updC C p (.lst xs)) (upd H p (.lst vs)) a = some u := fun a u h => by
    have h1 := hid_le a u h
    have ne : a ≠ p := ne_of_none h1 hp
    unfold hid at h ⊢
    rw [upd_ne ne, updC_ne ne]
    exact h
  refine ⟨ex, updC_sub, fun a h => ?_, fun a u e => ?_⟩
  · by_cases ha : a = p
    · subst ha; rw [upd_same]; rfl
    · rw [upd_ne ha]; exact h
  · by_cases ha : a = p
    · subst ha
      rw [updC_same] at e
      cases e
      exact ⟨vs, upd_same, Paired.map2 r fun _ _ q => Rx.up ex updC_sub q⟩
    · rw [updC_ne ha] at e
      exact Cell.up ex updC_sub (upd_ne ha) (c a u e)
/-- a mutable list changes -/
theorem Adv.setL {K : PySem.W.Frag} {C : Cs} {H : Hp} {p : Addr} {vs : List V} {xs : List Ax} (c : Cells K C H) (hp : (C p).isSome = true) (r : RxA K C H vs xs) : Adv K C H (updC C p (.lst xs)) (upd H p (.lst vs)) := by
  have ex : ∀ a u, hid C H a = some u → hid (updC C p (.lst xs)) (upd H p (.lst vs)) a = some u := fun a u h => by
    have ne : a ≠ p := fun z => by
      subst z
      unfold hid at h
      rw [if_pos hp] at h
      cases h
    unfold hid at h ⊢
    rw [upd_ne ne, updC_ne ne]
    exact h
  refine ⟨ex, updC_sub, fun a h => ?_, fun a u e => ?_⟩
  · by_cases ha : a = p
    · subst ha; rw [upd_same]; rfl
    · rw [upd_ne ha]; exact h
  · by_cases ha : a = p
    · subst ha
      rw [updC_same] at e
      cases e
      exact ⟨vs, upd_same, Paired.map2 r fun _ _ q => Rx.up ex updC_sub q⟩
    · rw [updC_ne ha] at e
      exact Cell.up ex updC_sub (upd_ne ha) (c a u e)
theorem Sta.set {K : PySem.W.Frag} {Γ : Gm} {C : Cs} {σ : L2.St} {H : Hp} {v : V} {x : Ax} (s : Sta K Γ C σ H) (i : Nat) (r : Rx K C H v x) : Sta K (Γ.set i (some x)) C (σ.set i (some v)) H := by
  refine ⟨by rw [List.length_set, List.length_set, s.len], fun j y e => ?_, s.cells⟩
  by_cases ij : i = j
  · subst ij
    by_cases hi : i < Γ.length
    · rw [List.getElem?_set_self hi] at e
      cases e
      exact ⟨v, List.getElem?_set_self (by rw [s.len]; exact hi), r⟩
    · rw [List.getElem?_eq_none (by rw [List.length_set]; omega)] at e
      cases e
  · rw [List.getElem?_set_ne ij] at e
    obtain ⟨w, e1, q⟩ := s.slot j y e
    exact ⟨w, by rw [List.getElem?_set_ne ij]; exact e1, q⟩
/-- less is known -/
def Le : Gm → Gm → Prop
  | [], [] => True
  | none :: r, _ :: q => Le r q
  | some x :: r, y :: q => y = some x ∧ Le r q
  | _, _ => False
theorem Le.len : ∀ {Γ Δ : Gm}, Le Γ Δ → Γ.length = Δ.length
  | [], [], _ => rfl
  | none :: r, _ :: q, h => by simp [Le.len (Γ := r) (Δ := q) h]
  | some x :: r, y :: q, h => by simp [Le.len (Γ := r) (Δ := q) h.2]
theorem Le.get : ∀ {Γ Δ : Gm} {i : Nat} {x : Ax}, Le Γ Δ → Γ[i]? = some (some x) → Δ[i]? = some (some x)
  | [], [], _, _, _, e => by simp at e
  | none :: r, _ :: q, 0, _, _, e => by simp at e
  | none :: r, _ :: q, i + 1, x, h, e => by
    have := Le.get (Γ := r) (Δ := q) (i := i) (x := x) h (by simpa using e)
    simpa using this
  | some x :: r, y :: q, 0, z, h, e => by
    simp at e
    subst e
    simp [h.1]
  | some x :: r, y :: q, i + 1, z, h, e => by
    have := Le.get (Γ := r) (Δ := q) (i := i) (x := z) h.2 (by simpa using e)
    simpa using this
theorem Le.refl : ∀ Γ : Gm, Le Γ Γ
  | [] => trivial
  | none :: r => Le.refl r
  | some x :: r => ⟨rfl, Le.refl r⟩
theorem Sta.weak {K : PySem.W.Frag} {Γ Δ : Gm} {C : Cs} {σ : L2.St} {H : Hp} (s : Sta K Δ C σ H) (h : Le Γ Δ) : Sta K Γ C σ H :=
  ⟨s.len.trans h.len.symm, fun i x e => s.slot i x (h.get e), s.cells⟩
end Ab

/-! Ab2: judgements over the abstract store, rules for expressions. -/
namespace Ab
open PySem PySem.Spec PyProof.Rows L2

abbrev I (i : Int) : Ax := .dat (.int i)
abbrev B (b : Bool) : Ax := .dat (.bool b)
abbrev S (s : Str) : Ax := .dat (.str s)
abbrev T (ds : List PyData) : Ax := .dat (.tuple ds)
abbrev Ls (ds : List PyData) : Ax := .dat (.list ds)
abbrev No : Ax := .dat .none

section
variable (K : PySem.W.Frag)
def Ev (te : TE) (Γ : Gm) (C : Cs) (P : Ax → Cs → Prop) : Prop := ∀ σ H, Sta K Γ C σ H → ∀ Q : VK, (∀ v x C2 H2, Adv K C H C2 H2 → Rx K C2 H2 v x → P x C2 → Q v H2) → te σ H Q
def Pu (te : TE) (Γ : Gm) (C : Cs) (x : Ax) : Prop := ∀ σ H, Sta K Γ C σ H → ∀ Q : VK, (∀ v H2, Adv K C H C H2 → Rx K C H2 v x → Q v H2) → te σ H Q
def EvT (tt : TT) (Γ : Gm) (C : Cs) (P : Bool → Cs → Prop) : Prop := ∀ σ H, Sta K Γ C σ H → ∀ Q : Bool → Hp → Prop, (∀ b C2 H2, Adv K C H C2 H2 → P b C2 → Q b H2) → tt σ H Q
def PuT (tt : TT) (Γ : Gm) (C : Cs) (b : Bool) : Prop := ∀ σ H, Sta K Γ C σ H → ∀ Q : Bool → Hp → Prop, (∀ H2, Adv K C H C H2 → Q b H2) → tt σ H Q
def PuA (ta : TA) (Γ : Gm) (C : Cs) (xs : List Ax) : Prop := ∀ σ H, Sta K Γ C σ H → ∀ Q : List V → Hp → Prop, (∀ vs H2, Adv K C H C H2 → RxA K C H2 vs xs → Q vs H2) → ta σ H Q
def PuO (to : TO) (Γ : Gm) (C : Cs) (o : Option Int) : Prop := ∀ σ H, Sta K Γ C σ H → ∀ Q : Option Int → Hp → Prop, (∀ H2, Adv K C H C H2 → Q o H2) → to σ H Q
/-- a new list: its items, its place free before -/
def PuL (te : TE) (Γ : Gm) (C : Cs) (xs : List Ax) : Prop := ∀ σ H, Sta K Γ C σ H → ∀ Q : VK, (∀ p vs H1, Adv K C H C H1 → H1 p = none → RxA K C H1 vs xs → Q (.ref p) (upd H1 p (.lst vs))) → te σ H Q
/-- by values -/
def R2u (r : R2) (C : Cs) (x y z : Ax) : Prop := ∀ v w H, Cells K C H → Rx K C H v x → Rx K C H w y → ∀ Q : VK, (∀ u H2, Adv K C H C H2 → Rx K C H2 u z → Q u H2) → r v w H Q
def RCu (r : List V → Hp → VK → Prop) (C : Cs) (xs : List Ax) (z : Ax) : Prop := ∀ vs H, Cells K C H → RxA K C H vs xs → ∀ Q : VK, (∀ u H2, Adv K C H C H2 → Rx K C H2 u z → Q u H2) → r vs H Q
def SpG (rel : Cs → List Ax → (Ax → Cs → Prop) → Prop) : Sp := fun vs H Q _ => ∃ C xs P, Cells K C H ∧ RxA K C H vs xs ∧ rel C xs P ∧ ∀ v x C' H', Adv K C H C' H' → Rx K C' H' v x → P x C' → Q v H'
end
variable {K : PySem.W.Frag} {Γ : Gm} {C : Cs} {ta tb tc te : TE} {x y z : Ax} {t u : TT} {r : R2}

theorem rx_int {H : Hp} {v : V} {i : Int} (h : Rx K C H v (I i)) : v = .int i := by cases h; rfl
theorem rx_bl {H : Hp} {v : V} {i : Bool} (h : Rx K C H v (B i)) : v = .bl i := by cases h; rfl
theorem rx_str {H : Hp} {v : V} {i : Str} (h : Rx K C H v (S i)) : v = .str i := by cases h; rfl
theorem rx_no {H : Hp} {v : V} (h : Rx K C H v No) : v = .non := by cases h; rfl
theorem rx_I {H : Hp} {i : Int} : Rx K C H (.int i) (I i) := Dp.int i
theorem rx_B {H : Hp} {i : Bool} : Rx K C H (.bl i) (B i) := Dp.bl i
theorem rx_S {H : Hp} {i : Str} : Rx K C H (.str i) (S i) := Dp.str i
theorem rx_N {H : Hp} : Rx K C H .non No := Dp.non
theorem rxa_dat {H : Hp} : ∀ {vs : List V} {ds : List PyData}, DpAll K (hid C H) vs ds → RxA K C H vs (ds.map .dat)
  | _, _, .nil => .nil
  | _, _, .cons h t => .cons h (rxa_dat t)
theorem dat_rxa {H : Hp} : ∀ {vs : List V} {ds : List PyData}, RxA K C H vs (ds.map .dat) → DpAll K (hid C H) vs ds
  | _, [], h => by cases h; exact .nil
  | _, d :: ds, h => by
    cases h with
    | cons a b => exact .cons a (dat_rxa b)

theorem Pu.ev (h : Pu K te Γ C x) : Ev K te Γ C (fun y C2 => y = x ∧ C2 = C) := fun σ H s Q q => h σ H s Q fun v H2 a r => q v x C H2 a r ⟨rfl, rfl⟩
theorem PuT.ev {b : Bool} (h : PuT K t Γ C b) : EvT K t Γ C (fun y C2 => y = b ∧ C2 = C) := fun σ H s Q q => h σ H s Q fun H2 a => q b C H2 a ⟨rfl, rfl⟩
theorem Ev.imp {P P' : Ax → Cs → Prop} (h : Ev K te Γ C P) (k : ∀ x C, P x C → P' x C) : Ev K te Γ C P' := fun σ H s Q q => h σ H s Q fun v x C2 H2 a r p => q v x C2 H2 a r (k _ _ p)

/-! ### expressions -/
theorem pu_var {i : Nat} (h : Γ[i]? = some (some x)) : Pu K (tVar i) Γ C x := fun σ H s Q q =>
  let ⟨v, e, r⟩ := s.slot i x h
  ⟨v, e, q v H s.adv r⟩
theorem pu_int {i : Int} : Pu K (tC (.int i)) Γ C (I i) := fun σ H s Q q => q _ H s.adv rx_I
theorem pu_bl {i : Bool} : Pu K (tC (.bl i)) Γ C (B i) := fun σ H s Q q => q _ H s.adv rx_B
theorem pu_str {i : Str} : Pu K (tC (.str i)) Γ C (S i) := fun σ H s Q q => q _ H s.adv rx_S
theorem pu_no : Pu K (tC .non) Γ C No := fun σ H s Q q => q _ H s.adv rx_N
theorem pu_op (ha : Pu K ta Γ C x) (hb : Pu K tb Γ C y) (hr : R2u K r C x y z) : Pu K (tOp r ta tb) Γ C z := fun σ H s Q q =>
  ha σ H s _ fun v H1 a1 r1 => hb σ H1 (a1.sta s) _ fun w H2 a2 r2 => hr v w H2 a2.cells (a2.rx r1) r2 Q fun u H3 a3 r3 => q u H3 ((a1.trans a2).trans a3) r3
theorem ri0 {f : Int → Int → V} {i j : Int} (h : ∀ H, Rx K C H (f i j) z) : R2u K (rI0 f) C (I i) (I j) z := fun v w H c r1 r2 Q q => by
  cases rx_int r1; cases rx_int r2
  exact ⟨i, j, rfl, rfl, q _ H (Adv.refl c) (h H)⟩
theorem ri1 {G : Int → Int → Prop} {f : Int → Int → V} {i j : Int} (g : G i j) (h : ∀ H, Rx K C H (f i j) z) : R2u K (rI G f) C (I i) (I j) z := fun v w H c r1 r2 Q q => by
  cases rx_int r1; cases rx_int r2
  exact ⟨i, j, rfl, rfl, g, q _ H (Adv.refl c) (h H)⟩
section
variable {i j : Int}
theorem pu_add (ha : Pu K ta Γ C (I i)) (hb : Pu K tb Γ C (I j)) : Pu K (tOp (rI0 fun i j => .int (i + j)) ta tb) Γ C (I (i + j)) := pu_op ha hb (ri0 fun _ => rx_I)
theorem pu_sub (ha : Pu K ta Γ C (I i)) (hb : Pu K tb Γ C (I j)) : Pu K (tOp (rI0 fun i j => .int (i - j)) ta tb) Γ C (I (i - j)) := pu_op ha hb (ri0 fun _ => rx_I)
theorem pu_mul (ha : Pu K ta Γ C (I i)) (hb : Pu K tb Γ C (I j)) (h : CMul i j) : Pu K (tOp (rI CMul fun i j => .int (i * j)) ta tb) Γ C (I (i * j)) := pu_op ha hb (ri1 h fun _ => rx_I)
theorem pu_mulW (ha : Pu K ta Γ C (I i)) (hb : Pu K tb Γ C (I j)) (h : CMulW i j) : Pu K (tOp (rI CMulW fun i j => .int (i * j)) ta tb) Γ C (I (i * j)) := pu_op ha hb (ri1 h fun _ => rx_I)
theorem pu_mod (ha : Pu K ta Γ C (I i)) (hb : Pu K tb Γ C (I j)) (h : 0 < j) : Pu K (tOp (rI (fun _ j => 0 < j) fun i j => .int (i % j)) ta tb) Γ C (I (i % j)) := pu_op ha hb (ri1 h fun _ => rx_I)
theorem pu_fdiv (ha : Pu K ta Γ C (I i)) (hb : Pu K tb Γ C (I j)) (h : CDiv i j) : Pu K (tOp (rI CDiv fun i j => .int (i / j)) ta tb) Γ C (I (i / j)) := pu_op ha hb (ri1 h fun _ => rx_I)
theorem pu_pow (ha : Pu K ta Γ C (I i)) (hb : Pu K tb Γ C (I j)) (h : CPow i j) : Pu K (tOp (rI CPow fun i j => .int (i ^ j.toNat)) ta tb) Γ C (I (i ^ j.toNat)) := pu_op ha hb (ri1 h fun _ => rx_I)
theorem pu_lt (ha : Pu K ta Γ C (I i)) (hb : Pu K tb Γ C (I j)) : Pu K (tOp (rI0 fun i j => .bl (decide (i < j))) ta tb) Γ C (B (decide (i < j))) := pu_op ha hb (ri0 fun _ => rx_B)
theorem pu_le (ha : Pu K ta Γ C (I i)) (hb : Pu K tb Γ C (I j)) : Pu K (tOp (rI0 fun i j => .bl (decide (i ≤ j))) ta tb) Γ C (B (decide (i ≤ j))) := pu_op ha hb (ri0 fun _ => rx_B)
theorem pu_gt (ha : Pu K ta Γ C (I i)) (hb : Pu K tb Γ C (I j)) : Pu K (tOp (rI0 fun i j => .bl (decide (j < i))) ta tb) Γ C (B (decide (j < i))) := pu_op ha hb (ri0 fun _ => rx_B)
theorem pu_ge (ha : Pu K ta Γ C (I i)) (hb : Pu K tb Γ C (I j)) : Pu K (tOp (rI0 fun i j => .bl (decide (j ≤ i))) ta tb) Γ C (B (decide (j ≤ i))) := pu_op ha hb (ri0 fun _ => rx_B)
end
/-- scalars -/
def scD : PyData → Option V
  | .none => some .non
  | .bool b => some (.bl b)
  | .int i => some (.int i)
  | .str s => some (.str s)
  | _ => none
theorem scD_rx {H : Hp} {v w : V} {d : PyData} (h : scD d = some w) (r : Rx K C H v (.dat d)) : v = w := by
  cases d <;> simp [scD] at h <;> subst h <;> cases r <;> rfl
theorem pu_eqS {d e : PyData} {v w : V} (ha : Pu K ta Γ C (.dat d)) (hb : Pu K tb Γ C (.dat e)) (hd : scD d = some v) (he : scD e = some w) (hs : scal v w = true) : Pu K (tOp rEq ta tb) Γ C (B (decide (v = w))) :=
  pu_op ha hb fun v' w' H c r1 r2 Q q => by
    cases scD_rx hd r1; cases scD_rx he r2
    exact ⟨hs, q _ H (Adv.refl c) rx_B⟩
theorem pu_neS {d e : PyData} {v w : V} (ha : Pu K ta Γ C (.dat d)) (hb : Pu K tb Γ C (.dat e)) (hd : scD d = some v) (he : scD e = some w) (hs : scal v w = true) : Pu K (tOp rNe ta tb) Γ C (B (!decide (v = w))) :=
  pu_op ha hb fun v' w' H c r1 r2 Q q => by
    cases scD_rx hd r1; cases scD_rx he r2
    exact ⟨hs, q _ H (Adv.refl c) rx_B⟩
theorem dec_i {i j : Int} : decide (V.int i = V.int j) = decide (i = j) := by
  by_cases h : i = j
  · rw [decide_eq_true h, decide_eq_true (by rw [h])]
  · rw [decide_eq_false h, decide_eq_false (by simpa using h)]
theorem dec_s {i j : Str} : decide (V.str i = V.str j) = decide (i = j) := by
  by_cases h : i = j
  · rw [decide_eq_true h, decide_eq_true (by rw [h])]
  · rw [decide_eq_false h, decide_eq_false (by simpa using h)]
theorem pu_eqI {i j : Int} (ha : Pu K ta Γ C (I i)) (hb : Pu K tb Γ C (I j)) : Pu K (tOp rEq ta tb) Γ C (B (decide (i = j))) := by
  have := pu_eqS ha hb rfl rfl rfl
  rw [dec_i] at this
  exact this
theorem pu_neI {i j : Int} (ha : Pu K ta Γ C (I i)) (hb : Pu K tb Γ C (I j)) : Pu K (tOp rNe ta tb) Γ C (B (!decide (i = j))) := by
  have := pu_neS ha hb rfl rfl rfl
  rw [dec_i] at this
  exact this
theorem pu_eqStr {i j : Str} (ha : Pu K ta Γ C (S i)) (hb : Pu K tb Γ C (S j)) : Pu K (tOp rEq ta tb) Γ C (B (decide (i = j))) := by
  have := pu_eqS ha hb rfl rfl rfl
  rw [dec_s] at this
  exact this
theorem pu_neStr {i j : Str} (ha : Pu K ta Γ C (S i)) (hb : Pu K tb Γ C (S j)) : Pu K (tOp rNe ta tb) Γ C (B (!decide (i = j))) := by
  have := pu_neS ha hb rfl rfl rfl
  rw [dec_s] at this
  exact this
theorem rx_dp {H : Hp} {v : V} {d : PyData} (r : Rx K C H v (.dat d)) : Dp K H v d := Dp.up hid_le d r
theorem pu_eqD {d e : PyData} (ha : Pu K ta Γ C (.dat d)) (hb : Pu K tb Γ C (.dat e)) (hd : SeqAt.shaped d = true) (he : SeqAt.shaped e = true) : Pu K (tOp (rEqD K) ta tb) Γ C (B (PyData.eqv d e)) :=
  pu_op ha hb fun v w H c r1 r2 Q q => ⟨d, e, rx_dp r1, rx_dp r2, hd, he, q _ H (Adv.refl c) rx_B⟩
theorem pu_neD {d e : PyData} (ha : Pu K ta Γ C (.dat d)) (hb : Pu K tb Γ C (.dat e)) (hd : SeqAt.shaped d = true) (he : SeqAt.shaped e = true) : Pu K (tOp (rNeD K) ta tb) Γ C (B (!PyData.eqv d e)) :=
  pu_op ha hb fun v w H c r1 r2 Q q => ⟨d, e, rx_dp r1, rx_dp r2, hd, he, q _ H (Adv.refl c) rx_B⟩
/-! ### subscripts -/
theorem atI_D {H : Hp} {vs : List V} {ds : List PyData} {i : Int} {d : PyData} (h : DpAll K H vs ds) (e : atI ds i = some d) : ∃ v, atI vs i = some v ∧ Dp K H v d := by
  unfold atI at e ⊢
  rw [h.len]
  cases hi : ixN ds.length i with
  | none => rw [hi] at e; cases e
  | some j =>
    rw [hi] at e
    exact h.get e
theorem pu_ixT {ds : List PyData} {i : Int} {d : PyData} (ha : Pu K ta Γ C (T ds)) (hb : Pu K tb Γ C (I i)) (h : atI ds i = some d) : Pu K (tOp (rIxT K) ta tb) Γ C (.dat d) :=
  pu_op ha hb fun v w H c r1 r2 Q q => by
    cases rx_int r2
    cases r1 with
    | tup hs hd =>
      obtain ⟨u, e1, e2⟩ := atI_D hd h
      exact ⟨_, _, i, u, rfl, rfl, SqT.up hid_le hs, e1, q _ H (Adv.refl c) e2⟩
theorem pu_ixL {ds : List PyData} {i : Int} {d : PyData} (ha : Pu K ta Γ C (Ls ds)) (hb : Pu K tb Γ C (I i)) (h : atI ds i = some d) : Pu K (tOp (rIxL K) ta tb) Γ C (.dat d) :=
  pu_op ha hb fun v w H c r1 r2 Q q => by
    cases rx_int r2
    cases r1 with
    | lst hs hd =>
      obtain ⟨u, e1, e2⟩ := atI_D hd h
      exact ⟨_, _, i, u, rfl, rfl, SqL.up hid_le hs, e1, q _ H (Adv.refl c) e2⟩
theorem rxa_get {H : Hp} : ∀ {vs : List V} {xs : List Ax} {i : Nat} {x : Ax}, RxA K C H vs xs → xs[i]? = some x → ∃ v, vs[i]? = some v ∧ Rx K C H v x
  | _, _, _, _, .nil, e => by simp at e
  | _, _, 0, _, .cons r _, e => by simp at e; subst e; exact ⟨_, rfl, r⟩
  | _, _, i + 1, d, .cons _ t, e => by
    obtain ⟨u, h1, h2⟩ := rxa_get (i := i) (x := d) t (by simpa using e)
    exact ⟨u, by simpa using h1, h2⟩
theorem atI_A {H : Hp} {vs : List V} {xs : List Ax} {i : Int} {d : Ax} (h : RxA K C H vs xs) (e : atI xs i = some d) : ∃ v, atI vs i = some v ∧ Rx K C H v d := by
  unfold atI at e ⊢
  rw [h.length]
  cases hi : ixN xs.length i with
  | none => rw [hi] at e; cases e
  | some j =>
    rw [hi] at e
    exact rxa_get h e
/-- an item of a mutable list -/
theorem pu_ixM {a : Addr} {xs : List Ax} {i : Int} (ha : Pu K ta Γ C (.ref a)) (hb : Pu K tb Γ C (I i)) (hc : C a = some (.lst xs)) (h : atI xs i = some x) : Pu K (tOp (rIxL K) ta tb) Γ C x :=
  pu_op ha hb fun v w H c r1 r2 Q q => by
    cases rx_int r2
    obtain ⟨rfl, _⟩ := r1
    obtain ⟨vs, e1, e2⟩ := c a _ hc
    obtain ⟨u, e3, e4⟩ := atI_A e2 h
    exact ⟨_, _, i, u, rfl, rfl, SqL.of e1, e3, q _ H (Adv.refl c) e4⟩
/-! ### tests -/
theorem ut_test {b : Bool} (h : Pu K te Γ C (B b)) : PuT K (tTest te) Γ C b := fun σ H s Q q => h σ H s _ fun v H2 a r => by
  cases rx_bl r
  exact ⟨b, rfl, q H2 a⟩
theorem ut_B {b : Bool} (h : Pu K te Γ C (B b)) : PuT K (tB te) Γ C b := fun σ H s Q q => h σ H s _ fun v H2 a r => by
  cases rx_bl r
  exact ⟨b, rfl, q H2 a⟩
theorem ut_and {a b : Bool} (h1 : PuT K t Γ C a) (h2 : a = true → PuT K u Γ C b) : PuT K (tAnd t u) Γ C (a && b) := fun σ H s Q q => h1 σ H s _ fun H1 a1 => by
  cases a with
  | true =>
    show u σ H1 Q
    exact h2 rfl σ H1 (a1.sta s) Q fun H2 a2 => q H2 (a1.trans a2)
  | false =>
    show Q false H1
    exact q H1 a1
theorem ut_or {a b : Bool} (h1 : PuT K t Γ C a) (h2 : a = false → PuT K u Γ C b) : PuT K (tOr t u) Γ C (a || b) := fun σ H s Q q => h1 σ H s _ fun H1 a1 => by
  cases a with
  | true =>
    show Q true H1
    exact q H1 a1
  | false =>
    show u σ H1 Q
    exact h2 rfl σ H1 (a1.sta s) Q fun H2 a2 => q H2 (a1.trans a2)
theorem ut_not {a : Bool} (h : PuT K t Γ C a) : PuT K (tNot t) Γ C (!a) := fun σ H s Q q => h σ H s _ fun H1 a1 => q H1 a1
theorem ut_is {a b : Bool} (h : PuT K t Γ C a) (e : a = b) : PuT K t Γ C b := e ▸ h
theorem pu_is (h : Pu K te Γ C x) (e : x = y) : Pu K te Γ C y := e ▸ h
theorem pu_andV {a b : Bool} (h1 : Pu K ta Γ C (B a)) (h2 : a = true → Pu K tb Γ C (B b)) : Pu K (tAndV ta tb) Γ C (B (a && b)) := fun σ H s Q q => h1 σ H s _ fun v H1 a1 r1 => by
  cases rx_bl r1
  refine ⟨a, rfl, ?_⟩
  cases a with
  | true =>
    show tb σ H1 Q
    exact h2 rfl σ H1 (a1.sta s) Q fun v H2 a2 r => q v H2 (a1.trans a2) r
  | false =>
    show Q (.bl false) H1
    exact q _ H1 a1 rx_B
theorem pu_orV {a b : Bool} (h1 : Pu K ta Γ C (B a)) (h2 : a = false → Pu K tb Γ C (B b)) : Pu K (tOrV ta tb) Γ C (B (a || b)) := fun σ H s Q q => h1 σ H s _ fun v H1 a1 r1 => by
  cases rx_bl r1
  refine ⟨a, rfl, ?_⟩
  cases a with
  | true =>
    show Q (.bl true) H1
    exact q _ H1 a1 rx_B
  | false =>
    show tb σ H1 Q
    exact h2 rfl σ H1 (a1.sta s) Q fun v H2 a2 r => q v H2 (a1.trans a2) r
theorem pu_notV {a : Bool} (h1 : Pu K ta Γ C (B a)) : Pu K (tNotV ta) Γ C (B (!a)) := fun σ H s Q q => h1 σ H s _ fun v H1 a1 r1 => by
  cases rx_bl r1
  exact ⟨a, rfl, q _ H1 a1 rx_B⟩
theorem pu_if {b : Bool} (h : PuT K t Γ C b) (h1 : b = true → Pu K ta Γ C x) (h2 : b = false → Pu K tb Γ C x) : Pu K (tIf t ta tb) Γ C x := fun σ H s Q q => h σ H s _ fun H1 a1 => by
  cases b with
  | true =>
    show ta σ H1 Q
    exact h1 rfl σ H1 (a1.sta s) Q fun v H2 a2 r => q v H2 (a1.trans a2) r
  | false =>
    show tb σ H1 Q
    exact h2 rfl σ H1 (a1.sta s) Q fun v H2 a2 r => q v H2 (a1.trans a2) r
/-! ### arguments, displays -/
theorem au_nil : PuA K tNil Γ C [] := fun σ H s Q q => q [] H s.adv .nil
theorem au_cons {tr : TA} {xs : List Ax} (h : Pu K te Γ C x) (hr : PuA K tr Γ C xs) : PuA K (tCons te tr) Γ C (x :: xs) := fun σ H s Q q =>
  h σ H s _ fun v H1 a1 r1 => hr σ H1 (a1.sta s) _ fun vs H2 a2 r2 => q _ H2 (a1.trans a2) (.cons (a2.rx r1) r2)
theorem sz {n : Nat} (h : n ≤ 100000) : n ≤ sizeLine := Nat.le_trans h (by decide)
theorem szl {n : Nat} (h : n < 100000) : n < sizeLine := Nat.lt_of_lt_of_le h (by decide)
theorem pu_tup {tr : TA} {ds : List PyData} (h : PuA K tr Γ C (ds.map .dat)) (hl : ds.length ≤ 100000) : Pu K (tTup tr) Γ C (T ds) := fun σ H s Q q =>
  h σ H s _ fun vs H1 a1 r1 => ⟨sz (by rw [r1.length, List.length_map]; exact hl), fun p hp => by
    have a2 := Adv.new (o := .tup vs) a1.cells hp
    exact q _ _ (a1.trans a2) (.tup (SqT.of (hid_of upd_same (a1.cells.free hp))) (DpAll.up a2.ex ds (dat_rxa r1)))⟩
theorem pl_lst {tr : TA} {xs : List Ax} (h : PuA K tr Γ C xs) (hl : xs.length ≤ 100000) : PuL K (tLst tr) Γ C xs := fun σ H s Q q =>
  h σ H s _ fun vs H1 a1 r1 => ⟨sz (by rw [r1.length]; exact hl), fun p hp => q p vs H1 a1 hp r1⟩
/-- a new list as data -/
theorem pu_fz {ds : List PyData} (h : PuL K te Γ C (ds.map .dat)) : Pu K te Γ C (Ls ds) := fun σ H s Q q =>
  h σ H s _ fun p vs H1 a1 hp r => by
    have a2 := Adv.new (o := .lst vs) a1.cells hp
    exact q _ _ (a1.trans a2) (.lst (SqL.of (hid_of upd_same (a1.cells.free hp))) (DpAll.up a2.ex ds (dat_rxa r)))
theorem pu_cb {r : List V → Hp → VK → Prop} {tr : TA} {xs : List Ax} (h : PuA K tr Γ C xs) (hr : RCu K r C xs z) : Pu K (tCB r tr) Γ C z := fun σ H s Q q =>
  h σ H s _ fun vs H1 a1 r1 => hr vs H1 a1.cells r1 Q fun u H2 a2 r2 => q u H2 (a1.trans a2) r2
theorem pu_call {rel : Cs → List Ax → (Ax → Cs → Prop) → Prop} {E : XK} {tr : TA} {xs : List Ax} (h : PuA K tr Γ C xs) (hr : rel C xs fun y C2 => y = x ∧ C2 = C) : Pu K (tCall (SpG K rel) [] E tr) Γ C x := fun σ H s Q q =>
  h σ H s _ fun vs H1 a1 r1 => by
    rw [List.append_nil]
    refine ⟨C, xs, _, a1.cells, r1, hr, fun v y C2 H2 a2 r2 e => ?_⟩
    obtain ⟨rfl, rfl⟩ := e
    exact q v H2 (a1.trans a2) r2
theorem ev_call {rel : Cs → List Ax → (Ax → Cs → Prop) → Prop} {E : XK} {tr : TA} {xs : List Ax} {P : Ax → Cs → Prop} (h : PuA K tr Γ C xs) (hr : rel C xs P) : Ev K (tCall (SpG K rel) [] E tr) Γ C P := fun σ H s Q q =>
  h σ H s _ fun vs H1 a1 r1 => by
    rw [List.append_nil]
    exact ⟨C, xs, P, a1.cells, r1, hr, fun v y C2 H2 a2 r2 e => q v y C2 H2 (a1.trans a2) r2 e⟩
/-! ### len, list, tuple, int -/
def lenD : PyData → Option Nat
  | .list ds => some ds.length
  | .tuple ds => some ds.length
  | _ => none
def rLen (K : PySem.W.Frag) : List V → Hp → VK → Prop := fun xs H Q => ∃ p ys, xs = [.ref p] ∧ (SqL K H p ys ∨ SqT K H p ys) ∧ Q (.int ys.length) H
theorem rc_lenT {ds : List PyData} : RCu K (fun xs H Q => ∃ p ys, xs = [V.ref p] ∧ (SqL K H p ys ∨ SqT K H p ys) ∧ Q (.int ys.length) H) C [T ds] (I (ds.length : Int)) := fun vs H c r Q q => by
  cases r with
  | cons r1 rt =>
    cases rt
    cases r1 with
    | tup hs hd => exact ⟨_, _, rfl, .inr (SqT.up hid_le hs), q _ H (Adv.refl c) (by rw [hd.len]; exact rx_I)⟩
theorem rc_lenL {ds : List PyData} : RCu K (fun xs H Q => ∃ p ys, xs = [V.ref p] ∧ (SqL K H p ys ∨ SqT K H p ys) ∧ Q (.int ys.length) H) C [Ls ds] (I (ds.length : Int)) := fun vs H c r Q q => by
  cases r with
  | cons r1 rt =>
    cases rt
    cases r1 with
    | lst hs hd => exact ⟨_, _, rfl, .inl (SqL.up hid_le hs), q _ H (Adv.refl c) (by rw [hd.len]; exact rx_I)⟩
theorem rc_lenM {a : Addr} {xs : List Ax} (h : C a = some (.lst xs)) : RCu K (fun xs H Q => ∃ p ys, xs = [V.ref p] ∧ (SqL K H p ys ∨ SqT K H p ys) ∧ Q (.int ys.length) H) C [.ref a] (I (xs.length : Int)) := fun vs H c r Q q => by
  cases r with
  | cons r1 rt =>
    cases rt
    obtain ⟨rfl, _⟩ := r1
    obtain ⟨ws, e1, e2⟩ := c a _ h
    exact ⟨_, _, rfl, .inl (SqL.of e1), q _ H (Adv.refl c) (by rw [e2.length]; exact rx_I)⟩
/-- tuple(..) of a list of data; of a mutable list of data -/
theorem rc_tupL {ds : List PyData} : RCu K (fun xs H Q => ∃ p ys, xs = [V.ref p] ∧ ((SqL K H p ys ∧ ∀ l, H l = none → Q (.ref l) (upd H l (.tup ys))) ∨ (SqT K H p ys ∧ Q (.ref p) H))) C [Ls ds] (T ds) := fun vs H c r Q q => by
  cases r with
  | cons r1 rt =>
    cases rt
    cases r1 with
    | lst hs hd =>
      rename_i b us
      refine ⟨_, _, rfl, .inl ⟨SqL.up hid_le hs, fun l hl => ?_⟩⟩
      have a2 := Adv.new (o := .tup us) c hl
      exact q _ _ a2 (.tup (SqT.of (hid_of upd_same (c.free hl))) (DpAll.up a2.ex ds hd))
theorem rc_tupT {ds : List PyData} : RCu K (fun xs H Q => ∃ p ys, xs = [V.ref p] ∧ ((SqL K H p ys ∧ ∀ l, H l = none → Q (.ref l) (upd H l (.tup ys))) ∨ (SqT K H p ys ∧ Q (.ref p) H))) C [T ds] (T ds) := fun vs H c r Q q => by
  cases r with
  | cons r1 rt =>
    cases rt
    cases r1 with
    | tup hs hd => exact ⟨_, _, rfl, .inr ⟨SqT.up hid_le hs, q _ H (Adv.refl c) (.tup hs hd)⟩⟩
theorem rc_tupM {a : Addr} {ds : List PyData} (h : C a = some (.lst (ds.map .dat))) : RCu K (fun xs H Q => ∃ p ys, xs = [V.ref p] ∧ ((SqL K H p ys ∧ ∀ l, H l = none → Q (.ref l) (upd H l (.tup ys))) ∨ (SqT K H p ys ∧ Q (.ref p) H))) C [.ref a] (T ds) := fun vs H c r Q q => by
  cases r with
  | cons r1 rt =>
    cases rt
    obtain ⟨rfl, _⟩ := r1
    obtain ⟨ws, e1, e2⟩ := c a _ h
    refine ⟨_, _, rfl, .inl ⟨SqL.of e1, fun l hl => ?_⟩⟩
    have a2 := Adv.new (o := .tup ws) c hl
    exact q _ _ a2 (.tup (SqT.of (hid_of upd_same (c.free hl))) (DpAll.up a2.ex ds (dat_rxa e2)))
/-- list(..): a new list -/
theorem pl_listD {tr : TA} {d : PyData} {ds : List PyData} (h : PuA K tr Γ C [.dat d]) (e : d = .list ds ∨ d = .tuple ds) :
    PuL K (tCB (fun xs H Q => ∃ p ys, xs = [V.ref p] ∧ (SqL K H p ys ∨ SqT K H p ys) ∧ ∀ l, H l = none → Q (.ref l) (upd H l (.lst ys))) tr) Γ C (ds.map .dat) := fun σ H s Q q =>
  h σ H s _ fun vs H1 a1 r1 => by
    cases r1 with
    | cons r1 rt =>
      cases rt
      rcases e with rfl | rfl
      · cases r1 with
        | lst hs hd => exact ⟨_, _, rfl, .inl (SqL.up hid_le hs), fun l hl => q l _ H1 a1 hl (rxa_dat hd)⟩
      · cases r1 with
        | tup hs hd => exact ⟨_, _, rfl, .inr (SqT.up hid_le hs), fun l hl => q l _ H1 a1 hl (rxa_dat hd)⟩
theorem rc_int1 {i : Int} : RCu K (fun xs H Q => (∃ i, xs = [V.int i] ∧ Q (.int i) H) ∨ ∃ k, xs = [V.bl k] ∧ Q (.int (if k then 1 else 0)) H) C [I i] (I i) := fun vs H c r Q q => by
  cases r with
  | cons r1 rt =>
    cases rt
    cases rx_int r1
    exact .inl ⟨i, rfl, q _ H (Adv.refl c) rx_I⟩
theorem rc_intB {b : Bool} : RCu K (fun xs H Q => (∃ i, xs = [V.int i] ∧ Q (.int i) H) ∨ ∃ k, xs = [V.bl k] ∧ Q (.int (if k then 1 else 0)) H) C [B b] (I (if b then 1 else 0)) := fun vs H c r Q q => by
  cases r with
  | cons r1 rt =>
    cases rt
    cases rx_bl r1
    exact .inr ⟨b, rfl, q _ H (Adv.refl c) rx_I⟩
theorem rc_max2 {i j : Int} : RCu K (fun xs H Q => ∃ i j, xs = [V.int i, .int j] ∧ Q (.int (if j > i then j else i)) H) C [I i, I j] (I (if j > i then j else i)) := fun vs H c r Q q => by
  cases r with
  | cons r1 rt =>
    cases rt with
    | cons r2 rt =>
      cases rt
      cases rx_int r1; cases rx_int r2
      exact ⟨i, j, rfl, q _ H (Adv.refl c) rx_I⟩
/-! ### in -/
def flatD : PyData → Bool
  | .none => true
  | .bool _ => true
  | .int _ => true
  | .str _ => true
  | _ => false
end Ab

/-! Ab3: statements, loops, comprehensions over the abstract store. -/
namespace Ab
open PySem PySem.Spec PyProof.Rows L2

structure En where
  nx : Gm → Cs → Prop
  rt : Ax → Cs → Prop := fun _ _ => False
  bk : Gm → Cs → Prop := fun _ _ => False
  ct : Gm → Cs → Prop := fun _ _ => False
structure Fit (K : PySem.W.Frag) (E : En) (C : Cs) (H : Hp) (D : Ends) : Prop where
  nx : ∀ Γ C' σ' H', Adv K C H C' H' → Sta K Γ C' σ' H' → E.nx Γ C' → D.nx σ' H'
  rt : ∀ x v C' H', Adv K C H C' H' → Rx K C' H' v x → E.rt x C' → D.rt v H'
  bk : ∀ Γ C' σ' H', Adv K C H C' H' → Sta K Γ C' σ' H' → E.bk Γ C' → D.bk σ' H'
  ct : ∀ Γ C' σ' H', Adv K C H C' H' → Sta K Γ C' σ' H' → E.ct Γ C' → D.ct σ' H'
def Ds (K : PySem.W.Frag) (ts : TS) (E : En) (Γ : Gm) (C : Cs) : Prop := ∀ σ H, Sta K Γ C σ H → ∀ D, Fit K E C H D → ts D σ H
/-- a target takes x: Γ becomes Γ', only the slots vs change -/
def Chg (vs : List Nat) (σ σ' : L2.St) : Prop := σ'.length = σ.length ∧ ∀ i, i ∉ vs → σ'[i]? = σ[i]?
def Tg (K : PySem.W.Frag) (g : TG) (x : Ax) (Γ Γ' : Gm) (vs : List Nat) : Prop := ∀ C σ H v, Sta K Γ C σ H → Rx K C H v x → ∀ Q : L2.St → Hp → Prop, (∀ σ', Sta K Γ' C σ' H → Chg vs σ σ' → Q σ' H) → g v σ H Q

variable {K : PySem.W.Frag} {Γ Γ' : Gm} {C : Cs} {ta tb tc te to ti : TE} {x y z : Ax} {t u rest : TS} {c : TT} {E : En} {g : TG}

theorem rx_ref {C : Cs} {H : Hp} {a : Addr} (h : (C a).isSome = true) : Rx K C H (.ref a) (.ref a) := ⟨rfl, h⟩
theorem Fit.adv {C' : Cs} {H H' : Hp} {D : Ends} (f : Fit K E C H D) (a : Adv K C H C' H') : Fit K E C' H' D :=
  ⟨fun Γ C2 σ2 H2 b => f.nx Γ C2 σ2 H2 (a.trans b), fun x v C2 H2 b => f.rt x v C2 H2 (a.trans b), fun Γ C2 σ2 H2 b => f.bk Γ C2 σ2 H2 (a.trans b), fun Γ C2 σ2 H2 b => f.ct Γ C2 σ2 H2 (a.trans b)⟩
theorem tg_name {i : Nat} : Tg K (gName i) x Γ (Γ.set i (some x)) [i] := fun C σ H v s r Q q => q _ (s.set i r) ⟨List.length_set, fun j hj => List.getElem?_set_ne (fun e => hj (by simp [e]))⟩
theorem Chg.refl {vs : List Nat} {σ : L2.St} : Chg vs σ σ := ⟨rfl, fun _ _ => rfl⟩
theorem Chg.trans {vs ws : List Nat} {σ σ1 σ2 : L2.St} (a : Chg vs σ σ1) (b : Chg ws σ1 σ2) : Chg (vs ++ ws) σ σ2 :=
  ⟨b.1.trans a.1, fun i hi => by
    rw [List.mem_append, not_or] at hi
    exact (b.2 i hi.2).trans (a.2 i hi.1)⟩
/-- targets of a tuple -/
def TgL (K : PySem.W.Frag) (g : TGs) (ds : List PyData) (Γ Γ' : Gm) (vs : List Nat) : Prop := ∀ C σ H us, Sta K Γ C σ H → DpAll K (hid C H) us ds → ∀ Q : L2.St → Hp → Prop, (∀ σ', Sta K Γ' C σ' H → Chg vs σ σ' → Q σ' H) → g us σ H Q
theorem tgl_nil : TgL K gNil [] Γ Γ [] := fun C σ H us s r Q q => by
  cases r
  exact ⟨rfl, q σ s Chg.refl⟩
theorem tgl_cons {g : TG} {gs : TGs} {d : PyData} {ds : List PyData} {Γ1 Γ2 : Gm} {vs ws : List Nat} (h : Tg K g (.dat d) Γ Γ1 vs) (hs : TgL K gs ds Γ1 Γ2 ws) : TgL K (gCons g gs) (d :: ds) Γ Γ2 (vs ++ ws) := fun C σ H us s r Q q => by
  cases r with
  | cons r1 rt => exact ⟨_, _, rfl, h C σ H _ s r1 _ fun σ1 s1 c1 => hs C σ1 H _ s1 rt _ fun σ2 s2 c2 => q σ2 s2 (c1.trans c2)⟩
theorem tg_tup {gs : TGs} {ds : List PyData} {n : Nat} {vs : List Nat} (h : TgL K gs ds Γ Γ' vs) (hn : ds.length = n) : Tg K (gTup K n gs) (T ds) Γ Γ' vs := fun C σ H v s r Q q => by
  cases r with
  | tup hs hd => exact ⟨_, _, rfl, SqT.up hid_le hs, hd.len.trans hn, h C σ H _ s hd _ q⟩

/-! ### statements -/
theorem ds_next (h : E.nx Γ C) : Ds K tNext E Γ C := fun σ H s D f => f.nx Γ C σ H s.adv s h
theorem ds_brk (h : E.bk Γ C) : Ds K tBreak E Γ C := fun σ H s D f => f.bk Γ C σ H s.adv s h
theorem ds_ct (h : E.ct Γ C) : Ds K tCont E Γ C := fun σ H s D f => f.ct Γ C σ H s.adv s h
theorem ds_seq {M : Gm → Cs → Prop} (h : Ds K t { E with nx := M } Γ C) (k : ∀ Γ' C', M Γ' C' → Ds K u E Γ' C') : Ds K (tSeq t u) E Γ C := fun σ H s D f =>
  h σ H s _ ⟨fun Γ1 C1 σ1 H1 a s1 m => k Γ1 C1 m σ1 H1 s1 D (f.adv a), f.rt, f.bk, f.ct⟩
theorem ds_set {i : Nat} (h : Pu K te Γ C x) (k : Ds K rest E (Γ.set i (some x)) C) : Ds K (tSeq (tAsg te (gName i)) rest) E Γ C := fun σ H s D f =>
  h σ H s _ fun v H1 a r => k (σ.set i (some v)) H1 ((a.sta s).set i r) D (f.adv a)
theorem ds_set1 {i : Nat} (h : Pu K te Γ C x) (k : E.nx (Γ.set i (some x)) C) : Ds K (tAsg te (gName i)) E Γ C := fun σ H s D f =>
  h σ H s _ fun v H1 a r => f.nx _ C (σ.set i (some v)) H1 a ((a.sta s).set i r) k
theorem ds_setE {i : Nat} {P : Ax → Cs → Prop} (h : Ev K te Γ C P) (k : ∀ x C', P x C' → Ds K rest E (Γ.set i (some x)) C') : Ds K (tSeq (tAsg te (gName i)) rest) E Γ C := fun σ H s D f =>
  h σ H s _ fun v x C1 H1 a r p => k x C1 p (σ.set i (some v)) H1 ((a.sta s).set i r) D (f.adv a)
theorem ev_new {xs : List Ax} (h : PuL K te Γ C xs) : Ev K te Γ C (fun x C' => ∃ p, C p = none ∧ x = .ref p ∧ C' = updC C p (.lst xs)) := fun σ H s Q q =>
  h σ H s _ fun p vs H1 a hp r => by
    have b := Adv.newL a.cells hp r
    exact q _ _ _ _ (a.trans b) (rx_ref (by rw [updC_same]; rfl)) ⟨p, a.cells.free hp, rfl, rfl⟩
theorem ds_new {i : Nat} {xs : List Ax} (h : PuL K te Γ C xs) (k : ∀ p, C p = none → Ds K rest E (Γ.set i (some (.ref p))) (updC C p (.lst xs))) : Ds K (tSeq (tAsg te (gName i)) rest) E Γ C :=
  ds_setE (ev_new h) fun x C' ⟨p, e1, e2, e3⟩ => by subst e2; subst e3; exact k p e1
theorem ds_tgt {vs : List Nat} (h : Pu K te Γ C x) (ht : Tg K g x Γ Γ' vs) (k : Ds K rest E Γ' C) : Ds K (tSeq (tAsg te g) rest) E Γ C := fun σ H s D f =>
  h σ H s _ fun v H1 a r => ht C σ H1 v (a.sta s) r _ fun σ' s' _ => k σ' H1 s' D (f.adv a)
theorem ds_ret (h : Pu K te Γ C x) (k : E.rt x C) : Ds K (tRet te) E Γ C := fun σ H s D f =>
  h σ H s _ fun v H1 a r => f.rt x v C H1 a r k
theorem ds_retE {P : Ax → Cs → Prop} (h : Ev K te Γ C P) (k : ∀ x C', P x C' → E.rt x C') : Ds K (tRet te) E Γ C := fun σ H s D f =>
  h σ H s _ fun v x C1 H1 a r p => f.rt x v C1 H1 a r (k x C1 p)
theorem ds_if {b : Bool} (h : PuT K c Γ C b) (h1 : b = true → Ds K t E Γ C) (h2 : b = false → Ds K u E Γ C) : Ds K (tIfS c t u) E Γ C := fun σ H s D f =>
  h σ H s _ fun H1 a => by
    cases b with
    | true =>
      show t D σ H1
      exact h1 rfl σ H1 (a.sta s) D (f.adv a)
    | false =>
      show u D σ H1
      exact h2 rfl σ H1 (a.sta s) D (f.adv a)
theorem ds_ifs {b : Bool} (h : PuT K c Γ C b) (h1 : b = true → Ds K (tSeq t rest) E Γ C) (h2 : b = false → Ds K (tSeq u rest) E Γ C) : Ds K (tSeq (tIfS c t u) rest) E Γ C := fun σ H s D f =>
  h σ H s _ fun H1 a => by
    cases b with
    | true =>
      show tSeq t rest D σ H1
      exact h1 rfl σ H1 (a.sta s) D (f.adv a)
    | false =>
      show tSeq u rest D σ H1
      exact h2 rfl σ H1 (a.sta s) D (f.adv a)
theorem ds_ifE {P : Bool → Cs → Prop} (h : EvT K c Γ C P) (h1 : ∀ C', P true C' → Ds K t E Γ C') (h2 : ∀ C', P false C' → Ds K u E Γ C') : Ds K (tIfS c t u) E Γ C := fun σ H s D f =>
  h σ H s _ fun b C1 H1 a p => by
    cases b with
    | true =>
      show t D σ H1
      exact h1 C1 p σ H1 (a.sta s) D (f.adv a)
    | false =>
      show u D σ H1
      exact h2 C1 p σ H1 (a.sta s) D (f.adv a)
theorem ds_ifsE {P : Bool → Cs → Prop} (h : EvT K c Γ C P) (h1 : ∀ C', P true C' → Ds K (tSeq t rest) E Γ C') (h2 : ∀ C', P false C' → Ds K (tSeq u rest) E Γ C') : Ds K (tSeq (tIfS c t u) rest) E Γ C := fun σ H s D f =>
  h σ H s _ fun b C1 H1 a p => by
    cases b with
    | true =>
      show tSeq t rest D σ H1
      exact h1 C1 p σ H1 (a.sta s) D (f.adv a)
    | false =>
      show tSeq u rest D σ H1
      exact h2 C1 p σ H1 (a.sta s) D (f.adv a)
theorem ds_weak {Δ : Gm} (h : Ds K t E Δ C) (l : Le Δ Γ) : Ds K t E Γ C := fun σ H s D f => h σ H (s.weak l) D f
theorem ds_drop {P : Ax → Cs → Prop} (h : Ev K te Γ C P) (k : ∀ x C', P x C' → Ds K rest E Γ C') : Ds K (tSeq (tDrop te) rest) E Γ C := fun σ H s D f =>
  h σ H s _ fun v x C1 H1 a r p => k x C1 p σ H1 (a.sta s) D (f.adv a)
theorem ds_drop1 {P : Ax → Cs → Prop} (h : Ev K te Γ C P) (k : ∀ x C', P x C' → E.nx Γ C') : Ds K (tDrop te) E Γ C := fun σ H s D f =>
  h σ H s _ fun v x C1 H1 a r p => f.nx Γ C1 σ H1 a (a.sta s) (k x C1 p)
theorem ds_nextseq (h : Ds K rest E Γ C) : Ds K (tSeq tNext rest) E Γ C := h
theorem ds_retseq (h : Ds K (tRet te) E Γ C) : Ds K (tSeq (tRet te) rest) E Γ C := fun σ H s D f =>
  h σ H s D f
/-- xs.append(e) -/
theorem ev_app {a : Addr} {xs : List Ax} (ho : Pu K to Γ C (.ref a)) (h : Pu K te Γ C y) (hc : C a = some (.lst xs)) (hz : xs.length < 100000) : Ev K (tBM K "list" rAppend to (tCons te tNil)) Γ C (fun x C' => x = No ∧ C' = updC C a (.lst (xs ++ [y]))) := fun σ H s Q q =>
  ho σ H s _ fun v H1 a1 r1 => by
    obtain ⟨rfl, ia⟩ := r1
    obtain ⟨ws, e1, e2⟩ := a1.cells a _ hc
    refine ⟨.inl ⟨rfl, ws, SqL.of e1⟩, h σ H1 (a1.sta s) _ fun w H2 a2 r2 => ?_⟩
    obtain ⟨ws2, e3, e4⟩ := a2.cells a _ hc
    refine ⟨a, ws2, w, rfl, rfl, e3, szl (by rw [e4.length]; exact hz), ?_⟩
    have b := Adv.setL (p := a) a2.cells ia (Paired.snoc e4 r2)
    exact q _ _ _ _ ((a1.trans a2).trans b) rx_N ⟨rfl, rfl⟩
/-- xs[i] = e of a mutable list -/
theorem ds_setix {a : Addr} {xs : List Ax} {k : Int} {j : Nat} (h : Pu K te Γ C y) (ho : Pu K to Γ C (.ref a)) (hi : Pu K ti Γ C (I k)) (hc : C a = some (.lst xs)) (hj : ixN xs.length k = some j) (kk : Ds K rest E Γ (updC C a (.lst (xs.set j y)))) :
    Ds K (tSeq (tAsg te (gSub to ti rSetL)) rest) E Γ C := fun σ H s D f =>
  h σ H s _ fun v H1 a1 r1 => ho σ H1 (a1.sta s) _ fun w H2 a2 r2 => hi σ H2 ((a1.trans a2).sta s) _ fun i' H3 a3 r3 => by
    obtain ⟨rfl, ia⟩ := r2
    cases rx_int r3
    obtain ⟨ws, e1, e2⟩ := a3.cells a _ hc
    refine ⟨a, ws, k, j, rfl, rfl, e1, by rw [e2.length]; exact hj, ?_⟩
    have hset : ∀ {vs : List V} {xs : List Ax} (j : Nat), RxA K C H3 vs xs → RxA K C H3 (vs.set j v) (xs.set j y) := by
      intro vs xs j hp
      induction hp generalizing j with
      | nil => exact .nil
      | cons h1 h2 ih =>
        cases j with
        | zero => exact .cons ((a2.trans a3).rx r1) h2
        | succ j => exact .cons h1 (ih j)
    have b := Adv.setL (p := a) a3.cells ia (hset j e2)
    exact kk σ _ ((((a1.trans a2).trans a3).trans b).sta s) D (f.adv (((a1.trans a2).trans a3).trans b))

/-! ### what is walked -/
structure Wk (K : PySem.W.Frag) (F : Cs → Prop) (C : Cs) (H : Hp) (J : It) (xs : List Ax) : Prop where
  go : ∀ i C' H', Adv K C H C' H' → F C' → i < xs.length → J.go i H'
  stop : ∀ C' H', Adv K C H C' H' → F C' → J.stop xs.length H'
  yld : ∀ i x C' H' v H2, xs[i]? = some x → Adv K C H C' H' → F C' → J.yld i H' v H2 → Adv K C' H' C' H2 ∧ Rx K C' H2 v x
def PuI (K : PySem.W.Frag) (F : Cs → Prop) (wi : TI) (Γ : Gm) (C : Cs) (xs : List Ax) : Prop := ∀ σ H, Sta K Γ C σ H → ∀ R : It → Hp → Prop, (∀ J H1, Adv K C H C H1 → Wk K F C H1 J xs → R J H1) → wi σ H R
abbrev F0 : Cs → Prop := fun _ => True
theorem datget {ds : List PyData} {i : Nat} {x : Ax} (h : (ds.map Ax.dat)[i]? = some x) : ∃ d, ds[i]? = some d ∧ x = .dat d := by
  rw [List.getElem?_map] at h
  cases e : ds[i]? with
  | none => rw [e] at h; cases h
  | some d => rw [e] at h; cases h; exact ⟨d, rfl, rfl⟩
theorem ui_listD {ds : List PyData} (h : Pu K te Γ C (Ls ds)) : PuI K F0 (iList K te) Γ C (ds.map .dat) := fun σ H s R q => h σ H s _ fun v H1 a r => by
  cases r with
  | lst hs hd =>
    refine ⟨_, rfl, ⟨_, SqL.up hid_le hs⟩, q _ _ a ⟨fun i C' H' b _ hi => ?_, fun C' H' b _ => ?_, fun i x C' H' v H2 e b _ hy => ?_⟩⟩
    · have hi' : i < ds.length := by simpa using hi
      obtain ⟨w, e1, _⟩ := hd.get (List.getElem?_eq_getElem hi')
      exact ⟨_, w, SqL.up (fun a o h => hid_le a o (b.ex a o h)) hs, e1⟩
    · exact ⟨_, SqL.up (fun a o h => hid_le a o (b.ex a o h)) hs, by rw [hd.len, List.length_map]; exact Nat.le_refl _⟩
    · obtain ⟨rfl, hy⟩ := hy
      obtain ⟨d, e1, rfl⟩ := datget e
      obtain ⟨w, e2, e3⟩ := hd.get e1
      have e4 := hy _ (SqL.up (fun a o h => hid_le a o (b.ex a o h)) hs)
      cases e4.symm.trans e2
      exact ⟨Adv.refl b.cells, Dp.up b.ex d e3⟩
theorem ui_tupD {ds : List PyData} (h : Pu K te Γ C (T ds)) : PuI K F0 (iTup K te) Γ C (ds.map .dat) := fun σ H s R q => h σ H s _ fun v H1 a r => by
  cases r with
  | tup hs hd =>
    refine ⟨_, rfl, ⟨_, SqT.up hid_le hs⟩, q _ _ a ⟨fun i C' H' b _ hi => ?_, fun C' H' b _ => ?_, fun i x C' H' v H2 e b _ hy => ?_⟩⟩
    · have hi' : i < ds.length := by simpa using hi
      obtain ⟨w, e1, _⟩ := hd.get (List.getElem?_eq_getElem hi')
      exact ⟨_, w, SqT.up (fun a o h => hid_le a o (b.ex a o h)) hs, e1⟩
    · exact ⟨_, SqT.up (fun a o h => hid_le a o (b.ex a o h)) hs, by rw [hd.len, List.length_map]; exact Nat.le_refl _⟩
    · obtain ⟨rfl, hy⟩ := hy
      obtain ⟨d, e1, rfl⟩ := datget e
      obtain ⟨w, e2, e3⟩ := hd.get e1
      have e4 := hy _ (SqT.up (fun a o h => hid_le a o (b.ex a o h)) hs)
      cases e4.symm.trans e2
      exact ⟨Adv.refl b.cells, Dp.up b.ex d e3⟩
/-- a mutable list that stays while it is walked -/
theorem ui_listM {a : Addr} {xs : List Ax} (h : Pu K te Γ C (.ref a)) (hc : C a = some (.lst xs)) : PuI K (fun C' => C' a = some (.lst xs)) (iList K te) Γ C xs := fun σ H s R q => h σ H s _ fun v H1 a1 r => by
  obtain ⟨rfl, ia⟩ := r
  obtain ⟨ws, e1, e2⟩ := a1.cells a _ hc
  refine ⟨a, rfl, ⟨ws, SqL.of e1⟩, q _ _ a1 ⟨fun i C' H' b hF hi => ?_, fun C' H' b hF => ?_, fun i x C' H' v H2 e b hF hy => ?_⟩⟩
  · obtain ⟨us, e3, e4⟩ := b.cells a _ hF
    obtain ⟨w, e5, _⟩ := rxa_get e4 (List.getElem?_eq_getElem hi)
    exact ⟨us, w, SqL.of e3, e5⟩
  · obtain ⟨us, e3, e4⟩ := b.cells a _ hF
    exact ⟨us, SqL.of e3, by rw [e4.length]; exact Nat.le_refl _⟩
  · obtain ⟨rfl, hy⟩ := hy
    obtain ⟨us, e3, e4⟩ := b.cells a _ hF
    obtain ⟨w, e5, e6⟩ := rxa_get e4 e
    cases (hy _ (SqL.of e3)).symm.trans e5
    exact ⟨Adv.refl b.cells, e6⟩
def rngD (lo : Int) (n : Nat) : List Ax := (List.range n).map fun (i : Nat) => I (lo + (i : Int))
theorem rngD_len {lo : Int} {n : Nat} : (rngD lo n).length = n := by simp [rngD]
theorem rngD_get {lo : Int} {n i : Nat} {x : Ax} (h : (rngD lo n)[i]? = some x) : i < n ∧ x = I (lo + (i : Int)) := by
  unfold rngD at h
  rw [List.getElem?_map] at h
  by_cases hi : i < n
  · rw [List.getElem?_range hi] at h
    cases h
    exact ⟨hi, rfl⟩
  · rw [List.getElem?_eq_none (by simpa using hi)] at h
    cases h
theorem wk_rng {lo : Int} {n : Nat} {H : Hp} : Wk K F0 C H (Itr lo n) (rngD lo n) := by
  refine ⟨fun i C' H' b _ hi => ?_, fun C' H' b _ => ?_, fun i x C' H' v H2 e b _ hy => ?_⟩
  · show i < n
    rw [rngD_len] at hi
    exact hi
  · show n ≤ _
    rw [rngD_len]
    exact Nat.le_refl _
  · obtain ⟨rfl, rfl⟩ := hy
    obtain ⟨_, rfl⟩ := rngD_get e
    exact ⟨Adv.refl b.cells, rx_I⟩
theorem ui_rng1 {tr : TA} {n : Int} (h : PuA K tr Γ C [I n]) (hn : n ≤ 100000) (hm : -100000 ≤ n := by omega) : PuI K F0 (iRng1 tr) Γ C (rngD 0 n.toNat) := fun σ H s R q => h σ H s _ fun vs H1 a r => by
  cases r with
  | cons r1 rt =>
    cases rt
    cases rx_int r1
    exact ⟨n, rfl, by omega, by omega, q _ _ a wk_rng⟩
theorem ui_rng2 {tr : TA} {lo n : Int} (h : PuA K tr Γ C [I lo, I n]) (hn : -100000 ≤ lo ∧ lo ≤ 100000 ∧ -100000 ≤ n ∧ n ≤ 100000) : PuI K F0 (iRng2 tr) Γ C (rngD lo (n - lo).toNat) := fun σ H s R q => h σ H s _ fun vs H1 a r => by
  cases r with
  | cons r1 rt =>
    cases rt with
    | cons r2 rt =>
      cases rt
      cases rx_int r1
      cases rx_int r2
      exact ⟨lo, n, rfl, ⟨by omega, by omega, by omega, by omega⟩, q _ _ a wk_rng⟩

/-! ### for -/
theorem ds_for {F : Cs → Prop} {wi : TI} {xs : List Ax} (Iv : Nat → Gm → Cs → Prop) (hi : PuI K F wi Γ C xs) (h0 : Iv 0 Γ C) (hF : ∀ i Γ' C', Iv i Γ' C' → F C')
    (hs : ∀ i x Γ' C', xs[i]? = some x → Iv i Γ' C' → ∃ Γ2 vs, Tg K g x Γ' Γ2 vs ∧ Ds K t { nx := Iv (i + 1), rt := E.rt, bk := E.nx, ct := Iv (i + 1) } Γ2 C') (hd : ∀ Γ' C', Iv xs.length Γ' C' → E.nx Γ' C') : Ds K (tFor wi g t) E Γ C := fun σ H s D f =>
  hi σ H s _ fun J H1 a W => by
    refine ⟨fun i m σ' H' => m = xs.length - i ∧ i ≤ xs.length ∧ ∃ Γ' C', Adv K C H1 C' H' ∧ Sta K Γ' C' σ' H' ∧ Iv i Γ' C', ⟨xs.length, by simp, Nat.zero_le _, Γ, C, Adv.refl a.cells, a.sta s, h0⟩, ?_⟩
    rintro i m σ' H' ⟨rfl, hil, Γ', C', a1, s1, iv⟩
    by_cases hlt : i < xs.length
    · refine .inr ⟨W.go i C' H' a1 (hF _ _ _ iv) hlt, fun σ2 H2 => ∃ Γ2 C2, Adv K C H1 C2 H2 ∧ Sta K Γ2 C2 σ2 H2 ∧ Iv (i + 1) Γ2 C2, fun σ2 H2 ⟨Γ2, C2, a2, s2, iv2⟩ => ⟨xs.length - (i + 1), by omega, rfl, hlt, Γ2, C2, a2, s2, iv2⟩, fun v H2 hy => ?_⟩
      obtain ⟨a2, r2⟩ := W.yld i _ C' H' v H2 (List.getElem?_eq_getElem hlt) a1 (hF _ _ _ iv) hy
      obtain ⟨Γ2, vs, ht, hb⟩ := hs i _ Γ' C' (List.getElem?_eq_getElem hlt) iv
      refine ht C' σ' H2 v (a2.sta s1) r2 _ fun σ2 s2 _ => hb σ2 H2 s2 _ ⟨fun Γ3 C3 σ3 H3 a3 s3 e => ⟨Γ3, C3, (a1.trans a2).trans a3, s3, e⟩, fun x v C3 H3 a3 r3 e => f.rt x v C3 H3 (a.trans ((a1.trans a2).trans a3)) r3 e, fun Γ3 C3 σ3 H3 a3 s3 e => f.nx Γ3 C3 σ3 H3 (a.trans ((a1.trans a2).trans a3)) s3 e, fun Γ3 C3 σ3 H3 a3 s3 e => ⟨Γ3, C3, (a1.trans a2).trans a3, s3, e⟩⟩
    · have e : i = xs.length := by omega
      subst e
      exact .inl ⟨W.stop C' H' a1 (hF _ _ _ iv), f.nx Γ' C' σ' H' (a.trans a1) s1 (hd Γ' C' iv)⟩

/-! ### list comprehensions -/
def wipeG (Γ : Gm) : List Nat → Gm
  | [] => Γ
  | v :: vs => (wipeG Γ vs).set v none
theorem wipeG_len : ∀ vs : List Nat, (wipeG Γ vs).length = Γ.length
  | [] => rfl
  | v :: vs => by unfold wipeG; rw [List.length_set, wipeG_len vs]
theorem wipe_get {σ : L2.St} {i : Nat} : ∀ {vs : List Nat}, i ∉ vs → (wipe σ vs)[i]? = σ[i]?
  | [], _ => rfl
  | v :: vs, h => by
    unfold wipe
    rw [List.getElem?_set_ne (fun e => h (by simp [e])), wipe_get (fun e => h (by simp [e]))]
theorem wipe_in {σ : L2.St} {i : Nat} : ∀ {vs : List Nat}, i ∈ vs → i < σ.length → (wipe σ vs)[i]? = some none
  | v :: vs, h, hl => by
    unfold wipe
    by_cases e : v = i
    · subst e
      rw [List.getElem?_set_self (by rw [wipe_length]; exact hl)]
    · rw [List.getElem?_set_ne e]
      exact wipe_in (by simpa [Ne.symm e] using h) hl
theorem wipe_chg {vs : List Nat} {σ σ' : L2.St} (h : Chg vs (wipe σ vs) σ') : wipe σ' vs = wipe σ vs := by
  have hl : σ'.length = σ.length := by rw [h.1, wipe_length]
  refine List.ext_getElem? fun i => ?_
  by_cases hi : i ∈ vs
  · by_cases hk : i < σ.length
    · rw [wipe_in hi (by omega), wipe_in hi hk]
    · rw [List.getElem?_eq_none (by rw [wipe_length]; omega), List.getElem?_eq_none (by rw [wipe_length]; omega)]
  · rw [wipe_get hi, h.2 i hi]
theorem Sta.wipe {σ : L2.St} {H : Hp} (s : Sta K Γ C σ H) : ∀ vs : List Nat, Sta K (wipeG Γ vs) C (wipe σ vs) H
  | [] => s
  | v :: vs => by
    have q := Sta.wipe s vs
    unfold wipeG L2.wipe
    refine ⟨by rw [List.length_set, List.length_set, q.len], fun i x e => ?_, q.cells⟩
    by_cases iv : v = i
    · subst iv
      by_cases hl : v < (wipeG Γ vs).length
      · rw [List.getElem?_set_self hl] at e; cases e
      · rw [List.getElem?_eq_none (by simpa using hl)] at e; cases e
    · rw [List.getElem?_set_ne iv] at e
      rw [List.getElem?_set_ne iv]
      exact q.slot i x e
theorem Chg.mono {vs ws : List Nat} {σ σ' : L2.St} (h : Chg vs σ σ') (k : ∀ i, i ∈ vs → i ∈ ws) : Chg ws σ σ' := ⟨h.1, fun i hi => h.2 i fun e => hi (k i e)⟩
/-- the list under way is the cell at D: what holds of the items so far -/
theorem ev_lc {F : Cs → Prop} {wi : TI} {xs : List Ax} {tt : TT} {own : List Nat} (Iv : Addr → Nat → List Ax → Cs → Prop) {P : Ax → Cs → Prop} (hi : PuI K F wi Γ C xs) (hn : xs.length < 100000)
    (h0 : ∀ D, C D = none → Iv D 0 [] (updC C D (.lst []))) (hF : ∀ D i acc C', Iv D i acc C' → F C')
    (hs : ∀ D i x acc C', C D = none → xs[i]? = some x → Iv D i acc C' → C' D = some (.lst acc) → ∃ Γ2 vs b, (∀ j, j ∈ vs → j ∈ own) ∧ Tg K g x (wipeG Γ own) Γ2 vs ∧ PuT K tt Γ2 C' b ∧ (b = false → Iv D (i + 1) acc C') ∧
      (b = true → Ev K te Γ2 C' fun y C2 => C2 D = some (.lst acc) ∧ Iv D (i + 1) (acc ++ [y]) (updC C2 D (.lst (acc ++ [y])))))
    (hd : ∀ D acc C', C D = none → Iv D xs.length acc C' → C' D = some (.lst acc) → P (.ref D) C') : Ev K (tLc wi g tt te own) Γ C P := fun σ H s Q q =>
  hi σ H s _ fun J H1 a W D hD => by
    have cD := a.cells.free hD
    have aN := Adv.newL (p := D) (xs := []) (vs := []) a.cells hD .nil
    refine ⟨fun i m H' => m = xs.length - i ∧ i ≤ xs.length ∧ ∃ acc C', Adv K C H1 C' H' ∧ Iv D i acc C' ∧ C' D = some (.lst acc) ∧ acc.length ≤ i, ⟨xs.length, by simp, Nat.zero_le _, [], _, aN, h0 D cD, updC_same, Nat.le_refl _⟩, ?_⟩
    rintro i m H' ⟨rfl, hil, acc, C', a1, iv, cd, al⟩
    by_cases hlt : i < xs.length
    · refine .inr ⟨W.go i C' H' a1 (hF _ _ _ _ iv) hlt, fun H2 => ∃ acc C2, Adv K C H1 C2 H2 ∧ Iv D (i + 1) acc C2 ∧ C2 D = some (.lst acc) ∧ acc.length ≤ i + 1, fun H2 ⟨acc, C2, a2, iv2, cd2, al2⟩ => ⟨xs.length - (i + 1), by omega, rfl, hlt, acc, C2, a2, iv2, cd2, al2⟩, fun v H2 hy => ?_⟩
      obtain ⟨a2, r2⟩ := W.yld i _ C' H' v H2 (List.getElem?_eq_getElem hlt) a1 (hF _ _ _ _ iv) hy
      obtain ⟨Γ2, vs, b, hv, ht, hb, hf0, hf1⟩ := hs D i _ acc C' cD (List.getElem?_eq_getElem hlt) iv cd
      have sw := (((a.trans a1).trans a2).sta s).wipe own
      refine ht C' _ H2 v sw r2 _ fun σ2 s2 ch => ⟨wipe_chg (ch.mono hv), hb σ2 H2 s2 _ fun H3 a3 => ?_⟩
      cases b with
      | false =>
        show ∃ acc C2, _
        exact ⟨acc, C', (a1.trans a2).trans a3, hf0 rfl, cd, by omega⟩
      | true =>
        show te σ2 H3 _
        refine hf1 rfl σ2 H3 (a3.sta s2) _ fun w y C4 H4 a4 r4 ⟨cd4, iv4⟩ => ?_
        obtain ⟨ws, e1, e2⟩ := a4.cells D _ cd4
        have b5 := Adv.setL (p := D) a4.cells (by rw [cd4]; rfl) (Paired.snoc e2 r4)
        refine ⟨ws, e1, szl (by rw [e2.length]; omega), acc ++ [y], _, (((a1.trans a2).trans a3).trans a4).trans b5, iv4, updC_same, by rw [List.length_append]; simp; omega⟩
    · have e : i = xs.length := by omega
      subst e
      exact .inl ⟨W.stop C' H' a1 (hF _ _ _ _ iv), q _ _ _ _ (a.trans a1) (rx_ref (by rw [cd]; rfl)) (hd D acc C' cD iv cd)⟩
/-- a store that has more -/
def Mor (C C' : Cs) : Prop := ∀ a, (C a).isSome = true → C' a = C a
theorem Mor.refl : Mor C C := fun _ _ => rfl
theorem Mor.upd {p : Addr} {o : MO} (h : C p = none) : Mor C (updC C p o) := fun a ha => updC_ne fun e => by subst e; rw [h] at ha; cases ha
theorem Mor.at_ {C' : Cs} (m : Mor C C') {a : Addr} {o : MO} (h : C a = some o) : C' a = some o := (m a (by rw [h]; rfl)).trans h
/-- the store without the cell at D, the object immutable now -/
theorem Adv.freeze {D : Addr} {H H' : Hp} {ds : List PyData} (c0 : Cells K C H) (hD : C D = none) (a : Adv K C H (updC C D (.lst (ds.map .dat))) H') : Adv K C H C H' ∧ Rx K C H' (.ref D) (Ls ds) := by
  obtain ⟨ws, e1, e2⟩ := a.cells D _ updC_same
  have up : ∀ b o, hid (updC C D (.lst (ds.map .dat))) H' b = some o → hid C H' b = some o := fun b o h => by
    by_cases e : b = D
    · subst e
      unfold hid at h
      rw [updC_same] at h
      cases h
    · unfold hid at h ⊢
      rw [updC_ne e] at h
      exact h
  have rx : ∀ {x : Ax} {v w : V}, Rx K C H v x → Rx K (updC C D (.lst (ds.map .dat))) H' w x → Rx K C H' w x := fun {x v w} h k => by
    cases x with
    | dat d => exact Dp.up up d k
    | ref b => exact ⟨k.1, h.2⟩
  have pr : ∀ {xs : List Ax} {vs us : List V}, RxA K C H vs xs → RxA K (updC C D (.lst (ds.map .dat))) H' us xs → RxA K C H' us xs := by
    intro xs
    induction xs with
    | nil => intro vs us h k; cases k; exact .nil
    | cons x xs ih =>
      intro vs us h k
      cases h with
      | cons h1 h2 =>
        cases k with
        | cons k1 k2 => exact .cons (rx h1 k1) (ih h2 k2)
  have pk : ∀ {xs : List (Key × Ax)} {vs us : List (Key × V)}, RxK K C H vs xs → RxK K (updC C D (.lst (ds.map .dat))) H' us xs → RxK K C H' us xs := by
    intro xs
    induction xs with
    | nil => intro vs us h k; cases k; exact .nil
    | cons x xs ih =>
      intro vs us h k
      cases h with
      | cons h1 h2 =>
        cases k with
        | cons k1 k2 => exact .cons ⟨k1.1, rx h1.2 k1.2⟩ (ih h2 k2)
  refine ⟨⟨fun b o h => up b o (a.ex b o h), fun _ h => h, a.dom, fun b o e => ?_⟩, ?_⟩
  · have ne : b ≠ D := fun z => by subst z; rw [hD] at e; cases e
    have q0 := c0 b o e
    have q1 := a.cells b o ((updC_ne ne).trans e)
    cases o with
    | lst xs =>
      obtain ⟨v0, _, r0⟩ := q0
      obtain ⟨v1, h1, r1⟩ := q1
      exact ⟨v1, h1, pr r0 r1⟩
    | dic xs =>
      obtain ⟨v0, _, r0⟩ := q0
      obtain ⟨v1, h1, r1⟩ := q1
      exact ⟨v1, h1, pk r0 r1⟩
  · exact .lst (SqL.of (hid_of e1 hD)) (DpAll.up up ds (dat_rxa e2))
theorem map_snoc {α β : Type} (f : α → β) (xs : List α) (y : α) : xs.map f ++ [f y] = (xs ++ [y]).map f := by simp
/-- a comprehension of data: its items by place -/
theorem pu_lc {wi : TI} {xs : List Ax} {tt : TT} {own : List Nat} {F : Cs → Prop} (p : Nat → Bool) (f : Nat → PyData) (hi : PuI K F wi Γ C xs) (hn : xs.length < 100000) (hF : ∀ C', Mor C C' → F C')
    (hs : ∀ i x C', Mor C C' → xs[i]? = some x → ∃ Γ2 vs, (∀ j, j ∈ vs → j ∈ own) ∧ Tg K g x (wipeG Γ own) Γ2 vs ∧ PuT K tt Γ2 C' (p i) ∧ (p i = true → Pu K te Γ2 C' (.dat (f i)))) :
    Pu K (tLc wi g tt te own) Γ C (Ls (((List.range xs.length).filter p).map f)) := fun σ H s Q q => by
  refine ev_lc (P := fun x C' => ∃ D, C D = none ∧ x = .ref D ∧ C' = updC C D (.lst ((((List.range xs.length).filter p).map f).map .dat))) (fun D i acc C' => acc = (((List.range i).filter p).map f).map .dat ∧ C' = updC C D (.lst acc) ∧ C D = none) hi hn (fun D h => ⟨rfl, rfl, h⟩) (fun D i acc C' e => by rw [e.2.1]; exact hF _ (Mor.upd e.2.2)) ?_ ?_ σ H s Q ?_
  · intro D i x acc C' hD hx ⟨e1, e2, _⟩ e3
    obtain ⟨Γ2, vs, hv, ht, hp, hf⟩ := hs i x C' (by rw [e2]; exact Mor.upd hD) hx
    have rs : List.range (i + 1) = List.range i ++ [i] := List.range_succ
    refine ⟨Γ2, vs, p i, hv, ht, hp, fun e => ⟨?_, e2, hD⟩, fun e => (hf e).ev.imp fun y C2 ⟨ey, ec⟩ => ?_⟩
    · rw [e1, rs, List.filter_append]
      simp [List.filter, e]
    · subst ey; subst ec
      refine ⟨e3, ?_, ?_, hD⟩
      · rw [e1, rs, List.filter_append]
        simp [List.filter, e]
      · rw [e2]
        funext b
        by_cases hb : b = D
        · subst hb; rw [updC_same, updC_same]
        · rw [updC_ne hb, updC_ne hb, updC_ne hb]
  · intro D acc C' hD ⟨e1, e2, _⟩ _
    exact ⟨D, hD, rfl, by rw [e2, e1]⟩
  · intro v x C2 H2 a r ⟨D, hD, ex, ec⟩
    subst ex; subst ec
    obtain ⟨rfl, _⟩ := r
    obtain ⟨a2, r2⟩ := Adv.freeze s.cells hD a
    exact q _ H2 a2 r2
theorem ut_yes : PuT K tYes Γ C true := fun σ H s Q q => q H s.adv
/-! ### a def -/
def stG (N : List Str) (xs : List Ax) : Gm := xs.map some ++ List.replicate (N.length - xs.length) none
theorem sta_start {N : List Str} {vs : List V} {xs : List Ax} {H : Hp} (c : Cells K C H) (r : RxA K C H vs xs) : Sta K (stG N xs) C (L2.start N vs) H := by
  refine ⟨by unfold L2.start stG; simp [r.length], fun i x e => ?_, c⟩
  unfold stG at e
  by_cases hi : i < xs.length
  · rw [List.getElem?_append_left (by simpa using hi), List.getElem?_map] at e
    cases ex : xs[i]? with
    | none => rw [ex] at e; cases e
    | some y =>
      rw [ex] at e
      cases e
      obtain ⟨v, e1, q⟩ := rxa_get r ex
      have hv : i < vs.length := by rw [r.length]; exact hi
      refine ⟨v, ?_, q⟩
      unfold L2.start
      rw [List.getElem?_append_left (by simpa using hv), List.getElem?_map, e1]
      rfl
  · rw [List.getElem?_append_right (by simpa using hi), List.getElem?_replicate] at e
    split at e <;> cases e
end Ab

/-! Ab4: defs (what is new and forgotten is dropped, what is handed back is frozen), and more rules. -/
namespace Ab
open PySem PySem.Spec PyProof.Rows L2
variable {K : PySem.W.Frag} {Γ Γ' : Gm} {C : Cs} {ta tb tc te to ti : TE} {x y z : Ax} {t u rest : TS} {c : TT} {E : En} {g : TG}

/-- every reference stays within -/
def Clo (C : Cs) : Prop := ∀ a o, C a = some o → match o with
  | .lst xs => ∀ b, Ax.ref b ∈ xs → (C b).isSome = true
  | .dic kvs => ∀ b, Ax.ref b ∈ kvs.map (·.2) → (C b).isSome = true
theorem rxa_ref {H : Hp} {b : Addr} : ∀ {vs : List V} {xs : List Ax}, RxA K C H vs xs → Ax.ref b ∈ xs → (C b).isSome = true
  | _, _, .nil, h => by cases h
  | _, _, .cons r t, h => by
    cases h with
    | head => exact r.2
    | tail _ h => exact rxa_ref t h
theorem rxk_ref {H : Hp} {b : Addr} : ∀ {vs : List (Key × V)} {xs : List (Key × Ax)}, RxK K C H vs xs → Ax.ref b ∈ xs.map (·.2) → (C b).isSome = true
  | _, _, .nil, h => by cases h
  | _, _, .cons (a := p) (b := q) r t, h => by
    rw [List.map_cons, List.mem_cons] at h
    rcases h with h | h
    · have k := r.2
      rw [← h] at k
      exact k.2
    · exact rxk_ref t h
theorem Cells.clo {H : Hp} (c : Cells K C H) : Clo C := fun a o e => by
  have q := c a o e
  cases o with
  | lst xs =>
    obtain ⟨vs, _, r⟩ := q
    exact fun b h => rxa_ref r h
  | dic xs =>
    obtain ⟨vs, _, r⟩ := q
    exact fun b h => rxk_ref r h
/-- fewer cells -/
def Sbs (C2 C1 : Cs) : Prop := ∀ a o, C2 a = some o → C1 a = some o
theorem hid_sbs {C1 C2 : Cs} {H : Hp} (s : Sbs C2 C1) : ∀ a o, hid C1 H a = some o → hid C2 H a = some o := fun a o h => by
  have h1 := hid_le a o h
  refine hid_of h1 ?_
  cases e : C2 a with
  | none => rfl
  | some u =>
    have := s a u e
    unfold hid at h
    rw [this] at h
    cases h
theorem rxa_sbs {C1 C2 : Cs} {H : Hp} (s : Sbs C2 C1) : ∀ {vs : List V} {xs : List Ax}, RxA K C1 H vs xs → (∀ b, Ax.ref b ∈ xs → (C2 b).isSome = true) → RxA K C2 H vs xs
  | _, _, .nil, _ => .nil
  | _, x :: _, .cons r t, h => .cons (by
      cases x with
      | dat d => exact Dp.up (hid_sbs s) d r
      | ref b => exact ⟨r.1, h b (by simp)⟩) (rxa_sbs s t fun b hb => h b (by simp [hb]))
theorem rxk_sbs {C1 C2 : Cs} {H : Hp} (s : Sbs C2 C1) : ∀ {vs : List (Key × V)} {xs : List (Key × Ax)}, RxK K C1 H vs xs → (∀ b, Ax.ref b ∈ xs.map (·.2) → (C2 b).isSome = true) → RxK K C2 H vs xs
  | _, _, .nil, _ => .nil
  | _, x :: _, .cons r t, h => .cons ⟨r.1, by
      obtain ⟨k, x⟩ := x
      cases x with
      | dat d => exact Dp.up (hid_sbs s) d r.2
      | ref b => exact ⟨r.2.1, h b (by simp)⟩⟩ (rxk_sbs s t fun b hb => h b (by simp [hb]))
theorem cells_sbs {C1 C2 : Cs} {H : Hp} (s : Sbs C2 C1) (cl : Clo C2) (c : Cells K C1 H) : Cells K C2 H := fun a o e => by
  have q := c a o (s a o e)
  have k := cl a o e
  cases o with
  | lst xs =>
    obtain ⟨vs, h, r⟩ := q
    exact ⟨vs, h, rxa_sbs s r k⟩
  | dic xs =>
    obtain ⟨vs, h, r⟩ := q
    exact ⟨vs, h, rxk_sbs s r k⟩
/-- what x is as data, once the cells that it reaches are dropped -/
inductive Dz (C1 C2 : Cs) : Ax → PyData → Prop
  | dat (d : PyData) : Dz C1 C2 (.dat d) d
  | lst {p : Addr} {xs : List Ax} {ds : List PyData} : C1 p = some (.lst xs) → C2 p = none → Paired (Dz C1 C2) xs ds → Dz C1 C2 (.ref p) (.list ds)
theorem Dz.rx {C1 C2 : Cs} {H : Hp} (s : Sbs C2 C1) (c : Cells K C1 H) {x : Ax} {d : PyData} (z : Dz C1 C2 x d) : ∀ {v : V}, Rx K C1 H v x → Dp K (hid C2 H) v d := by
  refine Dz.rec (motive_1 := fun x d _ => ∀ {v : V}, Rx K C1 H v x → Dp K (hid C2 H) v d) (motive_2 := fun xs ds _ => ∀ {vs : List V}, RxA K C1 H vs xs → DpAll K (hid C2 H) vs ds) ?_ ?_ ?_ ?_ z
  · intro d v r
    exact Dp.up (hid_sbs s) d r
  · intro p xs ds h1 h2 _ ih v r
    obtain ⟨rfl, _⟩ := r
    obtain ⟨vs, e1, e2⟩ := c p _ h1
    exact .lst (SqL.of (hid_of e1 h2)) (ih e2)
  · intro vs r
    cases r
    exact .nil
  · intro a b l1 l2 _ _ ih1 ih2 vs r
    cases r with
    | cons r1 r2 => exact .cons (ih1 r1) (ih2 r2)
def Vw (C1 C2 : Cs) (x y : Ax) : Prop := (y = x ∧ ∀ a, x = .ref a → (C2 a).isSome = true) ∨ ∃ d, Dz C1 C2 x d ∧ y = .dat d
/-- what may be handed back: x, with the cells C1 at the end; the caller sees y, with the cells C2 -/
def Rt (C : Cs) (R : Ax → Cs → Prop) (x : Ax) (C1 : Cs) : Prop := ∃ y C2, Sbs C2 C1 ∧ (∀ a, (C a).isSome = true → (C2 a).isSome = true) ∧ Clo C2 ∧ Vw C1 C2 x y ∧ R y C2
abbrev EnR (C : Cs) (R : Ax → Cs → Prop) : En := { nx := fun _ C1 => Rt C R No C1, rt := Rt C R }
theorem Rt.fin {R : Ax → Cs → Prop} {H H1 : Hp} {C1 : Cs} {v : V} (a : Adv K C H C1 H1) (r : Rx K C1 H1 v x) (h : Rt C R x C1) : ∃ y C2, Adv K C H C2 H1 ∧ Rx K C2 H1 v y ∧ R y C2 := by
  obtain ⟨y, C2, s, sb, cl, vw, q⟩ := h
  refine ⟨y, C2, ⟨fun b o e => hid_sbs s b o (a.ex b o e), sb, a.dom, cells_sbs s cl a.cells⟩, ?_, q⟩
  rcases vw with ⟨rfl, hv⟩ | ⟨d, z, rfl⟩
  · cases y with
    | dat d => exact Dp.up (hid_sbs s) d r
    | ref b => exact ⟨r.1, hv b rfl⟩
  · exact z.rx s a.cells r
theorem ok_def {P : Program} {w : World} {mg : Str → Option Value} {base : Heap} {x qual : Str} {st : Stmt} {f : Addr} {fd : FuncData} {N ps : List Str} {k : Nat} {rel : Cs → List Ax → (Ax → Cs → Prop) → Prop} (F : Fun K x qual st f fd) (S : FnScope N ps (defScope st))
    (len : ∀ C xs R, rel C xs R → xs.length = ps.length)
    (hb : ∀ (cdv : Value) (A : Around) (outer : List Env) (s : Shared) (H : Hp) (E : XK), Room k (A.deeper (envOfC qual (defScope st) s.heap.objs.size f cdv)) →
      ∃ t, PSs (cxOf CX0 P w K mg base N qual (defScope st) f cdv A outer s H E).nox (defBody st) t ∧ ∀ C xs R, Clo C → rel C xs R → Ds K t (EnR C R) (stG N xs) C) : FnOk P w K mg base CX0 (k + 1) f fd ps (SpG K rel) := by
  refine F.ok S (fun vs H Q E h => ?_) (fun cdv A outer s H vs Q E hr h => ?_)
  · obtain ⟨C, xs, R, _, r, h, _⟩ := h
    rw [r.length]
    exact len _ _ _ h
  · obtain ⟨C, xs, R, c, r, h, q⟩ := h
    obtain ⟨t, ht, hd⟩ := hb cdv A outer s H E hr
    refine ⟨t, ht, hd C xs R c.clo h _ H (sta_start c r) _ ⟨fun Γ C' σ' H' a s' e => ?_, fun x v C' H' a r' e => ?_, fun _ _ _ _ _ _ e => e.elim, fun _ _ _ _ _ _ e => e.elim⟩⟩
    · obtain ⟨y, C2, a2, r2, e2⟩ := Rt.fin a rx_N e
      exact q _ _ C2 H' a2 r2 e2
    · obtain ⟨y, C2, a2, r2, e2⟩ := Rt.fin a r' e
      exact q _ _ C2 H' a2 r2 e2
theorem mor_sbs {C1 : Cs} (m : Mor C C1) : Sbs C C1 := fun a o e => (m a (by rw [e]; rfl)).trans e
theorem Mor.trans {C1 C2 : Cs} (a : Mor C C1) (b : Mor C1 C2) : Mor C C2 := fun x h => by
  have e := a x h
  exact (b x (by rw [e]; exact h)).trans e
/-- a cell that the caller does not know changes -/
theorem Mor.put {C1 : Cs} {p : Addr} {o : MO} (m : Mor C C1) (h : C p = none) : Mor C (updC C1 p o) := fun a ha => by
  have ne : a ≠ p := fun e => by subst e; rw [h] at ha; cases ha
  rw [updC_ne ne]
  exact m a ha
theorem Mor.free {C1 : Cs} {p : Addr} (m : Mor C C1) (h : C1 p = none) : C p = none := by
  cases e : C p with
  | none => rfl
  | some o =>
    have := m.at_ e
    rw [h] at this
    cases this
theorem rt_dat {R : Ax → Cs → Prop} {C1 : Cs} {d : PyData} (cl : Clo C) (m : Mor C C1) (h : R (.dat d) C) : Rt C R (.dat d) C1 :=
  ⟨.dat d, C, mor_sbs m, fun _ h => h, cl, .inl ⟨rfl, fun _ e => nomatch e⟩, h⟩
theorem rt_fz {R : Ax → Cs → Prop} {C1 : Cs} {x : Ax} {d : PyData} (cl : Clo C) (m : Mor C C1) (z : Dz C1 C x d) (h : R (.dat d) C) : Rt C R x C1 :=
  ⟨.dat d, C, mor_sbs m, fun _ h => h, cl, .inr ⟨d, z, rfl⟩, h⟩
theorem paired_map {α β γ : Type} {F : β → γ → Prop} (f : α → β) (g : α → γ) (h : ∀ a, F (f a) (g a)) : ∀ l : List α, Paired F (l.map f) (l.map g)
  | [] => .nil
  | a :: l => .cons (h a) (paired_map f g h l)
theorem dz_lst {C1 : Cs} {p : Addr} {ds : List PyData} (h1 : C1 p = some (.lst (ds.map .dat))) (h2 : C p = none) : Dz C1 C (.ref p) (.list ds) :=
  .lst h1 h2 (by
    have := paired_map (F := Dz C1 C) Ax.dat (fun d => d) (fun d => Dz.dat d) ds
    rw [List.map_id'] at this
    exact this)

/-! ### more expressions -/
theorem uo_none : PuO K tNoPart Γ C none := fun σ H s Q q => q H s.adv
theorem uo_some {i : Int} (h : Pu K te Γ C (I i)) : PuO K (tPart te) Γ C (some i) := fun σ H s Q q => h σ H s _ fun v H1 a r => by
  cases rx_int r
  exact ⟨i, rfl, q H1 a⟩
def cutD {α : Type} (xs : List α) (lo hi : Option Int) : List α := (xs.drop (HT.sIx xs.length 0 lo)).take (HT.sIx xs.length xs.length hi - HT.sIx xs.length 0 lo)
theorem dpa_drop {H : Hp} : ∀ {vs : List V} {ds : List PyData} (n : Nat), DpAll K H vs ds → DpAll K H (vs.drop n) (ds.drop n)
  | _, _, 0, h => h
  | _, _, n + 1, .nil => .nil
  | _, _, n + 1, .cons _ t => dpa_drop n t
theorem dpa_take {H : Hp} : ∀ {vs : List V} {ds : List PyData} (n : Nat), DpAll K H vs ds → DpAll K H (vs.take n) (ds.take n)
  | _, _, 0, h => .nil
  | _, _, n + 1, .nil => .nil
  | _, _, n + 1, .cons r t => .cons r (dpa_take n t)
theorem dpa_cut {H : Hp} {vs : List V} {ds : List PyData} {lo hi : Option Int} (h : DpAll K H vs ds) : DpAll K H (cutV vs lo hi) (cutD ds lo hi) := by
  unfold cutV cutD
  rw [h.len]
  exact dpa_take _ (dpa_drop _ h)
theorem pu_slT {ds es : List PyData} {tl th : TO} {lo hi : Option Int} (h : Pu K te Γ C (T ds)) (h1 : PuO K tl Γ C lo) (h2 : PuO K th Γ C hi) (e : cutD ds lo hi = es) (nf : ¬(HT.sIx ds.length 0 lo = 0 ∧ HT.sIx ds.length ds.length hi = ds.length)) : Pu K (tSl (rSlT K) te tl th) Γ C (T es) := fun σ H s Q q =>
  h σ H s _ fun v H1 a1 r1 => h1 σ H1 (a1.sta s) _ fun H2 a2 => h2 σ H2 ((a1.trans a2).sta s) _ fun H3 a3 => by
    subst e
    cases (a2.trans a3).rx r1 with
    | tup hs hd =>
      rename_i ad us
      refine ⟨_, _, rfl, SqT.up hid_le hs, by rw [hd.len]; exact nf, fun p hp => ?_⟩
      have a4 := Adv.new (o := .tup (cutV us lo hi)) a3.cells hp
      exact q _ _ (((a1.trans a2).trans a3).trans a4) (.tup (SqT.of (hid_of upd_same (a3.cells.free hp))) (DpAll.up a4.ex _ (dpa_cut hd)))
theorem pl_slL {ds es : List PyData} {tl th : TO} {lo hi : Option Int} (h : Pu K te Γ C (Ls ds)) (h1 : PuO K tl Γ C lo) (h2 : PuO K th Γ C hi) (e : cutD ds lo hi = es) : PuL K (tSl (rSlL K) te tl th) Γ C (es.map .dat) := fun σ H s Q q =>
  h σ H s _ fun v H1 a1 r1 => h1 σ H1 (a1.sta s) _ fun H2 a2 => h2 σ H2 ((a1.trans a2).sta s) _ fun H3 a3 => by
    subst e
    cases (a2.trans a3).rx r1 with
    | lst hs hd => exact ⟨_, _, rfl, SqL.up hid_le hs, fun p hp => q p _ _ ((a1.trans a2).trans a3) hp (rxa_dat (dpa_cut hd))⟩
/-! ### in a written row of texts -/
theorem eqV_str {s t : Str} : eqV (.str s) (.str t) = decide (s = t) := rfl
theorem inV_strs {s : Str} : ∀ ss : List Str, inV (.str s) (ss.map V.str) = decide (s ∈ ss)
  | [] => rfl
  | r :: ss => by
    have ih := inV_strs (s := s) ss
    show (eqV (.str r) (.str s) || inV (.str s) (ss.map V.str)) = _
    rw [ih, eqV_str]
    by_cases h : r = s
    · subst h
      simp
    · have h' : s ≠ r := fun e => h e.symm
      simp [h, h']
theorem flat_strs : ∀ ss : List Str, (ss.map V.str).all flatV = true
  | [] => rfl
  | _ :: ss => flat_strs ss
theorem dpa_strs {H : Hp} : ∀ {vs : List V} {ss : List Str}, DpAll K H vs (ss.map PyData.str) → vs = ss.map V.str
  | _, [], h => by cases h; rfl
  | _, s :: ss, h => by
    cases h with
    | cons h1 h2 =>
      cases h1
      rw [dpa_strs h2]
      rfl
theorem pu_in {s : Str} {ss : List Str} (ha : Pu K ta Γ C (S s)) (hb : Pu K tb Γ C (T (ss.map .str))) : Pu K (tOp (rIn K false) ta tb) Γ C (B (decide (s ∈ ss))) :=
  pu_op ha hb fun v w H c r1 r2 Q q => by
    cases rx_str r1
    cases r2 with
    | tup hs hd =>
      have e := dpa_strs hd
      subst e
      refine ⟨_, _, rfl, .inr (SqT.up hid_le hs), rfl, flat_strs ss, ?_⟩
      rw [if_neg (by decide), inV_strs]
      exact q _ H (Adv.refl c) rx_B
theorem pu_notIn {s : Str} {ss : List Str} (ha : Pu K ta Γ C (S s)) (hb : Pu K tb Γ C (T (ss.map .str))) : Pu K (tOp (rIn K true) ta tb) Γ C (B (!decide (s ∈ ss))) :=
  pu_op ha hb fun v w H c r1 r2 Q q => by
    cases rx_str r1
    cases r2 with
    | tup hs hd =>
      have e := dpa_strs hd
      subst e
      refine ⟨_, _, rfl, .inr (SqT.up hid_le hs), rfl, flat_strs ss, ?_⟩
      rw [if_pos rfl, inV_strs]
      exact q _ H (Adv.refl c) rx_B
/-! ### ints in a list -/
theorem at_ints {ns : List Int} {i : Int} (h0 : 0 ≤ i) (h : i < ns.length) : atI (ns.map PyData.int) i = some (.int (ns.getD i.toNat 0)) := by
  obtain ⟨j, rfl⟩ : ∃ j : Nat, i = (j : Int) := ⟨i.toNat, by omega⟩
  have hj : j < ns.length := by omega
  rw [atI_nat (v := PyData.int (ns.getD j 0)) (by rw [List.getElem?_map, List.getD_eq_getElem?_getD, List.getElem?_eq_getElem hj]; rfl)]
  rfl
theorem pu_ixI {ns : List Int} {i : Int} (ha : Pu K ta Γ C (Ls (ns.map .int))) (hb : Pu K tb Γ C (I i)) (h0 : 0 ≤ i) (h : i < ns.length) : Pu K (tOp (rIxL K) ta tb) Γ C (I (ns.getD i.toNat 0)) := pu_ixL ha hb (at_ints h0 h)
theorem pu_neg {i : Int} (h : Pu K te Γ C (I i)) : Pu K (tUn (rU fun i => .int (-i)) te) Γ C (I (-i)) := fun σ H s Q q => h σ H s _ fun v H1 a r => by
  cases rx_int r
  exact ⟨i, rfl, q _ H1 a rx_I⟩
theorem ds_aug {i : Nat} {f : Int → Int → Int} {a b : Int} (hx : Γ[i]? = some (some (I a))) (h : Pu K te Γ C (I b)) (k : Ds K rest E (Γ.set i (some (I (f a b)))) C) : Ds K (tSeq (tAug i te (ipI f)) rest) E Γ C := fun σ H s D fi => by
  obtain ⟨v, e, r⟩ := s.slot i _ hx
  cases rx_int r
  refine ⟨_, e, h σ H s _ fun w H1 a1 r1 => ?_⟩
  cases rx_int r1
  exact ⟨_, _, rfl, rfl, k _ H1 ((a1.sta s).set i rx_I) D (fi.adv a1)⟩
end Ab

/-! Ab5: a list of lists that a def makes and changes. -/
namespace Ab
open PySem PySem.Spec PyProof.Rows L2
variable {K : PySem.W.Frag} {Γ Γ' : Gm} {C : Cs} {ta tb tc te to ti : TE} {x y z : Ax} {t u rest : TS} {c : TT} {E : En} {g : TG}

structure Grid (C C1 : Cs) (p : Addr) (ps : List Addr) (fs : List (List PyData)) : Prop where
  mor : Mor C C1
  new : C p = none
  news : ∀ q ∈ ps, C q = none
  top : C1 p = some (.lst (ps.map .ref))
  len : ps.length = fs.length
  row : ∀ (i : Nat) q, ps[i]? = some q → C1 q = some (.lst ((fs.getD i []).map .dat))
  nd : ps.Nodup
  apart : p ∉ ps
theorem Grid.put {C1 : Cs} {p q : Addr} {ps : List Addr} {fs : List (List PyData)} (G : Grid C C1 p ps fs) {i : Nat} (hq : ps[i]? = some q) (f : List PyData) : Grid C (updC C1 q (.lst (f.map .dat))) p ps (fs.set i f) := by
  have hm := List.mem_of_getElem? hq
  have hi : i < ps.length := (List.getElem?_eq_some_iff.mp hq).1
  have hpq : p ≠ q := fun e => G.apart (e ▸ hm)
  refine ⟨G.mor.put (G.news q hm), G.new, G.news, by rw [updC_ne hpq]; exact G.top, by rw [List.length_set]; exact G.len, fun j r hj => ?_, G.nd, G.apart⟩
  by_cases e : j = i
  · subst e
    cases hj.symm.trans hq
    rw [updC_same, List.getD_eq_getElem?_getD, List.getElem?_set_self (by rw [← G.len]; exact hi)]
    rfl
  · have hr : r ≠ q := fun e2 => e (nd_ix G.nd hj (e2 ▸ hq))
    rw [updC_ne hr, G.row j r hj, List.getD_eq_getElem?_getD, List.getD_eq_getElem?_getD, List.getElem?_set_ne (fun e2 => e e2.symm)]
/-- cells that are none of its own come and change -/
theorem Grid.other {C1 : Cs} {p q : Addr} {ps : List Addr} {fs : List (List PyData)} (G : Grid C C1 p ps fs) (h0 : C q = none) (hp : q ≠ p) (hs : q ∉ ps) (o : MO) : Grid C (updC C1 q o) p ps fs :=
  ⟨G.mor.put h0, G.new, G.news, by rw [updC_ne (Ne.symm hp)]; exact G.top, G.len, fun j r hj => by rw [updC_ne (show r ≠ q from fun e => hs (by rw [← e]; exact List.mem_of_getElem? hj))]; exact G.row j r hj, G.nd, G.apart⟩
theorem Grid.at_ {C1 : Cs} {p : Addr} {ps : List Addr} {fs : List (List PyData)} (G : Grid C C1 p ps fs) {i : Nat} (hi : i < fs.length) : ∃ q, ps[i]? = some q ∧ C1 q = some (.lst ((fs.getD i []).map .dat)) ∧ atI (ps.map Ax.ref) (i : Int) = some (.ref q) := by
  have h : i < ps.length := by rw [G.len]; exact hi
  refine ⟨ps[i], List.getElem?_eq_getElem h, G.row i _ (List.getElem?_eq_getElem h), atI_nat ?_⟩
  rw [List.getElem?_map, List.getElem?_eq_getElem h]
  rfl
/-- [ROW for _ in xs], a new row each time -/
theorem ev_grid {F : Cs → Prop} {wi : TI} {xs : List Ax} {own : List Nat} {r : List PyData} (hi : PuI K F wi Γ C xs) (hn : xs.length < 100000) (hF : ∀ C', Mor C C' → F C')
    (hs : ∀ (i : Nat) (x : Ax) C', Mor C C' → xs[i]? = some x → ∃ Γ2 vs, (∀ j, j ∈ vs → j ∈ own) ∧ Tg K g x (wipeG Γ own) Γ2 vs ∧ PuL K te Γ2 C' (r.map .dat)) :
    Ev K (tLc wi g tYes te own) Γ C (fun x C' => ∃ p ps, x = .ref p ∧ Grid C C' p ps (List.replicate xs.length r)) := by
  refine ev_lc (fun D i acc C' => ∃ ps, acc = ps.map .ref ∧ Grid C C' D ps (List.replicate i r)) hi hn (fun D h => ⟨[], rfl, Mor.upd h, h, (fun q hq => by cases hq), updC_same, rfl, (fun i q hq => by simp at hq), .nil, (fun h => by cases h)⟩) (fun D i acc C' ⟨ps, _, G⟩ => hF C' G.mor) ?_ ?_
  · intro D i x acc C' hD hx ⟨ps, e1, G⟩ e2
    obtain ⟨Γ2, vs, hv, ht, hl⟩ := hs i x C' G.mor hx
    refine ⟨Γ2, vs, true, hv, ht, ut_yes, (fun e => by cases e), fun _ => (ev_new hl).imp fun y C2 ⟨q, hq, ey, ec⟩ => ?_⟩
    subst ey; subst ec; subst e1
    have hqD : D ≠ q := fun e => by rw [← e, e2] at hq; cases hq
    have hqs : ∀ r ∈ ps, r ≠ q := fun r hr e => by
      obtain ⟨j, hj⟩ := List.getElem?_of_mem hr
      have := G.row j r hj
      rw [e, hq] at this
      cases this
    refine ⟨by rw [updC_ne hqD]; exact e2, ps ++ [q], by simp, (G.mor.put (G.mor.free hq)).put hD, hD, fun a ha => ?_, by rw [updC_same]; simp, by simp [G.len], fun j a ha => ?_, ?_, ?_⟩
    · rw [List.mem_append, List.mem_singleton] at ha
      rcases ha with ha | ha
      · exact G.news a ha
      · subst ha
        exact G.mor.free hq
    · by_cases hj : j < ps.length
      · rw [List.getElem?_append_left hj] at ha
        have hm := List.mem_of_getElem? ha
        rw [updC_ne (show a ≠ D from fun e => G.apart (by rw [← e]; exact hm)), updC_ne (hqs a hm), G.row j a ha]
        have h1 : j < i := by have := G.len; simp at this; omega
        rw [List.getD_eq_getElem?_getD, List.getD_eq_getElem?_getD, List.getElem?_replicate, List.getElem?_replicate, if_pos h1, if_pos (by omega)]
      · have h2 : j = ps.length := by
          have := (List.getElem?_eq_some_iff.mp ha).1
          simp at this
          omega
        subst h2
        rw [List.getElem?_append_right (Nat.le_refl _), Nat.sub_self] at ha
        have ea : q = a := by simpa using ha
        subst ea
        rw [updC_ne (Ne.symm hqD), updC_same, List.getD_eq_getElem?_getD, List.getElem?_replicate, if_pos (by have := G.len; simp at this; omega)]
        rfl
    · rw [List.nodup_append]
      refine ⟨G.nd, by simp, fun a ha b hb => ?_⟩
      rw [List.mem_singleton] at hb
      subst hb
      exact hqs a ha
    · rw [List.mem_append, List.mem_singleton, not_or]
      exact ⟨G.apart, hqD⟩
  · intro D acc C' hD ⟨ps, e1, G⟩ _
    exact ⟨D, ps, rfl, G⟩
/-- [tuple(f) for f in grid] -/
theorem pu_rows {p : Addr} {ps : List Addr} {fs : List (List PyData)} {C1 : Cs} {i : Nat} (G : Grid C C1 p ps fs) (h : Pu K te Γ C1 (.ref p)) (hn : fs.length < 100000) (hi : i < Γ.length) :
    Pu K (tLc (iList K te) (gName i) tYes (tCB (fun xs H Q => ∃ p ys, xs = [V.ref p] ∧ ((SqL K H p ys ∧ ∀ l, H l = none → Q (.ref l) (upd H l (.tup ys))) ∨ (SqT K H p ys ∧ Q (.ref p) H))) (tCons (tVar i) tNil)) [i]) Γ C1 (Ls (fs.map .tuple)) := by
  have e : fs.map PyData.tuple = ((List.range (ps.map Ax.ref).length).filter (fun _ => true)).map (fun j => PyData.tuple (fs.getD j [])) := by
    rw [List.filter_eq_self.mpr (fun _ _ => rfl), List.length_map, G.len]
    refine List.ext_getElem? fun j => ?_
    by_cases hj : j < fs.length
    · rw [List.getElem?_map, List.getElem?_map, List.getElem?_range hj, List.getElem?_eq_getElem hj]
      simp [hj]
    · rw [List.getElem?_eq_none (by simpa using hj), List.getElem?_eq_none (by simpa using hj)]
  rw [e]
  refine pu_lc (F := fun C' => C' p = some (.lst (ps.map .ref))) (fun _ => true) (fun j => .tuple (fs.getD j [])) (ui_listM h G.top) (by rw [List.length_map, G.len]; exact hn) (fun C' m => m.at_ G.top) fun j x C' m hx => ?_
  rw [List.getElem?_map] at hx
  cases hj : ps[j]? with
  | none => rw [hj] at hx; cases hx
  | some q =>
    rw [hj] at hx
    cases hx
    refine ⟨_, [i], fun _ h => h, tg_name, ut_yes, fun _ => ?_⟩
    refine pu_cb (au_cons (pu_var ?_) au_nil) (rc_tupM (m.at_ (G.row j q hj)))
    exact List.getElem?_set_self (by rw [wipeG_len]; exact hi)
end Ab

/-! Ab6: loops by what is known in their turns. -/
namespace Ab
open PySem PySem.Spec PyProof.Rows L2
variable {K : PySem.W.Frag} {Γ Γ' : Gm} {C : Cs} {ta tb tc te to ti : TE} {x y z : Ax} {t u rest : TS} {c : TT} {E : En} {g : TG}
theorem Le.trans : ∀ (Γ Δ Θ : Gm), Le Γ Δ → Le Δ Θ → Le Γ Θ := by
  intro Γ
  induction Γ with
  | nil =>
    intro Δ Θ h k
    cases Δ with
    | nil => exact k
    | cons _ _ => exact h.elim
  | cons x r ih =>
    intro Δ Θ h k
    cases Δ with
    | nil => cases x <;> exact h.elim
    | cons y q =>
      cases Θ with
      | nil => cases y <;> exact k.elim
      | cons z u =>
        cases x with
        | none =>
          cases y with
          | none => exact ih q u h k
          | some y => exact ih q u h k.2
        | some x =>
          obtain ⟨rfl, h⟩ := h
          exact ⟨k.1, ih q u h k.2⟩
theorem ds_for1 {F : Cs → Prop} {wi : TI} {xs : List Ax} (Iv : Nat → Gm → Cs → Prop) (hi : PuI K F wi Γ C xs) (h0 : ∃ Δ, Le Δ Γ ∧ Iv 0 Δ C) (hF : ∀ i Γ' C', Iv i Γ' C' → F C')
    (hs : ∀ i x Δ C', xs[i]? = some x → Iv i Δ C' → ∃ Γ2 vs, Tg K g x Δ Γ2 vs ∧ Ds K t { nx := fun Γ' C' => ∃ Δ, Le Δ Γ' ∧ Iv (i + 1) Δ C', rt := E.rt, bk := E.nx, ct := fun Γ' C' => ∃ Δ, Le Δ Γ' ∧ Iv (i + 1) Δ C' } Γ2 C') (hd : ∀ Γ' Δ C', Le Δ Γ' → Iv xs.length Δ C' → E.nx Γ' C') : Ds K (tFor wi g t) E Γ C :=
  ds_for (fun i Γ' C' => ∃ Δ, Le Δ Γ' ∧ Iv i Δ C') hi h0 (fun i Γ' C' ⟨Δ, _, h⟩ => hF i Δ C' h) (fun i x Γ' C' hx ⟨Δ, l, h⟩ => by
    obtain ⟨Γ2, vs, ht, hb⟩ := hs i x Δ C' hx h
    exact ⟨Γ2, vs, fun C σ H v s r Q q => ht C σ H v (s.weak l) r Q q, hb⟩) (fun Γ' C' ⟨Δ, l, h⟩ => hd Γ' Δ C' l h)
/-- a for without a break, and what follows it -/
theorem ds_forS {F : Cs → Prop} {wi : TI} {xs : List Ax} (Iv : Nat → Gm → Cs → Prop) (hi : PuI K F wi Γ C xs) (h0 : ∃ Δ, Le Δ Γ ∧ Iv 0 Δ C) (hF : ∀ i Γ' C', Iv i Γ' C' → F C')
    (hs : ∀ i x Δ C', xs[i]? = some x → Iv i Δ C' → ∃ Γ2 vs, Tg K g x Δ Γ2 vs ∧ Ds K t { nx := fun Γ' C' => ∃ Δ, Le Δ Γ' ∧ Iv (i + 1) Δ C', rt := E.rt, bk := fun Γ' C' => ∃ Δ, Le Δ Γ' ∧ Iv xs.length Δ C', ct := fun Γ' C' => ∃ Δ, Le Δ Γ' ∧ Iv (i + 1) Δ C' } Γ2 C') (k : ∀ Δ C', Iv xs.length Δ C' → Ds K rest E Δ C') : Ds K (tSeq (tFor wi g t) rest) E Γ C :=
  ds_seq (M := fun Γ' C' => ∃ Δ, Le Δ Γ' ∧ Iv xs.length Δ C') (ds_for1 Iv hi h0 hF hs (fun Γ' Δ C' l h => ⟨Δ, l, h⟩)) (fun Γ' C' ⟨Δ, l, h⟩ => ds_weak (k Δ C' h) l)
theorem le2 {Δ : Gm} {P : Gm → Cs → Prop} {C' : Cs} (h : P Δ C') : ∃ Δ', Le Δ' Δ ∧ P Δ' C' := ⟨Δ, Le.refl Δ, h⟩
theorem updC_updC {p : Addr} {o o' : MO} : updC (updC C p o) p o' = updC C p o' := by
  funext b
  by_cases h : b = p
  · subst h; rw [updC_same, updC_same]
  · rw [updC_ne h, updC_ne h, updC_ne h]
theorem rt_no {R : Ax → Cs → Prop} {C1 : Cs} (cl : Clo C) (m : Mor C C1) (h : R No C) : Rt C R No C1 := rt_dat cl m h
end Ab

/-! Ab7: the layer's rules with the written part named, for blocks. -/
namespace Ab
open PySem PySem.Spec PyProof.Rows L2
variable {X : Cx}
theorem kx_ixL (K : PySem.W.Frag) (h : X.K = K) : IxR X (rIxL K) := h ▸ ix_list
theorem kx_ixT (K : PySem.W.Frag) (h : X.K = K) : IxR X (rIxT K) := h ▸ ix_tup
theorem kx_in (K : PySem.W.Frag) (h : X.K = K) : OpR X (compareOp .In) (rIn K false) := h ▸ op_in_seq
theorem kx_notIn (K : PySem.W.Frag) (h : X.K = K) : OpR X (compareOp .NotIn) (rIn K true) := h ▸ op_notIn_seq
theorem kx_eqD (K : PySem.W.Frag) (h : X.K = K) (hu : X.A.units + 64 < cLine) : OpR X (compareOp .Eq) (rEqD K) := h ▸ op_eqD hu
theorem kx_neD (K : PySem.W.Frag) (h : X.K = K) (hu : X.A.units + 64 < cLine) : OpR X (compareOp .NotEq) (rNeD K) := h ▸ op_neD hu
theorem kx_slT (K : PySem.W.Frag) (h : X.K = K) : SlR X (rSlT K) := h ▸ sl_tup
theorem kx_slL (K : PySem.W.Frag) (h : X.K = K) : SlR X (rSlL K) := h ▸ sl_list
theorem kx_catT (K : PySem.W.Frag) (h : X.K = K) : OpR X (binaryOp .Add) (rCatT K) := h ▸ op_catT
theorem kx_len (K : PySem.W.Frag) (h : X.K = K) : CallR X (.builtin "len") (fun xs H Q => ∃ p ys, xs = [.ref p] ∧ (SqL K H p ys ∨ SqT K H p ys) ∧ Q (.int ys.length) H) := h ▸ call_len_seq
theorem kx_list (K : PySem.W.Frag) (h : X.K = K) : CallR X (.type "list") (fun xs H Q => ∃ p ys, xs = [.ref p] ∧ (SqL K H p ys ∨ SqT K H p ys) ∧ ∀ l, H l = none → Q (.ref l) (upd H l (.lst ys))) := h ▸ call_list_of
theorem kx_tuple (K : PySem.W.Frag) (h : X.K = K) : CallR X (.type "tuple") (fun xs H Q => ∃ p ys, xs = [.ref p] ∧ ((SqL K H p ys ∧ ∀ l, H l = none → Q (.ref l) (upd H l (.tup ys))) ∨ (SqT K H p ys ∧ Q (.ref p) H))) := h ▸ call_tuple_of
theorem kx_all (K : PySem.W.Frag) (h : X.K = K) (hc : X.calm = true) : CallR X (.builtin "all") (rAll K) := h ▸ cr_all hc
theorem kx_any (K : PySem.W.Frag) (h : X.K = K) (hc : X.calm = true) : CallR X (.builtin "any") (rAny K) := h ▸ cr_any hc
theorem kx_sum (K : PySem.W.Frag) (h : X.K = K) (hc : X.calm = true) : CallR X (.builtin "sum") (rSum K) := h ▸ cr_sum hc
theorem kx_pList (K : PySem.W.Frag) (h : X.K = K) {tg l : Expr} {tl : TE} (hl : PE X l tl) : PI X tg l (iList K tl) := h ▸ pi_list hl
theorem kx_pTup (K : PySem.W.Frag) (h : X.K = K) {tg l : Expr} {tl : TE} (hl : PE X l tl) : PI X tg l (iTup K tl) := h ▸ pi_tup hl
theorem lk {n : Nat} (h : Nat.ble n 100000 = true) : n ≤ 100000 := Nat.le_of_ble_eq_true h
end Ab

/-! Ab8: data that == reads. -/
namespace Ab
open PySem PySem.Spec PyProof.Rows L2
/-- at most n deep, its texts in order -/
def Sh (n : Nat) (d : PyData) : Prop := d.canLay0 = true ∧ d.depth ≤ n
theorem Sh.mono {n m : Nat} {d : PyData} (h : Sh n d) (k : n ≤ m) : Sh m d := ⟨h.1, Nat.le_trans h.2 k⟩
theorem Sh.sh {n : Nat} {d : PyData} (h : Sh n d) (k : n ≤ 64 := by decide) : SeqAt.shaped d = true := by
  show (d.canLay0 && decide (d.depth ≤ 64)) = true
  rw [h.1, decide_eq_true (Nat.le_trans h.2 k)]
  rfl
theorem sh_int {i : Int} : Sh 0 (.int i) := ⟨by simp [PyData.canLay0], by simp [PyData.depth]⟩
theorem sh_bool {i : Bool} : Sh 0 (.bool i) := ⟨by simp [PyData.canLay0], by simp [PyData.depth]⟩
theorem sh_none : Sh 0 .none := ⟨by simp [PyData.canLay0], by simp [PyData.depth]⟩
theorem sh_str {s : Str} (h : PyData.strOk s = true) : Sh 0 (.str s) := ⟨by simp [PyData.canLay0, h], by simp [PyData.depth]⟩
theorem sh_all {n : Nat} : ∀ {ds : List PyData}, (∀ d ∈ ds, Sh n d) → PyData.canLayAll0 ds = true ∧ PyData.depthAll ds ≤ n
  | [], _ => ⟨by simp [PyData.canLayAll0], by simp [PyData.depthAll]⟩
  | d :: ds, h => by
    have h1 := h d (by simp)
    have h2 := sh_all (ds := ds) fun e he => h e (by simp [he])
    refine ⟨by simp [PyData.canLayAll0, h1.1, h2.1], ?_⟩
    simp only [PyData.depthAll]
    exact Nat.max_le.mpr ⟨h1.2, h2.2⟩
theorem sh_tup {n : Nat} {ds : List PyData} (h : ∀ d ∈ ds, Sh n d) : Sh (n + 1) (.tuple ds) := by
  obtain ⟨h1, h2⟩ := sh_all h
  exact ⟨by simp only [PyData.canLay0]; exact h1, by simp only [PyData.depth]; omega⟩
theorem sh_list {n : Nat} {ds : List PyData} (h : ∀ d ∈ ds, Sh n d) : Sh (n + 1) (.list ds) := by
  obtain ⟨h1, h2⟩ := sh_all h
  exact ⟨by simp only [PyData.canLay0]; exact h1, by simp only [PyData.depth]; omega⟩
theorem Sh.eq {n : Nat} {d : PyData} (h : Sh n d) : PyData.eqv d d = true := SeqAt.eqv_refl d h.1
theorem sh_nil {n : Nat} : ∀ d ∈ ([] : List PyData), Sh n d := fun d h => by cases h
theorem sh_cons {n : Nat} {d : PyData} {ds : List PyData} (h : Sh n d) (k : ∀ e ∈ ds, Sh n e) : ∀ e ∈ d :: ds, Sh n e := fun e he => by
  rcases List.mem_cons.mp he with rfl | he
  · exact h
  · exact k e he
/-- the items of a list, by place, filtered -/
theorem range_getD {α : Type} (d : α) : ∀ l : List α, (List.range l.length).map (fun i => l.getD i d) = l := fun l => by
  refine List.ext_getElem? fun i => ?_
  by_cases h : i < l.length
  · rw [List.getElem?_map, List.getElem?_range h, List.getElem?_eq_getElem h]
    simp [h]
  · rw [List.getElem?_eq_none (by simpa using h), List.getElem?_eq_none (by omega)]
theorem filter_range {α β : Type} (d : α) (p : α → Bool) (f : α → β) (l : List α) : ((List.range l.length).filter (fun i => p (l.getD i d))).map (fun i => f (l.getD i d)) = (l.filter p).map f := by
  have e : l.filter p = ((List.range l.length).filter (fun i => p (l.getD i d))).map (fun i => l.getD i d) := by
    have := congrArg (List.filter p) (range_getD d l)
    rw [List.filter_map] at this
    rw [← this]
    rfl
  rw [e, List.map_map]
  rfl
theorem dpa_ints {K : PySem.W.Frag} {H : Hp} : ∀ ns : List Int, DpAll K H (ns.map V.int) (ns.map PyData.int)
  | [] => .nil
  | n :: ns => .cons (.int n) (dpa_ints ns)
/-- the law's promise at the script -/
theorem sp_law {K : PySem.W.Frag} {rel : Cs → List Ax → (Ax → Cs → Prop) → Prop} {H : Hp} {a : Addr} {ns : List Int} {E : XK} (hS : SqL K H a (ns.map V.int)) (h : ∀ C (R : Ax → Cs → Prop), R (B true) C → rel C [Ls (ns.map .int)] R) :
    SpG K rel [.ref a] H (fun v _ => v = .bl true) E := by
  have e : hid (fun _ => none) H = H := by
    funext b
    unfold hid
    rw [if_neg (by simp)]
  refine ⟨fun _ => none, [Ls (ns.map .int)], fun x _ => x = B true, (fun _ _ h => by cases h), .cons ?_ .nil, h _ _ rfl, fun v x C' H' _ r e => ?_⟩
  · show Dp K (hid _ H) (.ref a) (.list _)
    rw [e]
    exact .lst hS (dpa_ints ns)
  · subst e
    exact rx_bl r
section
variable {K : PySem.W.Frag} {Γ : Gm} {C : Cs} {te : TE}
theorem sIx1 (n : Nat) : HT.sIx (n + 1) 0 (some 1) = 1 := by
  rw [show (1 : Int) = ((1 : Nat) : Int) from rfl, HT.sIx_nat]
  omega
theorem cut_1 {α : Type} (d : α) (ds : List α) : cutD (d :: ds) (some 1) none = ds := by
  unfold cutD
  rw [List.length_cons, sIx1, HT.sIx_none]
  simp
/-- t[1:] -/
theorem pu_tail {d : PyData} {ds : List PyData} (h : Pu K te Γ C (T (d :: ds))) : Pu K (tSl (rSlT K) te (tPart (tC (.int 1))) tNoPart) Γ C (T ds) :=
  pu_slT h (uo_some pu_int) uo_none (cut_1 d ds) fun e => by
    rw [List.length_cons, sIx1] at e
    exact absurd e.1 (by decide)
end
end Ab

namespace K21
open PySem PySem.Spec PyProof.Rows L2 Ab
def topS (i : Nat) : Stmt := PySem.Challenge.pw_notetrail_k21_honest_files.main.body.getD i (.Pass ⟨0, 0, 0, 0⟩)
abbrev Rel := Cs → List Ax → (Ax → Cs → Prop) → Prop
/-! ### the mathematics -/
def cellM (ns : List Int) (k : Int) : Int := ns.getD k.toNat 0
def mixM (c : Int) (k : Int) : Int := ((c * 48271 + k * 69621) % 2147483647 * ((c * 48271 + k * 69621) % 2147483647) + c * 31 + k) % 1000003
def drawSt (c : Int) : Nat → Int × List Int
  | 0 => (c, [])
  | i + 1 => if (10 : Int) ^ (18 : Int).toNat ≤ c then ((drawSt c i).1 / 1009, (drawSt c i).2 ++ [(drawSt c i).1 % 1009]) else ((drawSt c i).1, (drawSt c i).2 ++ [mixM (drawSt c i).1 (0 + (i : Int))])
def drawsM (c n : Int) : List Int := (drawSt c n.toNat).2
theorem drawSt_len (c : Int) : ∀ i, (drawSt c i).2.length = i
  | 0 => rfl
  | i + 1 => by
    unfold drawSt
    split <;> simp [drawSt_len c i]
theorem drawSt_nn (c : Int) : ∀ i, ∀ d ∈ (drawSt c i).2, 0 ≤ d
  | 0 => fun d h => by cases h
  | i + 1 => fun d h => by
    unfold drawSt at h
    split at h
    · rcases List.mem_append.mp h with h | h
      · exact drawSt_nn c i d h
      · rw [List.mem_singleton.mp h]
        exact Int.emod_nonneg _ (by decide)
    · rcases List.mem_append.mp h with h | h
      · exact drawSt_nn c i d h
      · rw [List.mem_singleton.mp h]
        exact Int.emod_nonneg _ (by decide)
theorem drawsM_len {c n : Int} (h : 0 ≤ n) : ((drawsM c n).length : Int) = n := by
  unfold drawsM
  rw [drawSt_len]
  omega
theorem getD_nn {ns : List Int} (h : ∀ d ∈ ns, 0 ≤ d) (i : Nat) : 0 ≤ ns.getD i 0 := by
  rw [List.getD_eq_getElem?_getD]
  cases e : ns[i]? with
  | none => exact Int.le_refl _
  | some d => exact h d (List.mem_of_getElem? e)
inductive Evt where
  | own (w : Str) (n p k a : Int)
  | hand (n g t k a : Int) (s : Bool)
  | pass (g t k a : Int)
  | sec (w : Str) (p k a : Int)
def evD : Evt → PyData
  | .own w n p k a => .tuple [.str w, .int n, .int p, .int k, .int a]
  | .hand n g t k a s => .tuple [.str "handed", .int n, .int g, .int t, .int k, .int a, .bool s]
  | .pass g t k a => .tuple [.str "passed", .int g, .int t, .int k, .int a]
  | .sec w p k a => .tuple [.str w, .int p, .int k, .int a]
def EvOk (m : Nat) : Evt → Prop
  | .own w n p k a => w ∈ (["made", "treated", "found"] : List Str) ∧ 0 ≤ p ∧ p < m
  | .hand n g t k a s => 0 ≤ g ∧ g < m ∧ 0 ≤ t ∧ t < m
  | .pass g t k a => True
  | .sec w p k a => w ∈ (["dumped", "conjured"] : List Str)
def ents : Evt → List (Int × PyData)
  | .own w n p k a => if w ∈ (["made", "treated"] : List Str) then [(p, .tuple [.int n, .str w, .int k, .int a])] else []
  | .hand n g t k a s => [(g, .tuple [.int n, .str "gave", .int k, .int a, .int t, .bool s]), (t, .tuple [.int n, .str "took", .int k, .int a, .int g, .bool s])]
  | _ => []
def putM (fs : List (List PyData)) (p : Int × PyData) : List (List PyData) := fs.set p.1.toNat (fs.getD p.1.toNat [] ++ [p.2])
def filesM (m : Nat) (es : List Evt) : List (List PyData) := es.foldl (fun fs e => (ents e).foldl putM fs) (List.replicate m [])
theorem putM_len (fs : List (List PyData)) (p : Int × PyData) : (putM fs p).length = fs.length := by simp [putM]
theorem putsM_len (ps : List (Int × PyData)) : ∀ fs : List (List PyData), (ps.foldl putM fs).length = fs.length := by
  induction ps with
  | nil => intro fs; rfl
  | cons p ps ih => intro fs; rw [List.foldl_cons, ih, putM_len]
theorem filesM_len' (es : List Evt) : ∀ fs : List (List PyData), (es.foldl (fun fs e => (ents e).foldl putM fs) fs).length = fs.length := by
  induction es with
  | nil => intro fs; rfl
  | cons p ps ih => intro fs; rw [List.foldl_cons, ih, putsM_len]
theorem ents_ok {m : Nat} {e : Evt} (h : EvOk m e) : ∀ p ∈ ents e, 0 ≤ p.1 ∧ p.1 < m := by
  intro p hp
  cases e with
  | own w n q k a =>
    simp only [ents] at hp
    split at hp
    · rw [List.mem_singleton] at hp
      subst hp
      exact h.2
    · cases hp
  | hand n g t k a s =>
    simp only [ents, List.mem_cons, List.not_mem_nil, or_false] at hp
    rcases hp with rfl | rfl
    · exact ⟨h.1, h.2.1⟩
    · exact ⟨h.2.2.1, h.2.2.2⟩
  | pass g t k a => cases hp
  | sec w q k a => cases hp
theorem ents_le (e : Evt) : (ents e).length ≤ 2 := by
  cases e with
  | own w n q k a => simp only [ents]; split <;> simp
  | hand => simp [ents]
  | pass => simp [ents]
  | sec => simp [ents]
section
variable {P : Program} {w : World} {K : PySem.W.Frag} {mg : Str → Option Value} {base : Heap}
def rel__law_cell : Rel := fun C xs R => ∃ (ns : List Int) (k : Int), xs = [Ls (ns.map .int), I k] ∧ 0 ≤ k ∧ R (I (cellM ns k)) C
abbrev s__law_cell : Stmt := topS 5
abbrev N__law_cell : List Str := ["script", "k"]
theorem sc__law_cell : FnScope N__law_cell ["script", "k"] (defScope s__law_cell) := ⟨rfl, rfl, rfl, by decide +kernel, rfl, by decide +kernel, by decide +kernel⟩

theorem ok__law_cell {f__law_cell : Addr} {fd__law_cell : FuncData} (F__law_cell : Fun K "_law_cell" "_law_cell" s__law_cell f__law_cell fd__law_cell) (z_len : mg "len" = none) : FnOk P w K mg base CX0 1 f__law_cell fd__law_cell ["script", "k"] (SpG K rel__law_cell) := by
  refine ok_def F__law_cell sc__law_cell (fun C xs R h => by obtain ⟨_, _, rfl, _⟩ := h; rfl) (fun cdv A outer s H E hr => ?_)
  refine ⟨_, (pss_cons (ps_if (pt_cmpR op_lt (pv 1) (pe_callB (kx_len K rfl) (by rfl) z_len PySem.boot_len (pa_cons (pv 0) pa_nil)) (nomark _)) (pss_one (ps_ret (pe_ix (kx_ixL K rfl) (pv 0) (pv 1) (fun _ _ => rfl)))) pss_nil)
  (pss_one (ps_ret pe_int))), ?_⟩
  rintro C xs R cl ⟨ns, k, rfl, h0, q⟩
  refine ds_ifs (ut_test (pu_lt (pu_var rfl) (pu_cb (au_cons (pu_var rfl) au_nil) rc_lenL))) (fun hc => ?_) (fun hc => ?_)
  · exact ds_retseq (ds_ret (pu_ixI (pu_var rfl) (pu_var rfl) h0 (by simpa using of_decide_eq_true hc)) (rt_dat cl Mor.refl q))
  · have e : cellM ns k = 0 := by
      have h := of_decide_eq_false hc
      rw [List.length_map] at h
      unfold cellM
      rw [List.getD_eq_getElem?_getD, List.getElem?_eq_none (by omega)]
      rfl
    rw [e] at q
    exact ds_nextseq (ds_ret pu_int (rt_dat cl Mor.refl q))
def rel__law_draws : Rel := fun C xs R => ∃ (c n : Int), xs = [I c, I n] ∧ 0 ≤ n ∧ n ≤ 1000 ∧ R (Ls ((drawsM c n).map .int)) C
abbrev s__law_draws : Stmt := topS 6
abbrev N__law_draws : List Str := ["cell", "count", "found", "is_wide", "k", "mixed"]
theorem sc__law_draws : FnScope N__law_draws ["cell", "count"] (defScope s__law_draws) := ⟨rfl, rfl, rfl, by decide +kernel, rfl, by decide +kernel, by decide +kernel⟩

theorem ok__law_draws {f__law_draws : Addr} {fd__law_draws : FuncData} (F__law_draws : Fun K "_law_draws" "_law_draws" s__law_draws f__law_draws fd__law_draws) (z_range : mg "range" = none) : FnOk P w K mg base CX0 1 f__law_draws fd__law_draws ["cell", "count"] (SpG K rel__law_draws) := by
  refine ok_def F__law_draws sc__law_draws (fun C xs R h => by obtain ⟨_, _, rfl, _⟩ := h; rfl) (fun cdv A outer s H E hr => ?_)
  refine ⟨_, (pss_cons (ps_set (i := 2) sc__law_draws.nd rfl (Or.inl rfl) (pe_lst pa_nil))
  (pss_cons (ps_set (i := 3) sc__law_draws.nd rfl (Or.inl rfl) (pe_cmpR op_ge (pv 0) (pe_op op_pow pe_int pe_int) (nomark _)))
  (pss_cons (ps_for PassesOwn.never rfl (pi_range1 (by rfl) z_range (pa_cons (pv 1) pa_nil)) (pg_name (i := 4) sc__law_draws.nd rfl (Or.inl rfl)) (pss_one (ps_if (pt_val (pv 3)) (pss_cons (ps_expr (pe_bm PySem.F.plainAttrs_list PySem.F.slot_list_append PySem.F.type_list_append mt_append (pv 2) (pa_cons (pe_op op_mod (pv 0) pe_int) pa_nil)))
  (pss_one (ps_set (i := 0) sc__law_draws.nd rfl (Or.inl rfl) (pe_op op_fdiv (pv 0) pe_int)))) (pss_cons (ps_set (i := 5) sc__law_draws.nd rfl (Or.inl rfl) (pe_op op_mod (pe_op op_add (pe_op op_mul (pv 0) pe_int) (pe_op op_mul (pv 4) pe_int)) pe_int))
  (pss_one (ps_expr (pe_bm PySem.F.plainAttrs_list PySem.F.slot_list_append PySem.F.type_list_append mt_append (pv 2) (pa_cons (pe_op op_mod (pe_op op_add (pe_op op_add (pe_op op_mul (pv 5) (pv 5)) (pe_op op_mul (pv 0) pe_int)) (pv 4)) pe_int) pa_nil))))))))
  (pss_one (ps_ret (pv 2)))))), ?_⟩
  rintro C xs R cl ⟨c, n, rfl, h0, h1, q⟩
  refine ds_new (pl_lst au_nil (by decide)) fun p hp => ?_
  refine ds_set (pu_ge (pu_var rfl) (pu_pow pu_int pu_int ⟨by decide, by decide, by decide⟩)) ?_
  refine ds_forS (fun i Δ C' => Δ = [some (I (drawSt c i).1), some (I n), some (.ref p), some (B (decide ((10 : Int) ^ (18 : Int).toNat ≤ c))), none, none] ∧ C' = updC C p (.lst (((drawSt c i).2.map PyData.int).map .dat)))
    (ui_rng1 (au_cons (pu_var rfl) au_nil) (by omega)) ⟨_, Le.refl _, rfl, rfl⟩ (fun _ _ _ _ => trivial) ?_ ?_
  · rintro i x Δ C' hx ⟨rfl, rfl⟩
    obtain ⟨hi, rfl⟩ := rngD_get hx
    have hz : (((drawSt c i).2.map PyData.int).map Ax.dat).length < 100000 := by simp [drawSt_len]; omega
    refine ⟨_, _, tg_name, ?_⟩
    refine ds_if (ut_B (pu_var rfl)) (fun hc => ?_) (fun hc => ?_)
    · have hc := of_decide_eq_true hc
      refine ds_drop (ev_app (pu_var rfl) (pu_mod (pu_var rfl) pu_int (by decide)) updC_same hz) ?_
      rintro _ _ ⟨rfl, rfl⟩
      refine ds_set1 (pu_fdiv (pu_var rfl) pu_int ⟨by decide, by decide⟩) ⟨_, ?_, rfl, ?_⟩
      · rw [drawSt, if_pos hc]
        exact ⟨rfl, rfl, rfl, rfl, trivial⟩
      · rw [updC_updC, drawSt, if_pos hc, List.map_append, List.map_append]
        rfl
    · have hc := of_decide_eq_false hc
      refine ds_set (pu_mod (pu_add (pu_mul (pu_var rfl) pu_int (.inr ⟨by decide, by decide⟩)) (pu_mul (pu_var rfl) pu_int (.inr ⟨by decide, by decide⟩))) pu_int (by decide)) ?_
      refine ds_drop1 (ev_app (pu_var rfl) (pu_mod (pu_add (pu_add (pu_mul (pu_var rfl) (pu_var rfl) ?_) (pu_mul (pu_var rfl) pu_int (.inr ⟨by decide, by decide⟩))) (pu_var rfl)) pu_int (by decide)) updC_same hz) ?_
      · exact .inl (by omega)
      · rintro _ _ ⟨rfl, rfl⟩
        refine ⟨_, ?_, rfl, ?_⟩
        · rw [drawSt, if_neg hc]
          exact ⟨rfl, rfl, rfl, rfl, trivial⟩
        · rw [updC_updC, drawSt, if_neg hc, List.map_append, List.map_append]
          rfl
  · rintro Δ C' ⟨rfl, rfl⟩
    rw [rngD_len]
    exact ds_ret (pu_var rfl) (rt_fz cl (Mor.upd hp) (dz_lst updC_same hp) q)
/-! two to five parties -/
def flagsM (ns : List Int) (k : Nat) : PyData := .tuple [.bool (decide (ns.getD (1 + (0 + (k : Int))).toNat 0 % 2 = 0)), .bool (decide (ns.getD (7 + (0 + (k : Int))).toNat 0 % 3 = 0))]
def partiesM (ns : List Int) : List PyData := ((List.range (2 + ns.getD 0 0 % 4).toNat).filter fun _ => true).map (flagsM ns)
theorem partiesM_len (ns : List Int) : ((partiesM ns).length : Int) = 2 + ns.getD 0 0 % 4 := by
  unfold partiesM
  rw [List.filter_eq_self.mpr (fun _ _ => rfl), List.length_map, List.length_range]
  omega
def rel__law_parties : Rel := fun C xs R => ∃ (ns : List Int), xs = [Ls (ns.map .int)] ∧ 12 ≤ ns.length ∧ R (T (partiesM ns)) C
abbrev s__law_parties : Stmt := topS 7
abbrev N__law_parties : List Str := ["draws", "k"]
theorem sc__law_parties : FnScope N__law_parties ["draws"] (defScope s__law_parties) := ⟨rfl, rfl, rfl, by decide +kernel, rfl, by decide +kernel, by decide +kernel⟩

theorem ok__law_parties {f__law_parties : Addr} {fd__law_parties : FuncData} (F__law_parties : Fun K "_law_parties" "_law_parties" s__law_parties f__law_parties fd__law_parties) (z_range : mg "range" = none) (z_tuple : mg "tuple" = none) : FnOk P w K mg base CX0 1 f__law_parties fd__law_parties ["draws"] (SpG K rel__law_parties) := by
  refine ok_def F__law_parties sc__law_parties (fun C xs R h => by obtain ⟨_, rfl, _⟩ := h; rfl) (fun cdv A outer s H E hr => ?_)
  refine ⟨_, (pss_one (ps_ret (pe_callTy (kx_tuple K rfl) (by rfl) z_tuple PyProof.Rows.boot_tuple (pa_cons (pe_lc (own := [("k", 1)]) rfl sc__law_parties.nd (pi_range1 (by rfl) z_range (pa_cons (pe_op op_add pe_int (pe_op op_mod (pe_ix (kx_ixL K rfl) (pv 0) pe_int (fun _ _ => rfl)) pe_int)) pa_nil)) (blkOk_by (N := N__law_parties) (sc := defScope s__law_parties) (by decide +kernel)) (fun _ _ _ _ _ => (pg_name (i := 1) sc__law_parties.nd rfl (Or.inl rfl))) (fun _ _ _ _ _ => pts_nil) (fun _ _ _ _ _ => (pe_tup (pa_cons (pe_cmpR op_eq (pe_op op_mod (pe_ix (kx_ixL K rfl) (pv 0) (pe_op op_add pe_int (pv 1)) (fun _ _ => rfl)) pe_int) pe_int (nomark _)) (pa_cons (pe_cmpR op_eq (pe_op op_mod (pe_ix (kx_ixL K rfl) (pv 0) (pe_op op_add pe_int (pv 1)) (fun _ _ => rfl)) pe_int) pe_int (nomark _)) pa_nil))))) pa_nil)))), ?_⟩
  rintro C xs R cl ⟨ns, rfl, hn, q⟩
  refine ds_ret (pu_cb (au_cons (x := Ls (partiesM ns)) ?_ au_nil) rc_tupL) (rt_dat cl Mor.refl q)
  have e : (rngD 0 (2 + ns.getD 0 0 % 4).toNat).length = (2 + ns.getD 0 0 % 4).toNat := rngD_len
  unfold partiesM
  rw [← e]
  refine pu_lc (fun _ => true) (flagsM ns) (ui_rng1 (au_cons (pu_add pu_int (pu_mod (pu_ixI (pu_var rfl) pu_int (by decide) (by omega)) pu_int (by decide))) au_nil) (by show 2 + ns.getD 0 0 % 4 ≤ 100000; omega) (by show -100000 ≤ 2 + ns.getD 0 0 % 4; omega)) (by rw [e]; omega) (fun _ _ => trivial) ?_
  intro i x C' m hx
  obtain ⟨hi, rfl⟩ := rngD_get hx
  refine ⟨_, [1], by simp, tg_name, ut_yes, fun _ => ?_⟩
  exact (pu_tup (ds := [_, _]) (au_cons (pu_eqI (pu_mod (pu_ixI (pu_var rfl) (pu_add pu_int (pu_var rfl)) (by omega) (by omega)) pu_int (by decide)) pu_int) (au_cons (pu_eqI (pu_mod (pu_ixI (pu_var rfl) (pu_add pu_int (pu_var rfl)) (by omega) (by omega)) pu_int (by decide)) pu_int) au_nil)) (lk rfl))
end
end K21

namespace K21
open PySem PySem.Spec PyProof.Rows L2 Ab
theorem at2 {a b : Str} {i : Int} (h0 : 0 ≤ i) (h : i < 2) : atI [PyData.str a, .str b] i = some (.str (if i = 0 then a else b)) := by
  have e : i = 0 ∨ i = 1 := by omega
  rcases e with rfl | rfl <;> rfl
theorem at3 {a b c : Str} {i : Int} (h0 : 0 ≤ i) (h : i < 3) : atI [PyData.str a, .str b, .str c] i = some (.str (if i = 0 then a else if i = 1 then b else c)) := by
  have e : i = 0 ∨ i = 1 ∨ i = 2 := by omega
  rcases e with rfl | rfl | rfl <;> rfl
def numM (i : Int) : Int := if i < 4 then 1 else if i = 4 then 5 else 0
theorem at6 {i : Int} (h0 : 0 ≤ i) (h : i < 6) : atI [PyData.int 1, .int 1, .int 1, .int 1, .int 5, .int 0] i = some (.int (numM i)) := by
  have e : i = 0 ∨ i = 1 ∨ i = 2 ∨ i = 3 ∨ i = 4 ∨ i = 5 := by omega
  rcases e with rfl | rfl | rfl | rfl | rfl | rfl <;> rfl
def w3 (i : Int) : Str := if i = 0 then "made" else if i = 1 then "made" else "treated"
def w2 (i : Int) : Str := if i = 0 then "dumped" else "conjured"
def eventM (ns : List Int) (many kinds number : Int) : Evt :=
  if ns.getD 0 0 % 9 < 3 then .own (w3 (ns.getD 0 0 % 9)) number (ns.getD 1 0 % many) (ns.getD 3 0 % kinds) (1 + ns.getD 4 0 % 6)
  else if ns.getD 0 0 % 9 = 3 then .own "found" number (ns.getD 1 0 % many) (ns.getD 3 0 % kinds) (ns.getD 4 0 % 8)
  else if ns.getD 0 0 % 9 < 6 then .hand number (ns.getD 1 0 % many) (ns.getD 2 0 % many) (ns.getD 3 0 % kinds) (1 + ns.getD 4 0 % 6) (decide (ns.getD 5 0 % 2 = 0))
  else if ns.getD 0 0 % 9 = 6 then .pass (ns.getD 1 0 % many) (ns.getD 2 0 % many) (ns.getD 3 0 % kinds) (1 + ns.getD 4 0 % 6)
  else .sec (w2 (ns.getD 0 0 % 9 - 7)) (ns.getD 1 0 % many) (ns.getD 3 0 % kinds) (1 + ns.getD 4 0 % 6)
theorem eventM_ok {ns : List Int} {many : Nat} {kinds number : Int} (h : 0 < many) : EvOk many (eventM ns many kinds number) := by
  have hp : ∀ x : Int, 0 ≤ x % (many : Int) ∧ x % (many : Int) < many := fun x => ⟨Int.emod_nonneg _ (by omega), Int.emod_lt_of_pos _ (by omega)⟩
  unfold eventM
  split
  · refine ⟨?_, hp _⟩
    unfold w3
    split
    · simp
    · split <;> simp
  · split
    · exact ⟨by simp, hp _⟩
    · split
      · exact ⟨(hp _).1, (hp _).2, (hp _).1, (hp _).2⟩
      · split
        · trivial
        · show w2 _ ∈ _
          unfold w2
          split <;> simp
def evSt (ns : List Int) (at_ many kinds : Int) : Nat → Int × List Evt
  | 0 => (0, [])
  | i + 1 =>
    let d := drawsM (cellM ns (at_ + 1 + (0 + (i : Int)))) 7
    let n := (evSt ns at_ many kinds i).1 + numM (d.getD 6 0 % 6)
    (n, (evSt ns at_ many kinds i).2 ++ [eventM d many kinds (if n > 1 then n else 1)])
def eventsM (ns : List Int) (at_ most many kinds : Int) : List Evt := (evSt ns at_ many kinds (cellM ns at_ % (most + 1)).toNat).2
theorem evSt_len (ns : List Int) (at_ many kinds : Int) : ∀ i, (evSt ns at_ many kinds i).2.length = i
  | 0 => rfl
  | i + 1 => by simp [evSt, evSt_len ns at_ many kinds i]
theorem evSt_ok (ns : List Int) (at_ : Int) {many : Nat} (kinds : Int) (h : 0 < many) : ∀ i, ∀ e ∈ (evSt ns at_ many kinds i).2, EvOk many e
  | 0 => fun e he => by cases he
  | i + 1 => fun e he => by
    simp only [evSt, List.mem_append, List.mem_singleton] at he
    rcases he with he | rfl
    · exact evSt_ok ns at_ kinds h i e he
    · exact eventM_ok h
section
variable {P : Program} {w : World} {K : PySem.W.Frag} {mg : Str → Option Value} {base : Heap}
def rel__law_event : Rel := fun C xs R => ∃ (ns : List Int) (many kinds number : Int), xs = [Ls (ns.map .int), I many, I kinds, I number] ∧ 7 ≤ ns.length ∧ (∀ d ∈ ns, 0 ≤ d) ∧ 0 < many ∧ 0 < kinds ∧ R (.dat (evD (eventM ns many kinds number))) C
abbrev s__law_event : Stmt := topS 9
abbrev N__law_event : List Str := ["draws", "many", "kinds", "number", "one", "two", "kind", "amount", "form"]
theorem sc__law_event : FnScope N__law_event ["draws", "many", "kinds", "number"] (defScope s__law_event) := ⟨rfl, rfl, rfl, by decide +kernel, rfl, by decide +kernel, by decide +kernel⟩

theorem ok__law_event {f__law_event : Addr} {fd__law_event : FuncData} (F__law_event : Fun K "_law_event" "_law_event" s__law_event f__law_event fd__law_event) : FnOk P w K mg base CX0 1 f__law_event fd__law_event ["draws", "many", "kinds", "number"] (SpG K rel__law_event) := by
  refine ok_def F__law_event sc__law_event (fun C xs R h => by obtain ⟨_, _, _, _, rfl, _⟩ := h; rfl) (fun cdv A outer s H E hr => ?_)
  refine ⟨_, (pss_cons (ps_set (i := 4) sc__law_event.nd rfl (Or.inl rfl) (pe_op op_mod (pe_ix (kx_ixL K rfl) (pv 0) pe_int (fun _ _ => rfl)) (pv 1)))
  (pss_cons (ps_set (i := 5) sc__law_event.nd rfl (Or.inl rfl) (pe_op op_mod (pe_ix (kx_ixL K rfl) (pv 0) pe_int (fun _ _ => rfl)) (pv 1)))
  (pss_cons (ps_set (i := 6) sc__law_event.nd rfl (Or.inl rfl) (pe_op op_mod (pe_ix (kx_ixL K rfl) (pv 0) pe_int (fun _ _ => rfl)) (pv 2)))
  (pss_cons (ps_set (i := 7) sc__law_event.nd rfl (Or.inl rfl) (pe_op op_add pe_int (pe_op op_mod (pe_ix (kx_ixL K rfl) (pv 0) pe_int (fun _ _ => rfl)) pe_int)))
  (pss_cons (ps_set (i := 8) sc__law_event.nd rfl (Or.inl rfl) (pe_op op_mod (pe_ix (kx_ixL K rfl) (pv 0) pe_int (fun _ _ => rfl)) pe_int))
  (pss_cons (ps_if (pt_cmpR op_lt (pv 8) pe_int (nomark _)) (pss_one (ps_ret (pe_tup (pa_cons (pe_ix (kx_ixL K rfl) (pe_lst (pa_cons pe_str (pa_cons pe_str (pa_cons pe_str pa_nil)))) (pv 8) (fun _ _ => rfl)) (pa_cons (pv 3) (pa_cons (pv 4) (pa_cons (pv 6) (pa_cons (pv 7) pa_nil)))))))) pss_nil)
  (pss_cons (ps_if (pt_cmpR op_eq (pv 8) pe_int (nomark _)) (pss_one (ps_ret (pe_tup (pa_cons pe_str (pa_cons (pv 3) (pa_cons (pv 4) (pa_cons (pv 6) (pa_cons (pe_op op_mod (pe_ix (kx_ixL K rfl) (pv 0) pe_int (fun _ _ => rfl)) pe_int) pa_nil)))))))) pss_nil)
  (pss_cons (ps_if (pt_cmpR op_lt (pv 8) pe_int (nomark _)) (pss_one (ps_ret (pe_tup (pa_cons pe_str (pa_cons (pv 3) (pa_cons (pv 4) (pa_cons (pv 5) (pa_cons (pv 6) (pa_cons (pv 7) (pa_cons (pe_cmpR op_eq (pe_op op_mod (pe_ix (kx_ixL K rfl) (pv 0) pe_int (fun _ _ => rfl)) pe_int) pe_int (nomark _)) pa_nil)))))))))) pss_nil)
  (pss_cons (ps_if (pt_cmpR op_eq (pv 8) pe_int (nomark _)) (pss_one (ps_ret (pe_tup (pa_cons pe_str (pa_cons (pv 4) (pa_cons (pv 5) (pa_cons (pv 6) (pa_cons (pv 7) pa_nil)))))))) pss_nil)
  (pss_one (ps_ret (pe_tup (pa_cons (pe_ix (kx_ixL K rfl) (pe_lst (pa_cons pe_str (pa_cons pe_str pa_nil))) (pe_op op_sub (pv 8) pe_int) (fun _ _ => rfl)) (pa_cons (pv 4) (pa_cons (pv 6) (pa_cons (pv 7) pa_nil)))))))))))))))), ?_⟩
  rintro C xs R cl ⟨ns, many, kinds, number, rfl, hl, hn, hm, hk, q⟩
  have f0 : 0 ≤ ns.getD 0 0 % 9 := Int.emod_nonneg _ (by decide)
  have f9 : ns.getD 0 0 % 9 < 9 := Int.emod_lt_of_pos _ (by decide)
  refine ds_set (pu_mod (pu_ixI (pu_var rfl) pu_int (by decide) (by omega)) (pu_var rfl) hm) ?_   -- one = draws[1] % many
  refine ds_set (pu_mod (pu_ixI (pu_var rfl) pu_int (by decide) (by omega)) (pu_var rfl) hm) ?_   -- two = draws[2] % many
  refine ds_set (pu_mod (pu_ixI (pu_var rfl) pu_int (by decide) (by omega)) (pu_var rfl) hk) ?_   -- kind = draws[3] % kinds
  refine ds_set (pu_add pu_int (pu_mod (pu_ixI (pu_var rfl) pu_int (by decide) (by omega)) pu_int (by decide))) ?_   -- amount = 1 + draws[4] % 6
  refine ds_set (pu_mod (pu_ixI (pu_var rfl) pu_int (by decide) (by omega)) pu_int (by decide)) ?_   -- form = draws[0] % 9
  unfold eventM at q
  refine ds_ifs (ut_test (pu_lt (pu_var rfl) pu_int)) (fun hc => ?_) (fun hc => ?_)   -- if form < 3
  · have hc : ns.getD 0 0 % 9 < 3 := of_decide_eq_true hc
    rw [if_pos hc] at q
    refine ds_retseq (ds_ret (pu_tup (ds := [_, _, _, _, _]) (au_cons (pu_ixL (pu_fz (ds := [_, _, _]) (pl_lst (au_cons pu_str (au_cons pu_str (au_cons pu_str au_nil))) (lk rfl))) (pu_var rfl) (at3 f0 hc)) (au_cons (pu_var rfl) (au_cons (pu_var rfl) (au_cons (pu_var rfl) (au_cons (pu_var rfl) au_nil))))) (lk rfl)) (rt_dat cl Mor.refl ?_))
    exact q
  have hc : ¬ ns.getD 0 0 % 9 < 3 := of_decide_eq_false hc
  rw [if_neg hc] at q
  refine ds_nextseq (ds_ifs (ut_test (pu_eqI (pu_var rfl) pu_int)) (fun hc => ?_) (fun hc => ?_))   -- if form == 3
  · have hc : ns.getD 0 0 % 9 = 3 := of_decide_eq_true hc
    rw [if_pos hc] at q
    exact ds_retseq (ds_ret (pu_tup (ds := [_, _, _, _, _]) (au_cons pu_str (au_cons (pu_var rfl) (au_cons (pu_var rfl) (au_cons (pu_var rfl) (au_cons (pu_mod (pu_ixI (pu_var rfl) pu_int (by decide) (by omega)) pu_int (by decide)) au_nil))))) (lk rfl)) (rt_dat cl Mor.refl q))
  have hc : ¬ ns.getD 0 0 % 9 = 3 := of_decide_eq_false hc
  rw [if_neg hc] at q
  refine ds_nextseq (ds_ifs (ut_test (pu_lt (pu_var rfl) pu_int)) (fun hc => ?_) (fun hc => ?_))   -- if form < 6
  · have hc : ns.getD 0 0 % 9 < 6 := of_decide_eq_true hc
    rw [if_pos hc] at q
    exact ds_retseq (ds_ret (pu_tup (ds := [_, _, _, _, _, _, _]) (au_cons pu_str (au_cons (pu_var rfl) (au_cons (pu_var rfl) (au_cons (pu_var rfl) (au_cons (pu_var rfl) (au_cons (pu_var rfl) (au_cons (pu_eqI (pu_mod (pu_ixI (pu_var rfl) pu_int (by decide) (by omega)) pu_int (by decide)) pu_int) au_nil))))))) (lk rfl)) (rt_dat cl Mor.refl q))
  have hc : ¬ ns.getD 0 0 % 9 < 6 := of_decide_eq_false hc
  rw [if_neg hc] at q
  refine ds_nextseq (ds_ifs (ut_test (pu_eqI (pu_var rfl) pu_int)) (fun hc => ?_) (fun hc => ?_))   -- if form == 6
  · have hc : ns.getD 0 0 % 9 = 6 := of_decide_eq_true hc
    rw [if_pos hc] at q
    exact ds_retseq (ds_ret (pu_tup (ds := [_, _, _, _, _]) (au_cons pu_str (au_cons (pu_var rfl) (au_cons (pu_var rfl) (au_cons (pu_var rfl) (au_cons (pu_var rfl) au_nil))))) (lk rfl)) (rt_dat cl Mor.refl q))
  have hc : ¬ ns.getD 0 0 % 9 = 6 := of_decide_eq_false hc
  rw [if_neg hc] at q
  exact ds_nextseq (ds_ret (pu_tup (ds := [_, _, _, _]) (au_cons (pu_ixL (pu_fz (ds := [_, _]) (pl_lst (au_cons pu_str (au_cons pu_str au_nil)) (lk rfl))) (pu_sub (pu_var rfl) pu_int) (at2 (by show 0 ≤ ns.getD 0 0 % 9 - 7; omega) (by show ns.getD 0 0 % 9 - 7 < 2; omega))) (au_cons (pu_var rfl) (au_cons (pu_var rfl) (au_cons (pu_var rfl) au_nil)))) (lk rfl)) (rt_dat cl Mor.refl q))
def rel__law_events : Rel := fun C xs R => ∃ (ns : List Int) (at_ most many kinds : Int), xs = [Ls (ns.map .int), I at_, I most, I many, I kinds] ∧ 0 ≤ at_ ∧ 0 ≤ most ∧ most ≤ 1000 ∧ 0 < many ∧ 0 < kinds ∧ R (Ls ((eventsM ns at_ most many kinds).map evD)) C
abbrev s__law_events : Stmt := topS 10
abbrev N__law_events : List Str := ["script", "at", "most", "many", "kinds", "found", "number", "k", "draws"]
theorem sc__law_events : FnScope N__law_events ["script", "at", "most", "many", "kinds"] (defScope s__law_events) := ⟨rfl, rfl, rfl, by decide +kernel, rfl, by decide +kernel, by decide +kernel⟩

theorem ok__law_events {f__law_events : Addr} {fd__law_events : FuncData} (F__law_events : Fun K "_law_events" "_law_events" s__law_events f__law_events fd__law_events) {f__law_cell : Addr} {fd__law_cell : FuncData} (F__law_cell : Fun K "_law_cell" "_law_cell" s__law_cell f__law_cell fd__law_cell) (G__law_cell : FnOk P w K mg base CX0 1 f__law_cell fd__law_cell ["script", "k"] (SpG K rel__law_cell)) (b__law_cell : Binds K fd__law_cell ["script", "k"] []) (g__law_cell : mg "_law_cell" = some (.ref f__law_cell)) {f__law_draws : Addr} {fd__law_draws : FuncData} (F__law_draws : Fun K "_law_draws" "_law_draws" s__law_draws f__law_draws fd__law_draws) (G__law_draws : FnOk P w K mg base CX0 1 f__law_draws fd__law_draws ["cell", "count"] (SpG K rel__law_draws)) (b__law_draws : Binds K fd__law_draws ["cell", "count"] []) (g__law_draws : mg "_law_draws" = some (.ref f__law_draws)) {f__law_event : Addr} {fd__law_event : FuncData} (F__law_event : Fun K "_law_event" "_law_event" s__law_event f__law_event fd__law_event) (G__law_event : FnOk P w K mg base CX0 1 f__law_event fd__law_event ["draws", "many", "kinds", "number"] (SpG K rel__law_event)) (b__law_event : Binds K fd__law_event ["draws", "many", "kinds", "number"] []) (g__law_event : mg "_law_event" = some (.ref f__law_event)) (z_max : mg "max" = none) (z_range : mg "range" = none) : FnOk P w K mg base CX0 2 f__law_events fd__law_events ["script", "at", "most", "many", "kinds"] (SpG K rel__law_events) := by
  refine ok_def F__law_events sc__law_events (fun C xs R h => by obtain ⟨_, _, _, _, _, rfl, _⟩ := h; rfl) (fun cdv A outer s H E hr => ?_)
  refine ⟨_, (pss_cons (ps_set (i := 5) sc__law_events.nd rfl (Or.inl rfl) (pe_lst pa_nil))
  (pss_cons (ps_set (i := 6) sc__law_events.nd rfl (Or.inl rfl) pe_int)
  (pss_cons (ps_for PassesOwn.never rfl (pi_range1 (by rfl) z_range (pa_cons (pe_op op_mod (pe_call G__law_cell (hr.mono (by decide)) (by rfl) g__law_cell F__law_cell.kp b__law_cell .nil pass0 (pa_cons (pv 0) (pa_cons (pv 1) pa_nil))) (pe_op op_add (pv 2) pe_int)) pa_nil)) (pg_name (i := 7) sc__law_events.nd rfl (Or.inl rfl)) (pss_cons (ps_set (i := 8) sc__law_events.nd rfl (Or.inl rfl) (pe_call G__law_draws (hr.mono (by decide)) (by rfl) g__law_draws F__law_draws.kp b__law_draws .nil pass0 (pa_cons (pe_call G__law_cell (hr.mono (by decide)) (by rfl) g__law_cell F__law_cell.kp b__law_cell .nil pass0 (pa_cons (pv 0) (pa_cons (pe_op op_add (pe_op op_add (pv 1) pe_int) (pv 7)) pa_nil))) (pa_cons pe_int pa_nil))))
  (pss_cons (ps_set (i := 6) sc__law_events.nd rfl (Or.inl rfl) (pe_op op_add (pv 6) (pe_ix (kx_ixL K rfl) (pe_lst (pa_cons pe_int (pa_cons pe_int (pa_cons pe_int (pa_cons pe_int (pa_cons pe_int (pa_cons pe_int pa_nil))))))) (pe_op op_mod (pe_ix (kx_ixL K rfl) (pv 8) pe_int (fun _ _ => rfl)) pe_int) (fun _ _ => rfl))))
  (pss_one (ps_expr (pe_bm PySem.F.plainAttrs_list PySem.F.slot_list_append PySem.F.type_list_append mt_append (pv 5) (pa_cons (pe_call G__law_event (hr.mono (by decide)) (by rfl) g__law_event F__law_event.kp b__law_event .nil pass0 (pa_cons (pv 8) (pa_cons (pv 3) (pa_cons (pv 4) (pa_cons (pe_callB (call_max2 rfl) (by rfl) z_max (by decide +kernel) (pa_cons pe_int (pa_cons (pv 6) pa_nil))) pa_nil))))) pa_nil)))))))
  (pss_one (ps_ret (pv 5)))))), ?_⟩
  rintro C xs R cl ⟨ns, at_, most, many, kinds, rfl, ha, hm0, hm1, hm, hk, q⟩
  refine ds_new (pl_lst au_nil (lk rfl)) fun p hp => ?_
  refine ds_set pu_int ?_   -- number = 0
  have c0 : 0 ≤ cellM ns at_ % (most + 1) := Int.emod_nonneg _ (by omega)
  have c1 : cellM ns at_ % (most + 1) < most + 1 := Int.emod_lt_of_pos _ (by omega)
  refine ds_forS (fun i Δ C' => Δ = [some (Ls (ns.map .int)), some (I at_), some (I most), some (I many), some (I kinds), some (.ref p), some (I (evSt ns at_ many kinds i).1), none, none] ∧ C' = updC C p (.lst (((evSt ns at_ many kinds i).2.map evD).map .dat)))
    (ui_rng1 (au_cons (pu_mod (pu_call (au_cons (pu_var rfl) (au_cons (pu_var rfl) au_nil)) ⟨ns, at_, rfl, ha, rfl, rfl⟩) (pu_add (pu_var rfl) pu_int) (by omega)) au_nil) (by omega)) ⟨_, Le.refl _, rfl, rfl⟩ (fun _ _ _ _ => trivial) ?_ ?_
  · rintro i x Δ C' hx ⟨rfl, rfl⟩
    obtain ⟨hi, rfl⟩ := rngD_get hx
    have hz : (((evSt ns at_ many kinds i).2.map evD).map Ax.dat).length < 100000 := by simp [evSt_len]; omega
    refine ⟨_, _, tg_name, ?_⟩
    refine ds_set (pu_call (au_cons (pu_call (au_cons (pu_var rfl) (au_cons (pu_add (pu_add (pu_var rfl) pu_int) (pu_var rfl)) au_nil)) ⟨ns, _, rfl, by omega, rfl, rfl⟩) (au_cons pu_int au_nil)) ⟨_, 7, rfl, by decide, by decide, rfl, rfl⟩) ?_
    have dl : (drawsM (cellM ns (at_ + 1 + (0 + (i : Int)))) 7).length = 7 := by
      have := drawsM_len (c := cellM ns (at_ + 1 + (0 + (i : Int)))) (n := 7) (by decide)
      omega
    have dn : ∀ d ∈ drawsM (cellM ns (at_ + 1 + (0 + (i : Int)))) 7, 0 ≤ d := drawSt_nn _ _
    refine ds_set (pu_add (pu_var rfl) (pu_ixL (pu_fz (ds := [_, _, _, _, _, _]) (pl_lst (au_cons pu_int (au_cons pu_int (au_cons pu_int (au_cons pu_int (au_cons pu_int (au_cons pu_int au_nil)))))) (lk rfl))) (pu_mod (pu_ixI (pu_var rfl) pu_int (by decide) (by omega)) pu_int (by decide)) (at6 (Int.emod_nonneg _ (by decide)) (Int.emod_lt_of_pos _ (by decide))))) ?_
    refine ds_drop1 (ev_app (pu_var rfl) (pu_call (au_cons (pu_var rfl) (au_cons (pu_var rfl) (au_cons (pu_var rfl) (au_cons (pu_cb (au_cons pu_int (au_cons (pu_var rfl) au_nil)) rc_max2) au_nil)))) ⟨_, many, kinds, _, rfl, by omega, dn, hm, hk, rfl, rfl⟩) updC_same hz) ?_
    rintro _ _ ⟨rfl, rfl⟩
    refine ⟨_, ?_, rfl, ?_⟩
    · exact ⟨rfl, rfl, rfl, rfl, rfl, rfl, rfl, trivial⟩
    · rw [updC_updC, evSt, List.map_append, List.map_append]
      rfl
  · rintro Δ C' ⟨rfl, rfl⟩
    rw [rngD_len]
    exact ds_ret (pu_var rfl) (rt_fz cl (Mor.upd hp) (dz_lst updC_same hp) q)
end
end K21

namespace K21
open PySem PySem.Spec PyProof.Rows L2 Ab
def pairD (p : Int × PyData) : PyData := .tuple [.int p.1, p.2]
def Rb (n : Nat) (fs : List (List PyData)) : Prop := ∀ k, (fs.getD k []).length ≤ n
theorem putM_rb {fs : List (List PyData)} {n : Nat} (p : Int × PyData) (h : Rb n fs) : Rb (n + 1) (putM fs p) := fun k => by
  unfold putM
  rw [List.getD_eq_getElem?_getD, List.getElem?_set]
  split
  · split
    · have := h p.1.toNat
      simp
      simpa using this
    · simp
  · have := h k
    rw [List.getD_eq_getElem?_getD] at this
    omega
theorem puts_rb (ps : List (Int × PyData)) : ∀ {fs : List (List PyData)} {n : Nat}, Rb n fs → Rb (n + ps.length) (ps.foldl putM fs) := by
  induction ps with
  | nil => intro fs n h; exact h
  | cons p ps ih =>
    intro fs n h
    rw [List.foldl_cons, List.length_cons]
    have := ih (putM_rb p h)
    intro k
    have := this k
    omega
theorem Rb.mono {n m : Nat} {fs : List (List PyData)} (h : Rb n fs) (k : n ≤ m) : Rb m fs := fun j => Nat.le_trans (h j) k
theorem files_rb (es : List Evt) : ∀ {fs : List (List PyData)} {n : Nat}, Rb n fs → Rb (n + 2 * es.length) (es.foldl (fun fs e => (ents e).foldl putM fs) fs) := by
  induction es with
  | nil => intro fs n h; exact h
  | cons e es ih =>
    intro fs n h
    rw [List.foldl_cons, List.length_cons]
    have h1 := puts_rb (ents e) h
    exact (ih (h1.mono (show n + (ents e).length ≤ n + 2 by have := ents_le e; omega))).mono (by omega)
theorem filesM_rb (m : Nat) (es : List Evt) : Rb (2 * es.length) (filesM m es) := by
  have h0 : Rb 0 (List.replicate m ([] : List PyData)) := fun k => by
    rw [List.getD_eq_getElem?_getD, List.getElem?_replicate]
    split <;> simp
  exact (files_rb es h0).mono (by omega)
theorem filesM_len (m : Nat) (es : List Evt) : (filesM m es).length = m := by
  unfold filesM
  rw [filesM_len']
  simp
theorem filesM_snoc (m : Nat) (es : List Evt) (i : Nat) (e : Evt) (h : es[i]? = some e) : filesM m (es.take (i + 1)) = (ents e).foldl putM (filesM m (es.take i)) := by
  unfold filesM
  rw [List.take_add_one, h, List.foldl_append]
  rfl
theorem mapget {α β : Type} {f : α → β} {l : List α} {i : Nat} {y : β} (h : (l.map f)[i]? = some y) : ∃ a, l[i]? = some a ∧ y = f a := by
  rw [List.getElem?_map] at h
  cases e : l[i]? with
  | none => rw [e] at h; cases h
  | some a => rw [e] at h; cases h; exact ⟨a, rfl, rfl⟩
section
variable {P : Program} {w : World} {K : PySem.W.Frag} {mg : Str → Option Value} {base : Heap}
def rel_entries_of : Rel := fun C xs R => ∃ (m : Nat) (e : Evt), xs = [.dat (evD e)] ∧ EvOk m e ∧ R (Ls ((ents e).map pairD)) C
abbrev s_entries_of : Stmt := topS 1
abbrev N_entries_of : List Str := ["event", "deed", "number", "party", "kind", "amount", "giver", "taker", "sealed", "gave", "took"]
theorem sc_entries_of : FnScope N_entries_of ["event"] (defScope s_entries_of) := ⟨rfl, rfl, rfl, by decide +kernel, rfl, by decide +kernel, by decide +kernel⟩

theorem ok_entries_of {f_entries_of : Addr} {fd_entries_of : FuncData} (F_entries_of : Fun K "entries_of" "entries_of" s_entries_of f_entries_of fd_entries_of) : FnOk P w K mg base CX0 1 f_entries_of fd_entries_of ["event"] (SpG K rel_entries_of) := by
  refine ok_def F_entries_of sc_entries_of (fun C xs R h => by obtain ⟨_, _, rfl, _⟩ := h; rfl) (fun cdv A outer s H E hr => ?_)
  refine ⟨_, (pss_cons (ps_if (pt_cmpR (kx_in K rfl) (pe_ix (kx_ixT K rfl) (pv 0) pe_int (fun _ _ => rfl)) (pe_tup (pa_cons pe_str (pa_cons pe_str pa_nil))) (by rfl)) (pss_cons (ps_asg (pv 0) (pg_tup rfl (pgs_cons (pg_name (i := 1) sc_entries_of.nd rfl (Or.inl rfl)) (pgs_cons (pg_name (i := 2) sc_entries_of.nd rfl (Or.inl rfl)) (pgs_cons (pg_name (i := 3) sc_entries_of.nd rfl (Or.inl rfl)) (pgs_cons (pg_name (i := 4) sc_entries_of.nd rfl (Or.inl rfl)) (pgs_cons (pg_name (i := 5) sc_entries_of.nd rfl (Or.inl rfl)) pgs_nil)))))))
  (pss_one (ps_ret (pe_lst (pa_cons (pe_tup (pa_cons (pv 3) (pa_cons (pe_tup (pa_cons (pv 2) (pa_cons (pv 1) (pa_cons (pv 4) (pa_cons (pv 5) pa_nil))))) pa_nil))) pa_nil))))) pss_nil)
  (pss_cons (ps_if (pt_cmpR op_eq (pe_ix (kx_ixT K rfl) (pv 0) pe_int (fun _ _ => rfl)) pe_str (nomark _)) (pss_cons (ps_asg (pe_slice (kx_slT K rfl) (pv 0) (po_some pe_int) po_none) (pg_tup rfl (pgs_cons (pg_name (i := 2) sc_entries_of.nd rfl (Or.inl rfl)) (pgs_cons (pg_name (i := 6) sc_entries_of.nd rfl (Or.inl rfl)) (pgs_cons (pg_name (i := 7) sc_entries_of.nd rfl (Or.inl rfl)) (pgs_cons (pg_name (i := 4) sc_entries_of.nd rfl (Or.inl rfl)) (pgs_cons (pg_name (i := 5) sc_entries_of.nd rfl (Or.inl rfl)) (pgs_cons (pg_name (i := 8) sc_entries_of.nd rfl (Or.inl rfl)) pgs_nil))))))))
  (pss_cons (ps_set (i := 9) sc_entries_of.nd rfl (Or.inl rfl) (pe_tup (pa_cons (pv 2) (pa_cons pe_str (pa_cons (pv 4) (pa_cons (pv 5) (pa_cons (pv 7) (pa_cons (pv 8) pa_nil))))))))
  (pss_cons (ps_set (i := 10) sc_entries_of.nd rfl (Or.inl rfl) (pe_tup (pa_cons (pv 2) (pa_cons pe_str (pa_cons (pv 4) (pa_cons (pv 5) (pa_cons (pv 6) (pa_cons (pv 8) pa_nil))))))))
  (pss_one (ps_ret (pe_lst (pa_cons (pe_tup (pa_cons (pv 6) (pa_cons (pv 9) pa_nil))) (pa_cons (pe_tup (pa_cons (pv 7) (pa_cons (pv 10) pa_nil))) pa_nil)))))))) pss_nil)
  (pss_one (ps_ret (pe_lst pa_nil))))), ?_⟩
  rintro C xs R cl ⟨m, e, rfl, ok, q⟩
  cases e with
  | own w n p k a =>
    simp only [ents] at q
    refine ds_ifs (ut_test (pu_in (ss := ["made", "treated"]) (pu_ixT (pu_var rfl) pu_int rfl) (pu_tup (ds := [.str "made", .str "treated"]) (au_cons pu_str (au_cons pu_str au_nil)) (lk rfl)))) (fun hc => ?_) (fun hc => ?_)
    · rw [if_pos (of_decide_eq_true hc)] at q
      refine ds_tgt (pu_var rfl) (tg_tup (tgl_cons tg_name (tgl_cons tg_name (tgl_cons tg_name (tgl_cons tg_name (tgl_cons tg_name tgl_nil))))) rfl) ?_
      exact ds_retseq (ds_ret (pu_fz (ds := [_]) (pl_lst (au_cons (pu_tup (ds := [_, _]) (au_cons (pu_var rfl) (au_cons (pu_tup (ds := [_, _, _, _]) (au_cons (pu_var rfl) (au_cons (pu_var rfl) (au_cons (pu_var rfl) (au_cons (pu_var rfl) au_nil)))) (lk rfl)) au_nil)) (lk rfl)) au_nil) (lk rfl))) (rt_dat cl Mor.refl q))
    · have hc := of_decide_eq_false hc
      rw [if_neg hc] at q
      have hw : decide (w = ("handed" : Str)) = false := by
        have h := ok.1
        simp only [List.mem_cons, List.not_mem_nil, or_false, not_or] at h hc
        rcases h with rfl | rfl | rfl
        · exact absurd rfl hc.1
        · exact absurd rfl hc.2
        · decide
      refine ds_nextseq (ds_ifs (ut_test (pu_eqStr (pu_ixT (pu_var rfl) pu_int rfl) pu_str)) (fun hc => ?_) (fun hc => ?_))
      · rw [hw] at hc
        cases hc
      · exact ds_nextseq (ds_ret (pu_fz (ds := []) (pl_lst au_nil (lk rfl))) (rt_dat cl Mor.refl q))
  | hand n g t k a b =>
    refine ds_ifs (ut_test (pu_in (ss := ["made", "treated"]) (pu_ixT (pu_var rfl) pu_int rfl) (pu_tup (ds := [.str "made", .str "treated"]) (au_cons pu_str (au_cons pu_str au_nil)) (lk rfl)))) (fun hc => ?_) (fun hc => ?_)
    · exact absurd hc (by decide)
    refine ds_nextseq (ds_ifs (ut_test (pu_eqStr (pu_ixT (pu_var rfl) pu_int rfl) pu_str)) (fun hc => ?_) (fun hc => ?_))
    · refine ds_tgt (pu_tail (pu_var rfl)) (tg_tup (tgl_cons tg_name (tgl_cons tg_name (tgl_cons tg_name (tgl_cons tg_name (tgl_cons tg_name (tgl_cons tg_name tgl_nil)))))) rfl) ?_
      refine ds_set (pu_tup (ds := [_, _, _, _, _, _]) (au_cons (pu_var rfl) (au_cons pu_str (au_cons (pu_var rfl) (au_cons (pu_var rfl) (au_cons (pu_var rfl) (au_cons (pu_var rfl) au_nil)))))) (lk rfl)) ?_
      refine ds_set (pu_tup (ds := [_, _, _, _, _, _]) (au_cons (pu_var rfl) (au_cons pu_str (au_cons (pu_var rfl) (au_cons (pu_var rfl) (au_cons (pu_var rfl) (au_cons (pu_var rfl) au_nil)))))) (lk rfl)) ?_
      exact ds_retseq (ds_ret (pu_fz (ds := [_, _]) (pl_lst (au_cons (pu_tup (ds := [_, _]) (au_cons (pu_var rfl) (au_cons (pu_var rfl) au_nil)) (lk rfl)) (au_cons (pu_tup (ds := [_, _]) (au_cons (pu_var rfl) (au_cons (pu_var rfl) au_nil)) (lk rfl)) au_nil)) (lk rfl))) (rt_dat cl Mor.refl q))
    · exact absurd hc (by decide)
  | pass g t k a =>
    refine ds_ifs (ut_test (pu_in (ss := ["made", "treated"]) (pu_ixT (pu_var rfl) pu_int rfl) (pu_tup (ds := [.str "made", .str "treated"]) (au_cons pu_str (au_cons pu_str au_nil)) (lk rfl)))) (fun hc => ?_) (fun hc => ?_)
    · exact absurd hc (by decide)
    refine ds_nextseq (ds_ifs (ut_test (pu_eqStr (pu_ixT (pu_var rfl) pu_int rfl) pu_str)) (fun hc => ?_) (fun hc => ?_))
    · exact absurd hc (by decide)
    · exact ds_nextseq (ds_ret (pu_fz (ds := []) (pl_lst au_nil (lk rfl))) (rt_dat cl Mor.refl q))
  | sec w p k a =>
    have hw : decide (w ∈ (["made", "treated"] : List Str)) = false ∧ decide (w = ("handed" : Str)) = false := by
      have h : w ∈ (["dumped", "conjured"] : List Str) := ok
      simp only [List.mem_cons, List.not_mem_nil, or_false] at h
      rcases h with rfl | rfl <;> decide
    refine ds_ifs (ut_test (pu_in (ss := ["made", "treated"]) (pu_ixT (pu_var rfl) pu_int rfl) (pu_tup (ds := [.str "made", .str "treated"]) (au_cons pu_str (au_cons pu_str au_nil)) (lk rfl)))) (fun hc => ?_) (fun hc => ?_)
    · rw [hw.1] at hc
      cases hc
    refine ds_nextseq (ds_ifs (ut_test (pu_eqStr (pu_ixT (pu_var rfl) pu_int rfl) pu_str)) (fun hc => ?_) (fun hc => ?_))
    · rw [hw.2] at hc
      cases hc
    · exact ds_nextseq (ds_ret (pu_fz (ds := []) (pl_lst au_nil (lk rfl))) (rt_dat cl Mor.refl q))
def rel_honest_files : Rel := fun C xs R => ∃ (ps : List PyData) (es : List Evt), xs = [T ps, Ls (es.map evD)] ∧ ps.length ≤ 100 ∧ es.length ≤ 1000 ∧ (∀ e ∈ es, EvOk ps.length e) ∧ R (T ((filesM ps.length es).map .tuple)) C
abbrev s_honest_files : Stmt := topS 3
abbrev N_honest_files : List Str := ["parties", "history", "files", "_", "event", "party", "entry", "file"]
theorem sc_honest_files : FnScope N_honest_files ["parties", "history"] (defScope s_honest_files) := ⟨rfl, rfl, rfl, by decide +kernel, rfl, by decide +kernel, by decide +kernel⟩

theorem ok_honest_files {f_honest_files : Addr} {fd_honest_files : FuncData} (F_honest_files : Fun K "honest_files" "honest_files" s_honest_files f_honest_files fd_honest_files) {f_entries_of : Addr} {fd_entries_of : FuncData} (F_entries_of : Fun K "entries_of" "entries_of" s_entries_of f_entries_of fd_entries_of) (G_entries_of : FnOk P w K mg base CX0 1 f_entries_of fd_entries_of ["event"] (SpG K rel_entries_of)) (b_entries_of : Binds K fd_entries_of ["event"] []) (g_entries_of : mg "entries_of" = some (.ref f_entries_of)) (z_tuple : mg "tuple" = none) : FnOk P w K mg base CX0 2 f_honest_files fd_honest_files ["parties", "history"] (SpG K rel_honest_files) := by
  refine ok_def F_honest_files sc_honest_files (fun C xs R h => by obtain ⟨_, _, rfl, _⟩ := h; rfl) (fun cdv A outer s H E hr => ?_)
  refine ⟨_, (pss_cons (ps_setLc (i := 2) (own := [("_", 3)]) rfl sc_honest_files.nd rfl rfl (sw_true rfl rfl rfl (by decide +kernel)) (kx_pTup K rfl (pv 0)) (blkOk_by (N := N_honest_files) (sc := defScope s_honest_files) (by decide +kernel)) (fun _ _ _ _ _ => (pg_name (i := 3) sc_honest_files.nd rfl (Or.inl rfl))) (fun _ _ _ _ _ => pts_nil) (fun _ _ _ _ _ => (pe_lst pa_nil)))
  (pss_cons (ps_for PassesOwn.never rfl (kx_pList K rfl (pv 1)) (pg_name (i := 4) sc_honest_files.nd rfl (Or.inl rfl)) (pss_one (ps_for PassesOwn.never rfl (kx_pList K rfl (pe_call G_entries_of (hr.mono (by decide)) (by rfl) g_entries_of F_entries_of.kp b_entries_of .nil pass0 (pa_cons (pv 4) pa_nil))) (pg_tup rfl (pgs_cons (pg_name (i := 5) sc_honest_files.nd rfl (Or.inl rfl)) (pgs_cons (pg_name (i := 6) sc_honest_files.nd rfl (Or.inl rfl)) pgs_nil))) (pss_one (ps_expr (pe_bm PySem.F.plainAttrs_list PySem.F.slot_list_append PySem.F.type_list_append mt_append (pe_ix (kx_ixL K rfl) (pv 2) (pv 5) (fun _ _ => rfl)) (pa_cons (pv 6) pa_nil)))))))
  (pss_one (ps_ret (pe_callTy (kx_tuple K rfl) (by rfl) z_tuple PyProof.Rows.boot_tuple (pa_cons (pe_lc (own := [("file", 7)]) rfl sc_honest_files.nd (kx_pList K rfl (pv 2)) (blkOk_by (N := N_honest_files) (sc := defScope s_honest_files) (by decide +kernel)) (fun _ _ _ _ _ => (pg_name (i := 7) sc_honest_files.nd rfl (Or.inl rfl))) (fun _ _ _ _ _ => pts_nil) (fun _ _ _ _ _ => (pe_callTy (kx_tuple K rfl) (by rfl) z_tuple PyProof.Rows.boot_tuple (pa_cons (pv 7) pa_nil)))) pa_nil)))))), ?_⟩
  rintro C xs R cl ⟨pd, es, rfl, hp, hl, ok, q⟩
  refine ds_setE (ev_grid (r := []) (ui_tupD (pu_var rfl)) (by simp; omega) (fun _ _ => trivial) fun i x C' m hx => ⟨_, [3], by simp, tg_name, pl_lst au_nil (lk rfl)⟩) ?_
  rintro _ C1 ⟨p, ps, rfl, G⟩
  rw [List.length_map] at G
  refine ds_forS (fun i Δ C' => Δ = [some (T pd), some (Ls (es.map evD)), some (.ref p), none, none, none, none, none] ∧ Grid C C' p ps (filesM pd.length (es.take i)))
    (ui_listD (pu_var rfl)) ⟨_, ?_, rfl, G⟩ (fun _ _ _ _ => trivial) ?_ ?_
  · exact ⟨rfl, rfl, rfl, trivial⟩
  · rintro i x Δ C' hx ⟨rfl, G⟩
    obtain ⟨d, hd, rfl⟩ := datget hx
    obtain ⟨e, he, rfl⟩ := mapget hd
    have eok := ok e (List.mem_of_getElem? he)
    have il : i < es.length := (List.getElem?_eq_some_iff.mp he).1
    refine ⟨_, _, tg_name, ?_⟩
    refine ds_for1 (fun j Δ C' => Δ = [some (T pd), some (Ls (es.map evD)), some (.ref p), none, some (.dat (evD e)), none, none, none] ∧ Grid C C' p ps (((ents e).take j).foldl putM (filesM pd.length (es.take i))))
      (ui_listD (pu_call (au_cons (pu_var rfl) au_nil) ⟨pd.length, e, rfl, eok, rfl, rfl⟩)) ⟨_, ?_, rfl, G⟩ (fun _ _ _ _ => trivial) ?_ ?_
    · exact ⟨rfl, rfl, rfl, rfl, trivial⟩
    · rintro j x Δ C' hx ⟨rfl, G⟩
      obtain ⟨d, hd, rfl⟩ := datget hx
      obtain ⟨pr, hpr, rfl⟩ := mapget hd
      have pk := ents_ok eok pr (List.mem_of_getElem? hpr)
      have fl : (((ents e).take j).foldl putM (filesM pd.length (es.take i))).length = pd.length := by rw [putsM_len, filesM_len]
      obtain ⟨q1, hq1, hq2, hq3⟩ := G.at_ (i := pr.1.toNat) (by omega)
      rw [show ((pr.1.toNat : Nat) : Int) = pr.1 by omega] at hq3
      have rb := (puts_rb ((ents e).take j) (filesM_rb pd.length (es.take i))) pr.1.toNat
      refine ⟨_, _, tg_tup (tgl_cons tg_name (tgl_cons tg_name tgl_nil)) rfl, ?_⟩
      refine ds_drop1 (ev_app (pu_ixM (pu_var rfl) (pu_var rfl) G.top hq3) (pu_var rfl) hq2 ?_) ?_
      · rw [List.length_map]
        have := ents_le e
        simp only [List.length_take] at rb
        omega
      · rintro _ _ ⟨rfl, rfl⟩
        refine ⟨_, ?_, rfl, ?_⟩
        · exact ⟨rfl, rfl, rfl, rfl, trivial⟩
        · rw [List.take_add_one, hpr, List.foldl_append]
          have := G.put hq1 (((((ents e).take j).foldl putM (filesM pd.length (es.take i))).getD pr.1.toNat []) ++ [pr.2])
          rw [List.map_append] at this
          exact this
    · rintro Γ' Δ C' l ⟨rfl, G⟩
      refine ⟨_, ?_, rfl, ?_⟩
      rotate_left
      · rw [filesM_snoc _ _ _ _ he]
        rw [List.length_map, List.length_map, List.take_length] at G
        exact G
      · refine Le.trans _ _ _ ?_ l
        exact ⟨rfl, rfl, rfl, trivial⟩
  · rintro Δ C' ⟨rfl, G⟩
    rw [List.length_map, List.length_map, List.take_length] at G
    exact ds_ret (pu_cb (au_cons (pu_rows G (pu_var rfl) (by rw [filesM_len]; omega) (Nat.le_of_ble_eq_true rfl)) au_nil) rc_tupL) (rt_dat cl G.mor q)
end
end K21

namespace K21
open PySem PySem.Spec PyProof.Rows L2 Ab
def keepM : Evt → Bool
  | .hand n g t k a s => !decide (g = t)
  | _ => true
def e0 : Evt := .pass 0 0 0 0
theorem str_ok {w : Str} {l : List Str} (h : w ∈ l) (k : l.all PyData.strOk = true) : PyData.strOk w = true := List.all_eq_true.mp k w h
theorem ev_sh {m : Nat} {e : Evt} (h : EvOk m e) : Sh 1 (evD e) := by
  cases e with
  | own w n p k a => exact sh_tup (sh_cons (sh_str (str_ok h.1 (by decide +kernel))) (sh_cons sh_int (sh_cons sh_int (sh_cons sh_int (sh_cons sh_int sh_nil)))))
  | hand n g t k a s => exact sh_tup (sh_cons (sh_str (by decide +kernel)) (sh_cons sh_int (sh_cons sh_int (sh_cons sh_int (sh_cons sh_int (sh_cons sh_int (sh_cons sh_bool sh_nil)))))))
  | pass g t k a => exact sh_tup (sh_cons (sh_str (by decide +kernel)) (sh_cons sh_int (sh_cons sh_int (sh_cons sh_int (sh_cons sh_int sh_nil)))))
  | sec w p k a => exact sh_tup (sh_cons (sh_str (str_ok (show w ∈ (["dumped", "conjured"] : List Str) from h) (by decide +kernel))) (sh_cons sh_int (sh_cons sh_int (sh_cons sh_int sh_nil))))
theorem ent_sh {m : Nat} {e : Evt} (h : EvOk m e) : ∀ p ∈ ents e, Sh 1 p.2 := by
  intro p hp
  cases e with
  | own w n q k a =>
    simp only [ents] at hp
    split at hp
    · rename_i hw
      rw [List.mem_singleton] at hp
      subst hp
      exact sh_tup (sh_cons sh_int (sh_cons (sh_str (str_ok hw (by decide +kernel))) (sh_cons sh_int (sh_cons sh_int sh_nil))))
    · cases hp
  | hand n g t k a s =>
    simp only [ents, List.mem_cons, List.not_mem_nil, or_false] at hp
    rcases hp with rfl | rfl
    · exact sh_tup (sh_cons sh_int (sh_cons (sh_str (by decide +kernel)) (sh_cons sh_int (sh_cons sh_int (sh_cons sh_int (sh_cons sh_bool sh_nil))))))
    · exact sh_tup (sh_cons sh_int (sh_cons (sh_str (by decide +kernel)) (sh_cons sh_int (sh_cons sh_int (sh_cons sh_int (sh_cons sh_bool sh_nil))))))
  | pass g t k a => cases hp
  | sec w q k a => cases hp
def Rs (fs : List (List PyData)) : Prop := ∀ f ∈ fs, ∀ d ∈ f, Sh 1 d
theorem getD_mem {fs : List (List PyData)} {k : Nat} {d : PyData} (h : d ∈ fs.getD k []) : ∃ f ∈ fs, d ∈ f := by
  rw [List.getD_eq_getElem?_getD] at h
  cases e : fs[k]? with
  | none => rw [e] at h; cases h
  | some f => rw [e] at h; exact ⟨f, List.mem_of_getElem? e, h⟩
theorem putM_rs {fs : List (List PyData)} {p : Int × PyData} (h : Rs fs) (hp : Sh 1 p.2) : Rs (putM fs p) := fun f hf d hd => by
  rcases List.mem_or_eq_of_mem_set hf with hf | rfl
  · exact h f hf d hd
  · rcases List.mem_append.mp hd with hd | hd
    · obtain ⟨f, h1, h2⟩ := getD_mem hd
      exact h f h1 d h2
    · rw [List.mem_singleton.mp hd]
      exact hp
theorem puts_rs : ∀ (ps : List (Int × PyData)) {fs : List (List PyData)}, Rs fs → (∀ p ∈ ps, Sh 1 p.2) → Rs (ps.foldl putM fs)
  | [], _, h, _ => h
  | p :: ps, fs, h, k => puts_rs ps (putM_rs h (k p (by simp))) fun q hq => k q (by simp [hq])
theorem files_rs {m : Nat} : ∀ (es : List Evt) {fs : List (List PyData)}, Rs fs → (∀ e ∈ es, EvOk m e) → Rs (es.foldl (fun fs e => (ents e).foldl putM fs) fs)
  | [], _, h, _ => h
  | e :: es, fs, h, k => files_rs es (puts_rs _ h (ent_sh (k e (by simp)))) fun q hq => k q (by simp [hq])
theorem filesM_rs {m n : Nat} {es : List Evt} (k : ∀ e ∈ es, EvOk m e) : Rs (filesM n es) := files_rs es (fun f hf d hd => by
  rw [(List.mem_replicate.mp hf).2] at hd
  cases hd) k
section
variable {P : Program} {w : World} {K : PySem.W.Frag} {mg : Str → Option Value} {base : Heap}
def rel__law_files : Rel := fun C xs R => ∃ (ps : List PyData) (es : List Evt), xs = [T ps, Ls (es.map evD)] ∧ ps.length ≤ 100 ∧ es.length ≤ 1000 ∧ (∀ e ∈ es, EvOk ps.length e) ∧ R (Ls ((filesM ps.length es).map .tuple)) C
abbrev s__law_files : Stmt := topS 8
abbrev N__law_files : List Str := ["parties", "history", "files", "party", "event", "file"]
theorem sc__law_files : FnScope N__law_files ["parties", "history"] (defScope s__law_files) := ⟨rfl, rfl, rfl, by decide +kernel, rfl, by decide +kernel, by decide +kernel⟩

theorem ok__law_files {f__law_files : Addr} {fd__law_files : FuncData} (F__law_files : Fun K "_law_files" "_law_files" s__law_files f__law_files fd__law_files) (z_tuple : mg "tuple" = none) : FnOk P w K mg base CX0 1 f__law_files fd__law_files ["parties", "history"] (SpG K rel__law_files) := by
  refine ok_def F__law_files sc__law_files (fun C xs R h => by obtain ⟨_, _, rfl, _⟩ := h; rfl) (fun cdv A outer s H E hr => ?_)
  refine ⟨_, (pss_cons (ps_setLc (i := 2) (own := [("party", 3)]) rfl sc__law_files.nd rfl rfl (sw_true rfl rfl rfl (by decide +kernel)) (kx_pTup K rfl (pv 0)) (blkOk_by (N := N__law_files) (sc := defScope s__law_files) (by decide +kernel)) (fun _ _ _ _ _ => (pg_name (i := 3) sc__law_files.nd rfl (Or.inl rfl))) (fun _ _ _ _ _ => pts_nil) (fun _ _ _ _ _ => (pe_lst pa_nil)))
  (pss_cons (ps_for PassesOwn.never rfl (kx_pList K rfl (pv 1)) (pg_name (i := 4) sc__law_files.nd rfl (Or.inl rfl)) (pss_one (ps_if (pt_cmpR (kx_in K rfl) (pe_ix (kx_ixT K rfl) (pv 4) pe_int (fun _ _ => rfl)) (pe_tup (pa_cons pe_str (pa_cons pe_str pa_nil))) (by rfl)) (pss_one (ps_expr (pe_bm PySem.F.plainAttrs_list PySem.F.slot_list_append PySem.F.type_list_append mt_append (pe_ix (kx_ixL K rfl) (pv 2) (pe_ix (kx_ixT K rfl) (pv 4) pe_int (fun _ _ => rfl)) (fun _ _ => rfl)) (pa_cons (pe_tup (pa_cons (pe_ix (kx_ixT K rfl) (pv 4) pe_int (fun _ _ => rfl)) (pa_cons (pe_ix (kx_ixT K rfl) (pv 4) pe_int (fun _ _ => rfl)) (pa_cons (pe_ix (kx_ixT K rfl) (pv 4) pe_int (fun _ _ => rfl)) (pa_cons (pe_ix (kx_ixT K rfl) (pv 4) pe_int (fun _ _ => rfl)) pa_nil))))) pa_nil)))) (pss_one (ps_if (pt_cmpR op_eq (pe_ix (kx_ixT K rfl) (pv 4) pe_int (fun _ _ => rfl)) pe_str (nomark _)) (pss_cons (ps_expr (pe_bm PySem.F.plainAttrs_list PySem.F.slot_list_append PySem.F.type_list_append mt_append (pe_ix (kx_ixL K rfl) (pv 2) (pe_ix (kx_ixT K rfl) (pv 4) pe_int (fun _ _ => rfl)) (fun _ _ => rfl)) (pa_cons (pe_tup (pa_cons (pe_ix (kx_ixT K rfl) (pv 4) pe_int (fun _ _ => rfl)) (pa_cons pe_str (pa_cons (pe_ix (kx_ixT K rfl) (pv 4) pe_int (fun _ _ => rfl)) (pa_cons (pe_ix (kx_ixT K rfl) (pv 4) pe_int (fun _ _ => rfl)) (pa_cons (pe_ix (kx_ixT K rfl) (pv 4) pe_int (fun _ _ => rfl)) (pa_cons (pe_ix (kx_ixT K rfl) (pv 4) pe_int (fun _ _ => rfl)) pa_nil))))))) pa_nil)))
  (pss_one (ps_expr (pe_bm PySem.F.plainAttrs_list PySem.F.slot_list_append PySem.F.type_list_append mt_append (pe_ix (kx_ixL K rfl) (pv 2) (pe_ix (kx_ixT K rfl) (pv 4) pe_int (fun _ _ => rfl)) (fun _ _ => rfl)) (pa_cons (pe_tup (pa_cons (pe_ix (kx_ixT K rfl) (pv 4) pe_int (fun _ _ => rfl)) (pa_cons pe_str (pa_cons (pe_ix (kx_ixT K rfl) (pv 4) pe_int (fun _ _ => rfl)) (pa_cons (pe_ix (kx_ixT K rfl) (pv 4) pe_int (fun _ _ => rfl)) (pa_cons (pe_ix (kx_ixT K rfl) (pv 4) pe_int (fun _ _ => rfl)) (pa_cons (pe_ix (kx_ixT K rfl) (pv 4) pe_int (fun _ _ => rfl)) pa_nil))))))) pa_nil))))) pss_nil)))))
  (pss_one (ps_ret (pe_lc (own := [("file", 5)]) rfl sc__law_files.nd (kx_pList K rfl (pv 2)) (blkOk_by (N := N__law_files) (sc := defScope s__law_files) (by decide +kernel)) (fun _ _ _ _ _ => (pg_name (i := 5) sc__law_files.nd rfl (Or.inl rfl))) (fun _ _ _ _ _ => pts_nil) (fun _ _ _ _ _ => (pe_callTy (kx_tuple K rfl) (by rfl) z_tuple PyProof.Rows.boot_tuple (pa_cons (pv 5) pa_nil)))))))), ?_⟩
  rintro C xs R cl ⟨pd, es, rfl, hp, hl, ok, q⟩
  refine ds_setE (ev_grid (r := []) (ui_tupD (pu_var rfl)) (by simp; omega) (fun _ _ => trivial) fun i x C' m hx => ⟨_, [3], by simp, tg_name, pl_lst au_nil (lk rfl)⟩) ?_
  rintro _ C1 ⟨p, ps, rfl, G⟩
  rw [List.length_map] at G
  refine ds_forS (fun i Δ C' => Δ = [some (T pd), some (Ls (es.map evD)), some (.ref p), none, none, none] ∧ Grid C C' p ps (filesM pd.length (es.take i)))
    (ui_listD (pu_var rfl)) ⟨_, ?_, rfl, G⟩ (fun _ _ _ _ => trivial) ?_ ?_
  · exact ⟨rfl, rfl, rfl, trivial⟩
  · rintro i x Δ C' hx ⟨rfl, G⟩
    obtain ⟨d, hd, rfl⟩ := datget hx
    obtain ⟨e, he, rfl⟩ := mapget hd
    have eok := ok e (List.mem_of_getElem? he)
    have il : i < es.length := (List.getElem?_eq_some_iff.mp he).1
    have fl := filesM_len pd.length (es.take i)
    have rb := filesM_rb pd.length (es.take i)
    have sn := filesM_snoc pd.length es i e he
    have tl : (es.take i).length ≤ 1000 := by simp; omega
    refine ⟨_, _, tg_name, ?_⟩
    have fin : ∀ C2, Grid C C2 p ps ((ents e).foldl putM (filesM pd.length (es.take i))) → ∃ Δ, Le Δ [some (T pd), some (Ls (es.map evD)), some (.ref p), none, some (.dat (evD e)), none] ∧ Δ = [some (T pd), some (Ls (es.map evD)), some (.ref p), none, none, none] ∧ Grid C C2 p ps (filesM pd.length (es.take (i + 1))) := by
      intro C2 G2
      rw [sn]
      refine ⟨_, ?_, rfl, G2⟩
      exact ⟨rfl, rfl, rfl, trivial⟩
    cases e with
    | own w n a k z =>
      simp only [ents] at fin
      refine ds_if (ut_test (pu_in (ss := ["made", "treated"]) (pu_ixT (pu_var rfl) pu_int rfl) (pu_tup (ds := [.str "made", .str "treated"]) (au_cons pu_str (au_cons pu_str au_nil)) (lk rfl)))) (fun hc => ?_) (fun hc => ?_)
      · rw [if_pos (of_decide_eq_true hc)] at fin
        obtain ⟨q1, hq1, hq2, hq3⟩ := G.at_ (i := a.toNat) (by have := eok.2; omega)
        rw [show ((a.toNat : Nat) : Int) = a by have := eok.2; omega] at hq3
        refine ds_drop1 (ev_app (pu_ixM (pu_var rfl) (pu_ixT (pu_var rfl) pu_int rfl) G.top hq3) (pu_tup (ds := [_, _, _, _]) (au_cons (pu_ixT (pu_var rfl) pu_int rfl) (au_cons (pu_ixT (pu_var rfl) pu_int rfl) (au_cons (pu_ixT (pu_var rfl) pu_int rfl) (au_cons (pu_ixT (pu_var rfl) pu_int rfl) au_nil)))) (lk rfl)) hq2 (by rw [List.length_map]; have := rb a.toNat; omega)) ?_
        rintro _ _ ⟨rfl, rfl⟩
        refine fin _ ?_
        have := G.put hq1 ((filesM pd.length (es.take i)).getD a.toNat [] ++ [.tuple [.int n, .str w, .int k, .int z]])
        rw [List.map_append] at this
        exact this
      · have hc := of_decide_eq_false hc
        rw [if_neg hc] at fin
        have hw : decide (w = ("handed" : Str)) = false := by
          have h := eok.1
          simp only [List.mem_cons, List.not_mem_nil, or_false, not_or] at h hc
          rcases h with rfl | rfl | rfl
          · exact absurd rfl hc.1
          · exact absurd rfl hc.2
          · decide
        refine ds_if (ut_test (pu_eqStr (pu_ixT (pu_var rfl) pu_int rfl) pu_str)) (fun hc => ?_) (fun hc => ?_)
        · rw [hw] at hc
          cases hc
        · exact ds_next (fin _ G)
    | hand n g t k a b =>
      refine ds_if (ut_test (pu_in (ss := ["made", "treated"]) (pu_ixT (pu_var rfl) pu_int rfl) (pu_tup (ds := [.str "made", .str "treated"]) (au_cons pu_str (au_cons pu_str au_nil)) (lk rfl)))) (fun hc => absurd hc (by decide)) (fun hc => ?_)
      refine ds_if (ut_test (pu_eqStr (pu_ixT (pu_var rfl) pu_int rfl) pu_str)) (fun hc => ?_) (fun hc => absurd hc (by decide))
      obtain ⟨g0, g1, t0, t1⟩ := eok
      obtain ⟨q1, hq1, hq2, hq3⟩ := G.at_ (i := g.toNat) (by omega)
      rw [show ((g.toNat : Nat) : Int) = g by omega] at hq3
      refine ds_drop (ev_app (pu_ixM (pu_var rfl) (pu_ixT (pu_var rfl) pu_int rfl) G.top hq3) (pu_tup (ds := [_, _, _, _, _, _]) (au_cons (pu_ixT (pu_var rfl) pu_int rfl) (au_cons pu_str (au_cons (pu_ixT (pu_var rfl) pu_int rfl) (au_cons (pu_ixT (pu_var rfl) pu_int rfl) (au_cons (pu_ixT (pu_var rfl) pu_int rfl) (au_cons (pu_ixT (pu_var rfl) pu_int rfl) au_nil)))))) (lk rfl)) hq2 (by rw [List.length_map]; have := rb g.toNat; omega)) ?_
      rintro _ _ ⟨rfl, rfl⟩
      have G2 : Grid C _ p ps (putM (filesM pd.length (es.take i)) (g, .tuple [.int n, .str "gave", .int k, .int a, .int t, .bool b])) := G.put hq1 _
      rw [List.map_append] at G2
      have rb2 := putM_rb (g, .tuple [.int n, .str "gave", .int k, .int a, .int t, .bool b]) rb
      have fl2 := putM_len (filesM pd.length (es.take i)) (g, .tuple [.int n, .str "gave", .int k, .int a, .int t, .bool b])
      obtain ⟨q1, hq1, hq2, hq3⟩ := G2.at_ (i := t.toNat) (by omega)
      rw [show ((t.toNat : Nat) : Int) = t by omega] at hq3
      refine ds_drop1 (ev_app (pu_ixM (pu_var rfl) (pu_ixT (pu_var rfl) pu_int rfl) G2.top hq3) (pu_tup (ds := [_, _, _, _, _, _]) (au_cons (pu_ixT (pu_var rfl) pu_int rfl) (au_cons pu_str (au_cons (pu_ixT (pu_var rfl) pu_int rfl) (au_cons (pu_ixT (pu_var rfl) pu_int rfl) (au_cons (pu_ixT (pu_var rfl) pu_int rfl) (au_cons (pu_ixT (pu_var rfl) pu_int rfl) au_nil)))))) (lk rfl)) hq2 (by rw [List.length_map]; have := rb2 t.toNat; omega)) ?_
      rintro _ _ ⟨rfl, rfl⟩
      refine fin _ ?_
      have G3 : Grid C _ p ps (putM (putM (filesM pd.length (es.take i)) (g, .tuple [.int n, .str "gave", .int k, .int a, .int t, .bool b])) (t, .tuple [.int n, .str "took", .int k, .int a, .int g, .bool b])) := G2.put hq1 _
      rw [List.map_append] at G3
      exact G3
    | pass g t k a =>
      refine ds_if (ut_test (pu_in (ss := ["made", "treated"]) (pu_ixT (pu_var rfl) pu_int rfl) (pu_tup (ds := [.str "made", .str "treated"]) (au_cons pu_str (au_cons pu_str au_nil)) (lk rfl)))) (fun hc => absurd hc (by decide)) (fun hc => ?_)
      exact ds_if (ut_test (pu_eqStr (pu_ixT (pu_var rfl) pu_int rfl) pu_str)) (fun hc => absurd hc (by decide)) (fun hc => ds_next (fin _ G))
    | sec w a k z =>
      have hw : decide (w ∈ (["made", "treated"] : List Str)) = false ∧ decide (w = ("handed" : Str)) = false := by
        have h : w ∈ (["dumped", "conjured"] : List Str) := eok
        simp only [List.mem_cons, List.not_mem_nil, or_false] at h
        rcases h with rfl | rfl <;> decide
      refine ds_if (ut_test (pu_in (ss := ["made", "treated"]) (pu_ixT (pu_var rfl) pu_int rfl) (pu_tup (ds := [.str "made", .str "treated"]) (au_cons pu_str (au_cons pu_str au_nil)) (lk rfl)))) (fun hc => ?_) (fun hc => ?_)
      · rw [hw.1] at hc
        cases hc
      refine ds_if (ut_test (pu_eqStr (pu_ixT (pu_var rfl) pu_int rfl) pu_str)) (fun hc => ?_) (fun hc => ds_next (fin _ G))
      rw [hw.2] at hc
      cases hc
  · rintro Δ C' ⟨rfl, G⟩
    rw [List.length_map, List.length_map, List.take_length] at G
    exact ds_ret (pu_rows G (pu_var rfl) (by rw [filesM_len]; omega) (Nat.le_of_ble_eq_true rfl)) (rt_dat cl G.mor q)
def rel_law : Rel := fun C xs R => ∃ (ns : List Int), xs = [Ls (ns.map .int)] ∧ R (B true) C
abbrev s_law : Stmt := topS 11
abbrev N_law : List Str := ["script", "draws", "parties", "history", "event", "passed"]
theorem sc_law : FnScope N_law ["script"] (defScope s_law) := ⟨rfl, rfl, rfl, by decide +kernel, rfl, by decide +kernel, by decide +kernel⟩

theorem ok_law {f_law : Addr} {fd_law : FuncData} (F_law : Fun K "law" "law" s_law f_law fd_law) {f__law_cell : Addr} {fd__law_cell : FuncData} (F__law_cell : Fun K "_law_cell" "_law_cell" s__law_cell f__law_cell fd__law_cell) (G__law_cell : FnOk P w K mg base CX0 1 f__law_cell fd__law_cell ["script", "k"] (SpG K rel__law_cell)) (b__law_cell : Binds K fd__law_cell ["script", "k"] []) (g__law_cell : mg "_law_cell" = some (.ref f__law_cell)) {f__law_draws : Addr} {fd__law_draws : FuncData} (F__law_draws : Fun K "_law_draws" "_law_draws" s__law_draws f__law_draws fd__law_draws) (G__law_draws : FnOk P w K mg base CX0 1 f__law_draws fd__law_draws ["cell", "count"] (SpG K rel__law_draws)) (b__law_draws : Binds K fd__law_draws ["cell", "count"] []) (g__law_draws : mg "_law_draws" = some (.ref f__law_draws)) {f__law_events : Addr} {fd__law_events : FuncData} (F__law_events : Fun K "_law_events" "_law_events" s__law_events f__law_events fd__law_events) (G__law_events : FnOk P w K mg base CX0 2 f__law_events fd__law_events ["script", "at", "most", "many", "kinds"] (SpG K rel__law_events)) (b__law_events : Binds K fd__law_events ["script", "at", "most", "many", "kinds"] []) (g__law_events : mg "_law_events" = some (.ref f__law_events)) {f__law_files : Addr} {fd__law_files : FuncData} (F__law_files : Fun K "_law_files" "_law_files" s__law_files f__law_files fd__law_files) (G__law_files : FnOk P w K mg base CX0 1 f__law_files fd__law_files ["parties", "history"] (SpG K rel__law_files)) (b__law_files : Binds K fd__law_files ["parties", "history"] []) (g__law_files : mg "_law_files" = some (.ref f__law_files)) {f__law_parties : Addr} {fd__law_parties : FuncData} (F__law_parties : Fun K "_law_parties" "_law_parties" s__law_parties f__law_parties fd__law_parties) (G__law_parties : FnOk P w K mg base CX0 1 f__law_parties fd__law_parties ["draws"] (SpG K rel__law_parties)) (b__law_parties : Binds K fd__law_parties ["draws"] []) (g__law_parties : mg "_law_parties" = some (.ref f__law_parties)) {f_honest_files : Addr} {fd_honest_files : FuncData} (F_honest_files : Fun K "honest_files" "honest_files" s_honest_files f_honest_files fd_honest_files) (G_honest_files : FnOk P w K mg base CX0 2 f_honest_files fd_honest_files ["parties", "history"] (SpG K rel_honest_files)) (b_honest_files : Binds K fd_honest_files ["parties", "history"] []) (g_honest_files : mg "honest_files" = some (.ref f_honest_files)) (z_len : mg "len" = none) (z_list : mg "list" = none) (z_tuple : mg "tuple" = none) : FnOk P w K mg base CX0 3 f_law fd_law ["script"] (SpG K rel_law) := by
  refine ok_def F_law sc_law (fun C xs R h => by obtain ⟨_, rfl, _⟩ := h; rfl) (fun cdv A outer s H E hr => ?_)
  refine ⟨_, (pss_cons (ps_set (i := 1) sc_law.nd rfl (Or.inl rfl) (pe_call G__law_draws (hr.mono (by decide)) (by rfl) g__law_draws F__law_draws.kp b__law_draws .nil pass0 (pa_cons (pe_call G__law_cell (hr.mono (by decide)) (by rfl) g__law_cell F__law_cell.kp b__law_cell .nil pass0 (pa_cons (pv 0) (pa_cons pe_int pa_nil))) (pa_cons pe_int pa_nil))))
  (pss_cons (ps_set (i := 2) sc_law.nd rfl (Or.inl rfl) (pe_call G__law_parties (hr.mono (by decide)) (by rfl) g__law_parties F__law_parties.kp b__law_parties .nil pass0 (pa_cons (pv 1) pa_nil)))
  (pss_cons (ps_set (i := 3) sc_law.nd rfl (Or.inl rfl) (pe_call G__law_events (hr.mono (by decide)) (by rfl) g__law_events F__law_events.kp b__law_events .nil pass0 (pa_cons (pv 0) (pa_cons pe_int (pa_cons pe_int (pa_cons (pe_callB (kx_len K rfl) (by rfl) z_len PySem.boot_len (pa_cons (pv 2) pa_nil)) (pa_cons (pe_op op_add pe_int (pe_op op_mod (pe_ix (kx_ixL K rfl) (pv 1) pe_int (fun _ _ => rfl)) pe_int)) pa_nil)))))))
  (pss_cons (ps_setLc (i := 3) (own := [("event", 4)]) rfl sc_law.nd rfl rfl (sw_true rfl rfl rfl (by decide +kernel)) (kx_pList K rfl (pv 3)) (blkOk_by (N := N_law) (sc := defScope s_law) (by decide +kernel)) (fun _ _ _ _ _ => (pg_name (i := 4) sc_law.nd rfl (Or.inl rfl))) (fun _ _ _ _ _ => (pts_one (PW.pt (pw_or (pt_cmpR op_ne (pe_ix (kx_ixT K rfl) (pv 4) pe_int (fun _ _ => rfl)) pe_str (nomark _)) (pw_or1 (pt_cmpR op_ne (pe_ix (kx_ixT K rfl) (pv 4) pe_int (fun _ _ => rfl)) (pe_ix (kx_ixT K rfl) (pv 4) pe_int (fun _ _ => rfl)) (nomark _))))))) (fun _ _ _ _ _ => (pv 4)))
  (pss_cons (ps_set (i := 5) sc_law.nd rfl (Or.inl rfl) (pe_callTy (kx_list K rfl) (by rfl) z_list PyProof.Rows.boot_list (pa_cons (pv 3) pa_nil)))
  (pss_one (ps_ret (pe_and (pe_cmpR (kx_eqD K rfl hr.units) (pe_call G_honest_files (hr.mono (by decide)) (by rfl) g_honest_files F_honest_files.kp b_honest_files .nil pass0 (pa_cons (pv 2) (pa_cons (pv 5) pa_nil))) (pe_callTy (kx_tuple K rfl) (by rfl) z_tuple PyProof.Rows.boot_tuple (pa_cons (pe_call G__law_files (hr.mono (by decide)) (by rfl) g__law_files F__law_files.kp b__law_files .nil pass0 (pa_cons (pv 2) (pa_cons (pv 3) pa_nil))) pa_nil)) (nomark _)) (pe_one (pe_cmpR (kx_eqD K rfl hr.units) (pv 5) (pv 3) (nomark _))))))))))), ?_⟩
  rintro C xs R cl ⟨ns, rfl, q⟩
  refine ds_set (pu_call (au_cons (pu_call (au_cons (pu_var rfl) (au_cons pu_int au_nil)) ⟨ns, 0, rfl, by decide, rfl, rfl⟩) (au_cons pu_int au_nil)) ⟨_, 16, rfl, by decide, by decide, rfl, rfl⟩) ?_
  have dl : (drawsM (cellM ns 0) 16).length = 16 := by
    have := drawsM_len (c := cellM ns 0) (n := 16) (by decide)
    omega
  generalize drawsM (cellM ns 0) 16 = draws at dl
  refine ds_set (pu_call (au_cons (pu_var rfl) au_nil) ⟨draws, rfl, by omega, rfl, rfl⟩) ?_
  have pl := partiesM_len draws
  have p0 : 0 ≤ draws.getD 0 0 % 4 := Int.emod_nonneg _ (by decide)
  have p1 : draws.getD 0 0 % 4 < 4 := Int.emod_lt_of_pos _ (by decide)
  have k0 : 0 ≤ draws.getD (Int.toNat 13) 0 % 3 := Int.emod_nonneg _ (by decide)
  generalize partiesM draws = parties at pl
  refine ds_set (pu_call (au_cons (pu_var rfl) (au_cons pu_int (au_cons pu_int (au_cons (pu_cb (au_cons (pu_var rfl) au_nil) rc_lenT) (au_cons (pu_add pu_int (pu_mod (pu_ixI (pu_var rfl) pu_int (by decide) (by omega)) pu_int (by decide))) au_nil))))) ⟨ns, 1, 40, parties.length, _, rfl, by decide, by decide, by decide, by omega, by omega, rfl, rfl⟩) ?_
  have eok : ∀ e ∈ eventsM ns 1 40 parties.length (1 + draws.getD (Int.toNat 13) 0 % 3), EvOk parties.length e := evSt_ok ns 1 _ (by omega) _
  have elen : (eventsM ns 1 40 parties.length (1 + draws.getD (Int.toNat 13) 0 % 3)).length ≤ 40 := by
    unfold eventsM
    rw [evSt_len]
    have c0 : 0 ≤ cellM ns 1 % (40 + 1) := Int.emod_nonneg _ (by decide)
    have c1 : cellM ns 1 % (40 + 1) < 40 + 1 := Int.emod_lt_of_pos _ (by decide)
    omega
  generalize eventsM ns 1 40 parties.length (1 + draws.getD (Int.toNat 13) 0 % 3) = es at eok elen
  refine ds_set (x := Ls ((es.filter keepM).map evD)) ?_ ?_
  · have fe := filter_range e0 keepM evD es
    rw [← fe, show es.length = ((es.map evD).map Ax.dat).length by simp]
    refine pu_lc (fun i => keepM (es.getD i e0)) (fun i => evD (es.getD i e0)) (ui_listD (pu_var rfl)) (by simp; omega) (fun _ _ => trivial) (fun i x C' m hx => ?_)
    · obtain ⟨d, hd, rfl⟩ := datget hx
      obtain ⟨e, he, rfl⟩ := mapget hd
      have eg : es.getD i e0 = e := by rw [List.getD_eq_getElem?_getD, he]; rfl
      have ek := eok e (List.mem_of_getElem? he)
      rw [eg]
      refine ⟨_, [4], by simp, tg_name, ?_, fun _ => pu_var rfl⟩
      cases e with
      | own w n a k z =>
        have hw : w ≠ ("handed" : Str) := by
          have h := ek.1
          simp only [List.mem_cons, List.not_mem_nil, or_false] at h
          rcases h with rfl | rfl | rfl <;> decide
        refine ut_is (ut_or (a := true) (b := true) (ut_is (ut_test (pu_neStr (pu_ixT (pu_var rfl) pu_int rfl) pu_str)) ?_) (fun h => by cases h)) rfl
        rw [decide_eq_false hw]
        rfl
      | hand n g t k a s => exact ut_is (ut_or (a := false) (ut_is (ut_test (pu_neStr (pu_ixT (pu_var rfl) pu_int rfl) pu_str)) (by decide)) fun h => ut_test (pu_neI (pu_ixT (pu_var rfl) pu_int rfl) (pu_ixT (pu_var rfl) pu_int rfl))) rfl
      | pass g t k a => exact ut_is (ut_or (a := true) (b := true) (ut_is (ut_test (pu_neStr (pu_ixT (pu_var rfl) pu_int rfl) pu_str)) (by decide)) (fun h => by cases h)) rfl
      | sec w a k z =>
        have hw : w ≠ ("handed" : Str) := by
          have h : w ∈ (["dumped", "conjured"] : List Str) := ek
          simp only [List.mem_cons, List.not_mem_nil, or_false] at h
          rcases h with rfl | rfl <;> decide
        refine ut_is (ut_or (a := true) (b := true) (ut_is (ut_test (pu_neStr (pu_ixT (pu_var rfl) pu_int rfl) pu_str)) ?_) (fun h => by cases h)) rfl
        rw [decide_eq_false hw]
        rfl
  have fok : ∀ e ∈ es.filter keepM, EvOk parties.length e := fun e h => eok e (List.mem_filter.mp h).1
  have flen : (es.filter keepM).length ≤ 1000 := Nat.le_trans (List.length_filter_le _ _) (by omega)
  generalize es.filter keepM = hs at fok flen
  refine ds_set (pu_fz (pl_listD (au_cons (pu_var rfl) au_nil) (.inl rfl))) ?_
  have s1 : Sh 3 (PyData.tuple ((filesM parties.length hs).map .tuple)) := sh_tup fun d hd => by
    obtain ⟨f, hf, rfl⟩ := List.mem_map.mp hd
    exact sh_tup (filesM_rs fok f hf)
  have s2 : Sh 2 (PyData.list (hs.map evD)) := sh_list fun d hd => by
    obtain ⟨e, he, rfl⟩ := List.mem_map.mp hd
    exact ev_sh (fok e he)
  refine ds_ret (pu_andV (pu_eqD (pu_call (au_cons (pu_var rfl) (au_cons (pu_var rfl) au_nil)) ⟨parties, hs, rfl, by omega, flen, fok, rfl, rfl⟩) (pu_cb (au_cons (pu_call (au_cons (pu_var rfl) (au_cons (pu_var rfl) au_nil)) ⟨parties, hs, rfl, by omega, flen, fok, rfl, rfl⟩) au_nil) rc_tupL) s1.sh s1.sh) fun h => (pu_eqD (pu_var rfl) (pu_var rfl) s2.sh s2.sh)) ?_
  rw [s1.eq, s2.eq]
  exact rt_dat cl Mor.refl q
end
end K21

namespace K21
open PySem PySem.Spec PyProof.Rows L2 Ab
theorem all_mk {l : PySem.W.OpenLaw} {w : World} {K : PySem.W.Frag} {h : Heap} {mg : Str → Option Value} {fa : Addr} (X : K.In h) (G : h.Ns mainGlobals mg) (hfa : mg "law" = some (.ref fa))
    {f__law_cell : Addr} {od__law_cell an__law_cell : Option Addr} {sl__law_cell : Array (Option Value)} {oc__law_cell kV__law_cell dc__law_cell pm__law_cell cd__law_cell ct__law_cell : Value} (a__law_cell : PySem.W.nsIn K mainGlobals "_law_cell" = some (some (.ref f__law_cell))) (l__law_cell : K.lookup f__law_cell = some ⟨oc__law_cell, od__law_cell, .func (PySem.W.fnOf "_law_cell" "_law_cell" (defArgs s__law_cell) (defBody s__law_cell) (defScope s__law_cell) .none kV__law_cell dc__law_cell pm__law_cell an__law_cell cd__law_cell ct__law_cell), sl__law_cell⟩) (c__law_cell : PySem.W.codeIn K cd__law_cell "_law_cell" = true) (k__law_cell : PySem.W.keepIn K (.ref f__law_cell) = true)
    {f__law_draws : Addr} {od__law_draws an__law_draws : Option Addr} {sl__law_draws : Array (Option Value)} {oc__law_draws kV__law_draws dc__law_draws pm__law_draws cd__law_draws ct__law_draws : Value} (a__law_draws : PySem.W.nsIn K mainGlobals "_law_draws" = some (some (.ref f__law_draws))) (l__law_draws : K.lookup f__law_draws = some ⟨oc__law_draws, od__law_draws, .func (PySem.W.fnOf "_law_draws" "_law_draws" (defArgs s__law_draws) (defBody s__law_draws) (defScope s__law_draws) .none kV__law_draws dc__law_draws pm__law_draws an__law_draws cd__law_draws ct__law_draws), sl__law_draws⟩) (c__law_draws : PySem.W.codeIn K cd__law_draws "_law_draws" = true) (k__law_draws : PySem.W.keepIn K (.ref f__law_draws) = true)
    {f__law_parties : Addr} {od__law_parties an__law_parties : Option Addr} {sl__law_parties : Array (Option Value)} {oc__law_parties kV__law_parties dc__law_parties pm__law_parties cd__law_parties ct__law_parties : Value} (a__law_parties : PySem.W.nsIn K mainGlobals "_law_parties" = some (some (.ref f__law_parties))) (l__law_parties : K.lookup f__law_parties = some ⟨oc__law_parties, od__law_parties, .func (PySem.W.fnOf "_law_parties" "_law_parties" (defArgs s__law_parties) (defBody s__law_parties) (defScope s__law_parties) .none kV__law_parties dc__law_parties pm__law_parties an__law_parties cd__law_parties ct__law_parties), sl__law_parties⟩) (c__law_parties : PySem.W.codeIn K cd__law_parties "_law_parties" = true) (k__law_parties : PySem.W.keepIn K (.ref f__law_parties) = true)
    {f__law_event : Addr} {od__law_event an__law_event : Option Addr} {sl__law_event : Array (Option Value)} {oc__law_event kV__law_event dc__law_event pm__law_event cd__law_event ct__law_event : Value} (a__law_event : PySem.W.nsIn K mainGlobals "_law_event" = some (some (.ref f__law_event))) (l__law_event : K.lookup f__law_event = some ⟨oc__law_event, od__law_event, .func (PySem.W.fnOf "_law_event" "_law_event" (defArgs s__law_event) (defBody s__law_event) (defScope s__law_event) .none kV__law_event dc__law_event pm__law_event an__law_event cd__law_event ct__law_event), sl__law_event⟩) (c__law_event : PySem.W.codeIn K cd__law_event "_law_event" = true) (k__law_event : PySem.W.keepIn K (.ref f__law_event) = true)
    {f__law_events : Addr} {od__law_events an__law_events : Option Addr} {sl__law_events : Array (Option Value)} {oc__law_events kV__law_events dc__law_events pm__law_events cd__law_events ct__law_events : Value} (a__law_events : PySem.W.nsIn K mainGlobals "_law_events" = some (some (.ref f__law_events))) (l__law_events : K.lookup f__law_events = some ⟨oc__law_events, od__law_events, .func (PySem.W.fnOf "_law_events" "_law_events" (defArgs s__law_events) (defBody s__law_events) (defScope s__law_events) .none kV__law_events dc__law_events pm__law_events an__law_events cd__law_events ct__law_events), sl__law_events⟩) (c__law_events : PySem.W.codeIn K cd__law_events "_law_events" = true) (k__law_events : PySem.W.keepIn K (.ref f__law_events) = true)
    {f_entries_of : Addr} {od_entries_of an_entries_of : Option Addr} {sl_entries_of : Array (Option Value)} {oc_entries_of kV_entries_of dc_entries_of pm_entries_of cd_entries_of ct_entries_of : Value} (a_entries_of : PySem.W.nsIn K mainGlobals "entries_of" = some (some (.ref f_entries_of))) (l_entries_of : K.lookup f_entries_of = some ⟨oc_entries_of, od_entries_of, .func (PySem.W.fnOf "entries_of" "entries_of" (defArgs s_entries_of) (defBody s_entries_of) (defScope s_entries_of) .none kV_entries_of dc_entries_of pm_entries_of an_entries_of cd_entries_of ct_entries_of), sl_entries_of⟩) (c_entries_of : PySem.W.codeIn K cd_entries_of "entries_of" = true) (k_entries_of : PySem.W.keepIn K (.ref f_entries_of) = true)
    {f_honest_files : Addr} {od_honest_files an_honest_files : Option Addr} {sl_honest_files : Array (Option Value)} {oc_honest_files kV_honest_files dc_honest_files pm_honest_files cd_honest_files ct_honest_files : Value} (a_honest_files : PySem.W.nsIn K mainGlobals "honest_files" = some (some (.ref f_honest_files))) (l_honest_files : K.lookup f_honest_files = some ⟨oc_honest_files, od_honest_files, .func (PySem.W.fnOf "honest_files" "honest_files" (defArgs s_honest_files) (defBody s_honest_files) (defScope s_honest_files) .none kV_honest_files dc_honest_files pm_honest_files an_honest_files cd_honest_files ct_honest_files), sl_honest_files⟩) (c_honest_files : PySem.W.codeIn K cd_honest_files "honest_files" = true) (k_honest_files : PySem.W.keepIn K (.ref f_honest_files) = true)
    {f__law_files : Addr} {od__law_files an__law_files : Option Addr} {sl__law_files : Array (Option Value)} {oc__law_files kV__law_files dc__law_files pm__law_files cd__law_files ct__law_files : Value} (a__law_files : PySem.W.nsIn K mainGlobals "_law_files" = some (some (.ref f__law_files))) (l__law_files : K.lookup f__law_files = some ⟨oc__law_files, od__law_files, .func (PySem.W.fnOf "_law_files" "_law_files" (defArgs s__law_files) (defBody s__law_files) (defScope s__law_files) .none kV__law_files dc__law_files pm__law_files an__law_files cd__law_files ct__law_files), sl__law_files⟩) (c__law_files : PySem.W.codeIn K cd__law_files "_law_files" = true) (k__law_files : PySem.W.keepIn K (.ref f__law_files) = true)
    {f_law : Addr} {od_law an_law : Option Addr} {sl_law : Array (Option Value)} {oc_law kV_law dc_law pm_law cd_law ct_law : Value} (a_law : PySem.W.nsIn K mainGlobals "law" = some (some (.ref f_law))) (l_law : K.lookup f_law = some ⟨oc_law, od_law, .func (PySem.W.fnOf "law" "law" (defArgs s_law) (defBody s_law) (defScope s_law) .none kV_law dc_law pm_law an_law cd_law ct_law), sl_law⟩) (c_law : PySem.W.codeIn K cd_law "law" = true) (k_law : PySem.W.keepIn K (.ref f_law) = true)
    (z_len : PySem.W.nsIn K mainGlobals "len" = some none)
    (z_list : PySem.W.nsIn K mainGlobals "list" = some none)
    (z_max : PySem.W.nsIn K mainGlobals "max" = some none)
    (z_range : PySem.W.nsIn K mainGlobals "range" = some none)
    (z_tuple : PySem.W.nsIn K mainGlobals "tuple" = some none) :
    ∃ fd : FuncData, (∀ (s : Shared) (v : Value), BindsTo s fd ⟨[v], []⟩ [("script", v)]) ∧ ∀ base : Heap, K.In base → base.Ns mainGlobals mg → FnOk l.prog w K mg base CX0 3 fa fd ["script"] (SpG K rel_law) := by
  have e := hfa.symm.trans (PySem.W.mg_of X G a_law)
  cases e
  have F__law_cell := fun_mk (st := s__law_cell) l__law_cell c__law_cell k__law_cell
  have b__law_cell := F__law_cell.binds (ps := ["script", "k"]) fun _ _ _ _ _ _ us hl => match us, hl with | [_, _], _ => rfl
  have g__law_cell := PySem.W.mg_of X G a__law_cell
  have F__law_draws := fun_mk (st := s__law_draws) l__law_draws c__law_draws k__law_draws
  have b__law_draws := F__law_draws.binds (ps := ["cell", "count"]) fun _ _ _ _ _ _ us hl => match us, hl with | [_, _], _ => rfl
  have g__law_draws := PySem.W.mg_of X G a__law_draws
  have F__law_parties := fun_mk (st := s__law_parties) l__law_parties c__law_parties k__law_parties
  have b__law_parties := F__law_parties.binds (ps := ["draws"]) fun _ _ _ _ _ _ us hl => match us, hl with | [_], _ => rfl
  have g__law_parties := PySem.W.mg_of X G a__law_parties
  have F__law_event := fun_mk (st := s__law_event) l__law_event c__law_event k__law_event
  have b__law_event := F__law_event.binds (ps := ["draws", "many", "kinds", "number"]) fun _ _ _ _ _ _ us hl => match us, hl with | [_, _, _, _], _ => rfl
  have g__law_event := PySem.W.mg_of X G a__law_event
  have F__law_events := fun_mk (st := s__law_events) l__law_events c__law_events k__law_events
  have b__law_events := F__law_events.binds (ps := ["script", "at", "most", "many", "kinds"]) fun _ _ _ _ _ _ us hl => match us, hl with | [_, _, _, _, _], _ => rfl
  have g__law_events := PySem.W.mg_of X G a__law_events
  have F_entries_of := fun_mk (st := s_entries_of) l_entries_of c_entries_of k_entries_of
  have b_entries_of := F_entries_of.binds (ps := ["event"]) fun _ _ _ _ _ _ us hl => match us, hl with | [_], _ => rfl
  have g_entries_of := PySem.W.mg_of X G a_entries_of
  have F_honest_files := fun_mk (st := s_honest_files) l_honest_files c_honest_files k_honest_files
  have b_honest_files := F_honest_files.binds (ps := ["parties", "history"]) fun _ _ _ _ _ _ us hl => match us, hl with | [_, _], _ => rfl
  have g_honest_files := PySem.W.mg_of X G a_honest_files
  have F__law_files := fun_mk (st := s__law_files) l__law_files c__law_files k__law_files
  have b__law_files := F__law_files.binds (ps := ["parties", "history"]) fun _ _ _ _ _ _ us hl => match us, hl with | [_, _], _ => rfl
  have g__law_files := PySem.W.mg_of X G a__law_files
  have F_law := fun_mk (st := s_law) l_law c_law k_law
  have z_len := PySem.W.mg_none_of X G z_len
  have z_list := PySem.W.mg_none_of X G z_list
  have z_max := PySem.W.mg_none_of X G z_max
  have z_range := PySem.W.mg_none_of X G z_range
  have z_tuple := PySem.W.mg_none_of X G z_tuple
  refine ⟨PySem.W.fnOf "law" "law" (defArgs s_law) (defBody s_law) (defScope s_law) .none kV_law dc_law pm_law an_law cd_law ct_law, fun s v => .of_eq rfl, fun base _ _ => ?_⟩
  have G__law_cell := ok__law_cell (P := l.prog) (w := w) (mg := mg) (base := base) F__law_cell z_len
  have G__law_draws := ok__law_draws (P := l.prog) (w := w) (mg := mg) (base := base) F__law_draws z_range
  have G__law_parties := ok__law_parties (P := l.prog) (w := w) (mg := mg) (base := base) F__law_parties z_range z_tuple
  have G__law_event := ok__law_event (P := l.prog) (w := w) (mg := mg) (base := base) F__law_event
  have G__law_events := ok__law_events (P := l.prog) (w := w) (mg := mg) (base := base) F__law_events F__law_cell G__law_cell b__law_cell g__law_cell F__law_draws G__law_draws b__law_draws g__law_draws F__law_event G__law_event b__law_event g__law_event z_max z_range
  have G_entries_of := ok_entries_of (P := l.prog) (w := w) (mg := mg) (base := base) F_entries_of
  have G_honest_files := ok_honest_files (P := l.prog) (w := w) (mg := mg) (base := base) F_honest_files F_entries_of G_entries_of b_entries_of g_entries_of z_tuple
  have G__law_files := ok__law_files (P := l.prog) (w := w) (mg := mg) (base := base) F__law_files z_tuple
  exact ok_law F_law F__law_cell G__law_cell b__law_cell g__law_cell F__law_draws G__law_draws b__law_draws g__law_draws F__law_events G__law_events b__law_events g__law_events F__law_files G__law_files b__law_files g__law_files F__law_parties G__law_parties b__law_parties g__law_parties F_honest_files G_honest_files b_honest_files g_honest_files z_len z_list z_tuple
end K21
open PySem PySem.W PyProof.Rows
set_option maxHeartbeats 0 in
theorem PySem.Challenge.cw_notetrail_k21_honest_files_holds : PySem.Challenge.rw_notetrail_k21_honest_files.Holds := by
  w_on; o_law; k_head; (case hw => w_witness2)
  k_fill
  refine L2.walk_of (l := PySem.Challenge.rw_notetrail_k21_honest_files) (n := 63) (k := 3) (x := "script") (CX := fun _ => L2.CX0) (sp := fun w => Ab.SpG _ K21.rel_law) rfl (by decide) rfl ⟨rfl, by decide, by decide⟩ (fun w h Y => PySem.W.kIn_of Y) ?F (fun _ _ a ns hl _ hS => Ab.sp_law hS fun C R q => ⟨ns, rfl, q⟩) (fun _ _ _ _ _ h => h)
  case F =>
    intro w mg fa h KX G hmg
    refine' K21.all_mk KX G hmg ?a__law_cell ?l__law_cell ?c__law_cell ?k__law_cell ?a__law_draws ?l__law_draws ?c__law_draws ?k__law_draws ?a__law_parties ?l__law_parties ?c__law_parties ?k__law_parties ?a__law_event ?l__law_event ?c__law_event ?k__law_event ?a__law_events ?l__law_events ?c__law_events ?k__law_events ?a_entries_of ?l_entries_of ?c_entries_of ?k_entries_of ?a_honest_files ?l_honest_files ?c_honest_files ?k_honest_files ?a__law_files ?l__law_files ?c__law_files ?k__law_files ?a_law ?l_law ?c_law ?k_law ?z_len ?z_list ?z_max ?z_range ?z_tuple
    (case a__law_cell => k_is); (case l__law_cell => k_is); (case c__law_cell => k_is); (case k__law_cell => k_is); (case a__law_draws => k_is); (case l__law_draws => k_is); (case c__law_draws => k_is); (case k__law_draws => k_is); (case a__law_parties => k_is); (case l__law_parties => k_is); (case c__law_parties => k_is); (case k__law_parties => k_is); (case a__law_event => k_is); (case l__law_event => k_is); (case c__law_event => k_is); (case k__law_event => k_is); (case a__law_events => k_is); (case l__law_events => k_is); (case c__law_events => k_is); (case k__law_events => k_is); (case a_entries_of => k_is); (case l_entries_of => k_is); (case c_entries_of => k_is); (case k_entries_of => k_is); (case a_honest_files => k_is); (case l_honest_files => k_is); (case c_honest_files => k_is); (case k_honest_files => k_is); (case a__law_files => k_is); (case l__law_files => k_is); (case c__law_files => k_is); (case k__law_files => k_is); (case a_law => k_is); (case l_law => k_is); (case c_law => k_is); (case k_law => k_is); (case z_len => k_is); (case z_list => k_is); (case z_max => k_is); (case z_range => k_is); (case z_tuple => k_is)

