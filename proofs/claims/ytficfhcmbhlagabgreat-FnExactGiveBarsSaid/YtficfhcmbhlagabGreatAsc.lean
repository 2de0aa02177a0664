import Derived.Test.YtficfhcmbhlagabGreatNobody
namespace Go.Proofs.YtficfhcmbhlagabGreat
open Go.RowKit
set_option maxRecDepth 100000 in
theorem bl_irr : ∀ a : List UInt8, Op.bytesLess a a = false := by
  intro a
  induction a with
  | nil => rfl
  | cons x xs ih => simp [Op.bytesLess, ih]
set_option maxRecDepth 100000 in
theorem bl_cons (x y : UInt8) (xs ys : List UInt8) : Op.bytesLess (x :: xs) (y :: ys) = true ↔ x.toNat < y.toNat ∨ (x.toNat = y.toNat ∧ Op.bytesLess xs ys = true) := by
  simp only [Op.bytesLess, Bool.or_eq_true, decide_eq_true_eq, Bool.and_eq_true, beq_iff_eq, UInt8.lt_iff_toNat_lt, ← UInt8.toNat_inj]
set_option maxRecDepth 100000 in
theorem bl_trans : ∀ a b c : List UInt8, Op.bytesLess a b = true → Op.bytesLess b c = true → Op.bytesLess a c = true := by
  intro a
  induction a with
  | nil => intro b c h1 h2; cases b <;> cases c <;> simp_all [Op.bytesLess]
  | cons x xs ih =>
    intro b c h1 h2
    cases b with
    | nil => simp [Op.bytesLess] at h1
    | cons y ys =>
      cases c with
      | nil => simp [Op.bytesLess] at h2
      | cons z zs =>
        rw [bl_cons] at h1 h2 ⊢
        rcases h1 with h1 | ⟨e1, h1⟩ <;> rcases h2 with h2 | ⟨e2, h2⟩
        · exact .inl (by omega)
        · exact .inl (by omega)
        · exact .inl (by omega)
        · exact .inr ⟨by omega, ih _ _ h1 h2⟩
set_option maxRecDepth 100000 in
theorem asc_lt {l : List Hx} (h : ascG Hx.n l = true) {i : Nat} : ∀ (d : Nat) (hj : i + d + 1 < l.length), ltB (l[i]'(by omega)).n (l[i + d + 1]).n = true
  | 0, hj => (ascG_iff Hx.n l).1 h i hj
  | d + 1, hj => bl_trans _ _ _ (asc_lt h d (by omega)) ((ascG_iff Hx.n l).1 h (i + d + 1) hj)
set_option maxRecDepth 100000 in
theorem apart_iff (l : List Hx) : ∀ m, m ≤ l.length → (apartTo l m = true ↔ ∀ i j (_hj : j < m) (hm : j < l.length) (hi : i < j), meetsB (l[i]'(by omega)) l[j] = false)
  | 0, _ => by simp [apartTo]
  | m + 1, hm => by
    rw [apartTo, Bool.and_eq_true, apart_iff l m (by omega), apartAt, hxget_eq l m (by omega)]
    constructor
    · rintro ⟨h1, h2⟩ i j hj hjl hi
      rcases (by omega : j < m ∨ j = m) with h | rfl
      · exact h1 i j h hjl hi
      · have h3 : (l.take j).any (fun g => meetsB g l[j]) = false := by simpa using h2
        rw [List.any_eq_false] at h3
        have := h3 (l[i]'(by omega)) (List.mem_take_iff_getElem.2 ⟨i, by omega, rfl⟩)
        simpa using this
    · intro h
      refine ⟨fun i j hj hjl hi => h i j (by omega) hjl hi, ?_⟩
      have h3 : (l.take m).any (fun g => meetsB g l[m]) = false := by
        rw [List.any_eq_false]
        intro x hx
        obtain ⟨i, hi, rfl⟩ := List.mem_take_iff_getElem.1 hx
        have := h i m (by omega) (by omega) (by omega)
        simpa using this
      rw [h3]; rfl
set_option maxRecDepth 100000 in
theorem nobody_apart {l : List Hx} (h : ascG Hx.n l = true) : nobodyB l = apartTo l l.length := by
  rw [Bool.eq_iff_iff, apart_iff l l.length (Nat.le_refl _)]
  constructor
  · intro hn i j _ hjl hi
    have h1 := List.all_eq_true.1 (List.all_eq_true.1 hn (l[i]'(by omega)) (List.getElem_mem _)) l[j] (List.getElem_mem _)
    have h2 := asc_lt h (i := i) (j - i - 1) (by omega)
    simp only [show i + (j - i - 1) + 1 = j by omega] at h2
    rw [h2] at h1
    simpa using h1
  · intro ha
    refine List.all_eq_true.2 fun a hal => List.all_eq_true.2 fun c hcl => ?_
    obtain ⟨i, hi, rfl⟩ := List.getElem_of_mem hal
    obtain ⟨j, hj, rfl⟩ := List.getElem_of_mem hcl
    rcases (by omega : i < j ∨ i = j ∨ j < i) with hlt | rfl | hgt
    · rw [ha i j hj hj hlt]; simp
    · have : ltB l[i].n l[i].n = false := bl_irr _
      rw [this]; rfl
    · have h2 := asc_lt h (i := j) (i - j - 1) (by omega)
      simp only [show j + (i - j - 1) + 1 = i by omega] at h2
      cases h3 : ltB l[i].n l[j].n
      · rfl
      · have h4 : ltB l[j].n l[j].n = true := bl_trans _ _ _ h2 h3
        have : ltB l[j].n l[j].n = false := bl_irr _
        rw [this] at h4; cases h4
end Go.Proofs.YtficfhcmbhlagabGreat
