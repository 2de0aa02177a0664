import Derived.Test.YtaokdhebbnkheaaPlain
import Derived.Test.YtaokdhebbnkheaaPlainC
namespace Go.Proofs.Ytaokdhebbnkheaa
open Go.RowKit
theorem closeB_comm (a b : Bx) : closeB a b = closeB b a := by
  rw [Bool.eq_iff_iff]
  simp only [closeB, cellsB, levelB, tickB, Bool.and_eq_true, decide_eq_true_eq]
  constructor <;> (rintro ⟨⟨⟨⟨h1, h2⟩, h3⟩, h4⟩, h5⟩; exact ⟨⟨⟨⟨h2, h1⟩, by omega⟩, by omega⟩, by omega⟩)
theorem near_comm (la lb : List Bx) : (la.any fun a => lb.any (closeB a)) = lb.any fun b => la.any (closeB b) := by
  rw [Bool.eq_iff_iff]
  simp only [List.any_eq_true]
  constructor
  · rintro ⟨a, ha, b, hb, h⟩; exact ⟨b, hb, a, ha, by rw [closeB_comm]; exact h⟩
  · rintro ⟨b, hb, a, ha, h⟩; exact ⟨a, ha, b, hb, by rw [closeB_comm]; exact h⟩
theorem cutL_cutL (f : Int) (hf : 9 ≤ f) : ∀ l : List Bx, cutL f (cutL 9 l) = cutL f l
  | [] => rfl
  | b :: r => by
    by_cases h9 : 9 ≤ b.o
    · have e1 : cutL 9 (b :: r) = cutOne 9 b :: cutL 9 r := by simp [cutL, h9]
      rw [e1]
      by_cases h : f ≤ b.o
      · have e2 : cutL f (cutOne 9 b :: cutL 9 r) = cutOne f (cutOne 9 b) :: cutL f (cutL 9 r) := by simp [cutL, cutOne, h]
        have e3 : cutL f (b :: r) = cutOne f b :: cutL f r := by simp [cutL, h]
        have e4 : cutOne f (cutOne 9 b) = cutOne f b := by
          have : max (max b.i 9) f = max b.i f := by omega
          simp [cutOne, this]
        rw [e2, e3, e4, cutL_cutL f hf r]
      · have e2 : cutL f (cutOne 9 b :: cutL 9 r) = cutL f (cutL 9 r) := by simp [cutL, cutOne, h]
        have e3 : cutL f (b :: r) = cutL f r := by simp [cutL, h]
        rw [e2, e3, cutL_cutL f hf r]
    · have e1 : cutL 9 (b :: r) = cutL 9 r := by simp [cutL, h9]
      have e3 : cutL f (b :: r) = cutL f r := by simp [cutL, show ¬ f ≤ b.o by omega]
      rw [e1, e3, cutL_cutL f hf r]
theorem outs_le : ∀ (r : List Bx) (a : Bx), pairsB (a :: r) = true → ∀ b ∈ r, a.o ≤ b.o
  | [], _, _, b, hb => by simp at hb
  | c :: r, a, h, b, hb => by
    rw [pairsB, Bool.and_eq_true] at h
    have hac : a.o ≤ c.o := by
      have := h.1
      simp only [behindB, decide_eq_true_eq] at this
      omega
    rcases List.mem_cons.1 hb with rfl | hb
    · exact hac
    · exact Int.le_trans hac (outs_le r c h.2 b hb)
theorem cutL_all (f : Int) : ∀ l : List Bx, (∀ b ∈ l, f ≤ b.o) → cutL f l = l.map (cutOne f)
  | [], _ => rfl
  | b :: r, h => by
    rw [cutL, if_pos (h b (by simp)), cutL_all f r (fun c hc => h c (by simp [hc]))]; rfl
theorem cut_suffix (f : Int) : ∀ l : List Bx, pairsB l = true → ∃ k, cutL f l = (l.drop k).map (cutOne f) ∧ ∀ b ∈ l.drop k, f ≤ b.o
  | [], _ => ⟨0, rfl, by simp⟩
  | a :: r, h => by
    by_cases ha : f ≤ a.o
    · have hall : ∀ b ∈ a :: r, f ≤ b.o := fun b hb => by
        rcases List.mem_cons.1 hb with rfl | hb
        · exact ha
        · exact Int.le_trans ha (outs_le r a h b hb)
      exact ⟨0, by rw [cutL_all f _ hall]; rfl, hall⟩
    · have hr : pairsB r = true := by
        rw [pairsB_iff] at h ⊢
        intro i hi
        exact h (i + 1) (by simpa using hi)
      obtain ⟨k, h1, h2⟩ := cut_suffix f r hr
      exact ⟨k + 1, by rw [cutL, if_neg ha, h1]; rfl, h2⟩
theorem behind_cut {f : Int} {a b : Bx} (h : behindB a b = true) (ha : f ≤ a.o) : behindB (cutOne f a) (cutOne f b) = true := by
  simp only [behindB, decide_eq_true_eq] at h ⊢
  obtain ⟨h1, h2, h3, h4, h5, h6, h7, h8, h9⟩ := h
  refine ⟨h1, h2, h3, h4, h5, h6, ?_, h8, ?_⟩
  · show max a.i f ≤ max b.i f; omega
  · show max b.i f ≤ a.o + 1; omega
theorem boxOk_cut {f : Int} {a : Bx} (h : boxOkB a = true) (ha : f ≤ a.o) : boxOkB (cutOne f a) = true := by
  simp only [boxOkB, decide_eq_true_eq] at h ⊢
  obtain ⟨h1, h2, h3, h4, h5, h6, h7, h8, h9, h10⟩ := h
  refine ⟨h1, h2, h3, h4, h5, h6, h7, ?_, ?_, h10⟩
  · show 0 ≤ max a.i f; omega
  · show max a.i f ≤ a.o; omega
/-- A cut of a tube that is ok, and not empty, is ok. -/
theorem tubeOk_cut (fl : List Fx) (f : Int) (l : List Bx) (h : tubeOkB fl l = true) (hne : cutL f l ≠ []) : tubeOkB fl (cutL f l) = true := by
  simp only [tubeOkB, Bool.and_eq_true] at h
  obtain ⟨hl, ha, hp, hd⟩ := h
  obtain ⟨k, he, hk⟩ := cut_suffix f l hp
  rw [he] at hne ⊢
  have hkl : k < l.length := by
    rcases Nat.lt_or_ge k l.length with h | h
    · exact h
    · exfalso; apply hne; rw [List.drop_eq_nil_of_le h]; rfl
  have hlen : ((l.drop k).map (cutOne f)).length = l.length - k := by rw [List.length_map, List.length_drop]
  simp only [lenB, decide_eq_true_eq] at hl
  simp only [tubeOkB, Bool.and_eq_true]
  refine ⟨?_, ?_, ?_, ?_⟩
  · rw [hlen]; simp only [lenB, decide_eq_true_eq]; omega
  · rw [List.all_eq_true] at ha ⊢
    intro x hx
    obtain ⟨b, hb, rfl⟩ := List.mem_map.1 hx
    exact boxOk_cut (ha b (List.mem_of_mem_drop hb)) (hk b hb)
  · rw [pairsB_iff] at hp ⊢
    intro i hi
    rw [hlen] at hi
    rw [List.getElem_map, List.getElem_map, List.getElem_drop, List.getElem_drop]
    have := hp (k + i) (by omega)
    refine behind_cut (by simpa [Nat.add_assoc] using this) (hk _ ?_)
    rw [List.mem_iff_getElem]
    exact ⟨i, by rw [List.length_drop]; omega, by rw [List.getElem_drop]⟩
  · have h1 : l.length - 1 < l.length := by omega
    rw [landsB_eq fl l h1] at hd
    have h2 : ((l.drop k).map (cutOne f)).length - 1 < ((l.drop k).map (cutOne f)).length := by rw [hlen]; omega
    rw [landsB_eq fl _ h2]
    have e : ((l.drop k).map (cutOne f))[((l.drop k).map (cutOne f)).length - 1] = cutOne f l[l.length - 1] := by
      rw [List.getElem_map, List.getElem_drop]
      congr 2
      rw [hlen]; omega
    rw [e]
    exact hd
end Go.Proofs.Ytaokdhebbnkheaa
