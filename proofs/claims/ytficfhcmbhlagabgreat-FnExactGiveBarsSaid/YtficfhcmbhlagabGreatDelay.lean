import Derived.Test.YtficfhcmbhlagabGreatBarred
namespace Go.Proofs.YtficfhcmbhlagabGreat
open Go.RowKit
def laterOne (d : Int) (b : Bx) : Bx := { b with i := b.i + d, o := b.o + d }
def laterL (d : Int) (t : List Bx) : List Bx := t.map (laterOne d)
theorem laterL_length (d : Int) (t : List Bx) : (laterL d t).length = t.length := by simp [laterL]
theorem laterL_get (d : Int) (t : List Bx) (i : Nat) (h : i < (laterL d t).length) : (laterL d t)[i] = laterOne d (t[i]'(by simpa [laterL] using h)) := by simp [laterL]
def canB (b : Bk) (nm : ByteArray) (t : List Bx) (d : Int) : Bool := tubeOkB b.fl (laterL d t) && freeL nm (laterL d t) b.hl
def barP (b : Bk) (nm : ByteArray) (t : List Bx) (d : Int) : Prop := (beyondS t).lo ≤ d ∨ ∃ h ∈ b.hl, othB nm h.n = true ∧ (hitP t h.tl d ∨ hitP t h.nl d)
theorem out_le {t : List Bx} (hp : pairsB t = true) : ∀ (k i : Nat) (h : i + k < t.length), (t[i]'(by omega)).o ≤ t[i + k].o
  | 0, i, h => Int.le_refl _
  | k + 1, i, h => by
    have h1 := out_le hp k i (by omega)
    have h2 := (pairsB_iff t).1 hp (i + k) (by omega)
    simp only [behindB, decide_eq_true_eq] at h2
    have h3 : t[i + (k + 1)] = t[i + k + 1] := rfl
    rw [h3]
    omega
theorem ok_later {fl : List Fx} {t : List Bx} {d : Int} (h : tubeOkB fl t = true) (hd : 0 ≤ d) : tubeOkB fl (laterL d t) = decide (¬ (beyondS t).lo ≤ d) := by
  simp only [tubeOkB, Bool.and_eq_true] at h
  obtain ⟨h1, h2, h3, h4⟩ := h
  have hl : 1 ≤ t.length := by simp only [lenB, decide_eq_true_eq] at h1; omega
  have hlast : getB t (t.length - 1) = t[t.length - 1]'(by omega) := getB_eq t _ (by omega)
  have hbe : (beyondS t).lo = 10000 - (t[t.length - 1]'(by omega)).o + 1 := by rw [beyondS, hlast]
  rw [hbe]
  by_cases hc : (t[t.length - 1]'(by omega)).o + d ≤ 10000
  · rw [decide_eq_true (by omega)]
    have e1 : lenB (laterL d t).length = true := by rw [laterL_length]; exact h1
    have e2 : (laterL d t).all boxOkB = true := by
      rw [List.all_eq_true]
      intro x hx
      obtain ⟨i, hi, rfl⟩ := List.getElem_of_mem hx
      have hi' : i < t.length := by simpa [laterL] using hi
      rw [laterL_get]
      have hb := List.all_eq_true.1 h2 _ (List.getElem_mem hi')
      have ho := out_le h3 (t.length - 1 - i) i (by omega)
      have ho' : t[i].o ≤ (t[t.length - 1]'(by omega)).o := by
        have e : i + (t.length - 1 - i) = t.length - 1 := by omega
        simpa only [e] using ho
      simp only [boxOkB, decide_eq_true_eq] at hb ⊢
      simp only [laterOne]
      omega
    have e3 : pairsB (laterL d t) = true := (pairsB_iff _).2 fun i hi => by
      have hi' : i + 1 < t.length := by simpa [laterL] using hi
      have := (pairsB_iff t).1 h3 i hi'
      rw [laterL_get, laterL_get]
      simp only [behindB, decide_eq_true_eq] at this ⊢
      simp only [laterOne]
      omega
    have e4 : landsB fl (laterL d t) = true := by
      rw [landsB_eq fl t (by omega)] at h4
      rw [landsB_eq fl (laterL d t) (by rw [laterL_length]; omega), laterL_get]
      simp only [laterL_length]
      exact h4
    rw [tubeOkB, e1, e2, e3, e4]; rfl
  · rw [decide_eq_false (by omega)]
    have : (laterL d t).all boxOkB = false := by
      rw [Bool.eq_false_iff]
      intro ha
      have hlt : t.length - 1 < (laterL d t).length := by rw [laterL_length]; omega
      have := List.all_eq_true.1 ha _ (List.getElem_mem hlt)
      rw [laterL_get] at this
      simp only [boxOkB, decide_eq_true_eq] at this
      simp only [laterOne] at this
      omega
    rw [tubeOkB, this]; simp
theorem near_later {t q : List Bx} {d : Int} (ht : (laterL d t).all boxOkB = true) (hq : q.all boxOkB = true) : nearL (laterL d t) q = true ↔ hitP t q d := by
  simp only [nearL, List.any_eq_true, hitP]
  constructor
  · rintro ⟨x, hx, o, ho, h⟩
    obtain ⟨m, hm, rfl⟩ := List.mem_map.1 hx
    refine ⟨m, hm, o, ho, ?_⟩
    simp only [closeB, Bool.and_eq_true] at h
    obtain ⟨⟨⟨⟨_, _⟩, hc⟩, hl⟩, hk⟩ := h
    have hc' : cellsB m o = true := hc
    have hl' : levelB m o = true := hl
    simp only [tickB, decide_eq_true_eq] at hk
    simp only [laterOne] at hk
    rw [meetS, hl', hc']
    simp only [Bool.and_self, if_true]
    omega
  · rintro ⟨m, hm, o, ho, h⟩
    have hmo : laterOne d m ∈ laterL d t := List.mem_map.2 ⟨m, hm, rfl⟩
    refine ⟨laterOne d m, hmo, o, ho, ?_⟩
    cases hc : (levelB m o && cellsB m o) with
    | false => rw [meetS, hc] at h; simp at h; omega
    | true =>
      rw [meetS, hc] at h
      simp only [if_true] at h
      simp only [Bool.and_eq_true] at hc
      have h1 := List.all_eq_true.1 ht _ hmo
      have h2 := List.all_eq_true.1 hq _ ho
      have hk : tickB (laterOne d m) o = true := by simp only [tickB, decide_eq_true_eq]; simp only [laterOne]; omega
      have hcc : cellsB (laterOne d m) o = true := hc.2
      have hll : levelB (laterOne d m) o = true := hc.1
      rw [closeB, h1, h2, hcc, hll, hk]; rfl
theorem held_boxes {b : Bk} (hb : bookB b = true) {h : Hx} (hm : h ∈ b.hl) : h.tl.all boxOkB = true ∧ h.nl.all boxOkB = true := by
  simp only [bookB, heldsB, Bool.and_eq_true] at hb
  have ht := List.all_eq_true.1 hb.2.2.2.2.1 h hm
  simp only [tubesB, Bool.and_eq_true, Bool.or_eq_true] at ht
  obtain ⟨h1, _, h3⟩ := ht
  simp only [tubeOkB, Bool.and_eq_true] at h1 h3
  refine ⟨h1.2.1, ?_⟩
  rcases h3 with h3 | h3
  · rw [List.isEmpty_iff.1 h3]; rfl
  · exact h3.1.2.1
theorem parts_ok {b : Bk} {w : World} (hb : bookB b = true) (hg : ∀ x ∈ b.hl, x.In w ∧ x.Fit) : ∀ x ∈ allParts b.hl hg, (x.1.1.pl x.1.2).all boxOkB = true := by
  intro x hx
  have := held_boxes hb (mem_parts hx)
  obtain ⟨⟨h, s⟩, _⟩ := x
  cases s
  · exact this.1
  · exact this.2
theorem bar_iff {b : Bk} {nm : ByteArray} {t : List Bx} {d : Int} (hb : bookB b = true) (ht : tubeOkB b.fl t = true) (hd : 0 ≤ d) : barP b nm t d ↔ canB b nm t d = false := by
  by_cases hc : (beyondS t).lo ≤ d
  · rw [canB, ok_later ht hd]
    simp [barP, hc]
  · have hok : tubeOkB b.fl (laterL d t) = true := by rw [ok_later ht hd]; simp [hc]
    have hall : (laterL d t).all boxOkB = true := by simp only [tubeOkB, Bool.and_eq_true] at hok; exact hok.2.1
    rw [canB, hok, Bool.true_and, freeL_eq]
    constructor
    · rintro (g | ⟨h, hm, ho, g⟩)
      · exact absurd g hc
      · rw [Bool.eq_false_iff]
        intro ha
        have := List.all_eq_true.1 ha h hm
        rw [freeOne, ho] at this
        have hbx := held_boxes hb hm
        rcases g with g | g
        · rw [(near_later hall hbx.1).2 g] at this; cases this
        · rw [(near_later hall hbx.2).2 g] at this; simp at this
    · intro h
      right
      have : ¬ ∀ x ∈ b.hl, freeOne nm (laterL d t) x = true := fun g => by
        rw [List.all_eq_true.2 g] at h; cases h
      have : ∃ x ∈ b.hl, freeOne nm (laterL d t) x = false := by
        apply Classical.byContradiction
        intro hne
        exact this fun x hx => by
          cases hf : freeOne nm (laterL d t) x with
          | true => rfl
          | false => exact absurd ⟨x, hx, hf⟩ hne
      obtain ⟨x, hx, hf⟩ := this
      have hbx := held_boxes hb hx
      refine ⟨x, hx, ?_⟩
      simp only [freeOne, Bool.not_eq_false', Bool.and_eq_true, Bool.or_eq_true] at hf
      refine ⟨hf.1, ?_⟩
      rcases hf.2 with g | g
      · exact .inl ((near_later hall hbx.1).1 g)
      · exact .inr ((near_later hall hbx.2).1 g)
theorem bar_parts {b : Bk} {nm : ByteArray} {t : List Bx} {w : World} {most d : Int} (hg : ∀ x ∈ b.hl, x.In w ∧ x.Fit) (hm : most ≤ 300) (h0 : 0 ≤ d) (h1 : d ≤ most) :
    ((False ∨ ((withinS (beyondS t) ⟨0, most⟩).lo ≤ d ∧ d ≤ (withinS (beyondS t) ⟨0, most⟩).hi)) ∨ ∃ x ∈ (allParts b.hl hg).filter (othP nm), hitP t (x.1.1.pl x.1.2) d) ↔ barP b nm t d := by
  have e1 : ((withinS (beyondS t) ⟨0, most⟩).lo ≤ d ∧ d ≤ (withinS (beyondS t) ⟨0, most⟩).hi) ↔ (beyondS t).lo ≤ d := by
    show (max (beyondS t).lo 0 ≤ d ∧ d ≤ min 300 most) ↔ _
    omega
  rw [e1]
  unfold barP
  constructor
  · rintro ((g | g) | ⟨x, hx, g⟩)
    · exact g.elim
    · exact .inl g
    · obtain ⟨hx1, hx2⟩ := List.mem_filter.1 hx
      right
      refine ⟨x.1.1, mem_parts hx1, hx2, ?_⟩
      obtain ⟨⟨h, s⟩, _⟩ := x
      cases s
      · exact .inl g
      · exact .inr g
  · rintro (g | ⟨h, hm, ho, g⟩)
    · exact .inl (.inr g)
    · right
      rcases g with g | g
      · obtain ⟨x, hx, ex⟩ := part_mem hg hm false
        exact ⟨x, List.mem_filter.2 ⟨hx, by rw [othP, ex]; exact ho⟩, by rw [ex]; exact g⟩
      · obtain ⟨x, hx, ex⟩ := part_mem hg hm true
        exact ⟨x, List.mem_filter.2 ⟨hx, by rw [othP, ex]; exact ho⟩, by rw [ex]; exact g⟩
theorem barred_any (b : Bk) (nm : ByteArray) (t : List Bx) (ta : Option Addr) (tc : Nat) (most : Int) (hm0 : 0 ≤ most) (hm1 : most ≤ 300) (w : World) (ha : Asks w b t ta) (hb : bookB b = true) (ht : tubeOkB b.fl t = true) :
    Calls Tryz.prog 42 #[b.val, .string nm, .slice ta t.length tc, .int .i64 most] w fun e W' => (∃ v, e = .returned v ∧ SpsAt most (barP b nm t) v W') ∧ Below w.heap.size w W' := by
  refine (callsIn_wide.1 (barred_in 16 (by omega) b nm t ta tc most hm0 hm1 w ha (parts_ok hb ha.hgood) ht)).mono ?_
  rintro e W' ⟨⟨v, rfl, ao, cap, l, h1, h2, h3, h4⟩, hB⟩
  exact ⟨⟨v, rfl, ao, cap, l, h1, h2, h3, fun d d0 d1 => (h4 d d0 d1).trans (bar_parts ha.hgood hm1 d0 d1)⟩, hB⟩
end Go.Proofs.YtficfhcmbhlagabGreat
