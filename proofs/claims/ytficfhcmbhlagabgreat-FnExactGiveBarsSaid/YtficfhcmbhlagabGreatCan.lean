import Derived.Test.YtficfhcmbhlagabGreatDelay
import Derived.Test.YtficfhcmbhlagabGreatPlainB
import Derived.Test.YtficfhcmbhlagabGreatCopy
namespace Go.Proofs.YtficfhcmbhlagabGreat
open Go.RowKit
theorem flat_one (l : List Bx) : ∀ u ∈ flat l, u.oneCell' = true := by
  induction l with
  | nil => simp [flat]
  | cons a r ih =>
    intro u hu
    rcases List.mem_append.1 hu with h | h
    · exact six_one a u h
    · exact ih u h
theorem box_get {w : World} {bl o : Nat} {b : Bx} (h : BoxAt w bl o b) (j : Nat) (u : Value) (hj : (boxCells b)[j]? = some u) : w.cell? ⟨bl, o + j, none⟩ = some u := by
  obtain ⟨h0, h1, h2, h3, h4, h5⟩ := h
  match j, hj with
  | 0, hj => simp [boxCells] at hj; subst hj; exact h0
  | 1, hj => simp [boxCells] at hj; subst hj; exact h1
  | 2, hj => simp [boxCells] at hj; subst hj; exact h2
  | 3, hj => simp [boxCells] at hj; subst hj; exact h3
  | 4, hj => simp [boxCells] at hj; subst hj; exact h4
  | 5, hj => simp [boxCells] at hj; subst hj; exact h5
  | n + 6, hj => simp [boxCells] at hj
theorem bxs_flat {w : World} {bl off : Nat} {t : List Bx} (hc : ∀ k (h : k < t.length), BoxAt w bl (off + k * 6) t[k]) : ∀ j u, (flat t)[j]? = some u → w.cell? ((⟨bl, off, none⟩ : Addr).add j) = some u := by
  intro j u hj
  have hl : j < (flat t).length := (List.getElem?_eq_some_iff.1 hj).1
  rw [flat_length] at hl
  have hk : j / 6 < t.length := by omega
  have e : j = j / 6 * 6 + j % 6 := by omega
  rw [e, flat_get t _ hk _ (by omega)] at hj
  rw [Addr.add_lit]
  have := box_get (hc _ hk) _ u hj
  rw [show off + j = off + j / 6 * 6 + j % 6 by omega]
  exact this
set_option maxRecDepth 100000 in
set_option maxHeartbeats 1000000 in
theorem l2Tube_any (t : List Bx) (bl off tc : Nat) (w : World) (hc : ∀ k (h : k < t.length), BoxAt w bl (off + k * 6) t[k]) (h1 : 1 ≤ t.length) (hn : t.length ≤ 1048576) :
    Calls Tryz.prog 103 #[.slice (some ⟨bl, off, none⟩) t.length tc] w fun e w' => (∃ g cap, e = .returned (.slice (some ⟨g, 0, none⟩) t.length cap) ∧ w.heap.size ≤ g ∧ t.length ≤ cap ∧ RowBx w' g cap t t.length) ∧ Below w.heap.size w w' := by
  obtain ⟨i0, hi, hz0, hz1, hz2⟩ := info_parts Tryz.info77
  go_enter Tryz.func103, Tryz.ntmps103
  have hown : (w.alloc (.cells #[] 77)).ownsRow w.heap.size 77 6 (.slice (some ⟨w.heap.size, 0, none⟩) 0 0) 0 [] := by simpa using World.ownsRow_lit (base := w.heap.size) (e := 77) (size := 6) w #[] 0 (Nat.le_refl _) (Nat.zero_le _) rfl
  have hbl : bl < w.heap.size := cell_lt (hc 0 (by omega)).1
  have hc' : ∀ k (h : k < t.length), BoxAt (w.alloc (.cells #[] 77)) bl (off + k * 6) t[k] := fun k h => (hc k h).later (balloc (Below.refl _ _) _)
  go_wp2_with (at_builtin; refine wpList_append_own_at _ rfl (.tmp 3) (.tmp 4) 36 rfl w.heap.size 77 i0 _ 6 48 Tryz.underlying36 hi hz0 hz1 hz2 rfl (by decide) _ _ _ rfl hown ⟨bl, off, none⟩ t.length tc (flat t) rfl (flat_length t) (bxs_flat hc') (flat_one t) ?qc3 ?qc4 ?qc5 ?_)
  case qc3 => unfold maxLen; omega
  case qc4 => omega
  case qc5 => simp
  intro v' w1 hown' hgrow _ _
  have hN : Below w.heap.size w w1 := (balloc (Below.refl _ _) _).grown hgrow (by simp) (fun q hq => by simp [Value.ownBlock] at hq; omega)
  rcases OwnBx.of_owns hown' with ⟨_, e⟩ | ⟨g, cap, rfl, hg, hcap, hR⟩
  · rw [e] at h1; simp at h1
  go_wp2
  go_ret
  exact ⟨⟨g, cap, rfl, hg, hcap, hR⟩, hN⟩
/-- The first k of t are later by d. -/
def mixL (d : Int) (t : List Bx) (k : Nat) (i : Nat) : Bx := if i < k then laterOne d (getB t i) else getB t i
set_option maxRecDepth 100000 in
set_option maxHeartbeats 2000000 in
theorem l3Later_any (t : List Bx) (d : Int) (bl off tc : Nat) (w : World) (hc : ∀ k (h : k < t.length), BoxAt w bl (off + k * 6) t[k]) (h1 : 1 ≤ t.length) (hn : t.length ≤ 1048576) (hok : t.all boxOkB = true) (hd0 : 0 ≤ d) (hd1 : d ≤ 300) :
    Calls Tryz.prog 68 #[.slice (some ⟨bl, off, none⟩) t.length tc, .int .i64 d] w fun e w' => (∃ g cap, e = .returned (.slice (some ⟨g, 0, none⟩) (laterL d t).length cap) ∧ Bxs w' (some ⟨g, 0, none⟩) (laterL d t)) ∧ Below w.heap.size w w' := by
  go_enter Tryz.func68, Tryz.ntmps68
  go_wp2_with fail
  refine (l2Tube_any t bl off tc w hc h1 hn).mono ?_
  rintro e w1 ⟨⟨g, cap, rfl, hg, hcap, f, hrow, hf⟩, hb1⟩
  go_wp2
  go_loopw [6] (fun i wr => ∃ k : Nat, k ≤ t.length ∧ i = .int .i64 k ∧ (∃ f, wr.rowIs g 77 (cap * 6) f ∧ Hid (∀ i, i < t.length → RowB f i (mixL d t k i))) ∧ Below w.heap.size w wr) (fun i _ => t.length - (intOf i).toNat)
  case atStart => exact ⟨0, Nat.zero_le _, rfl, ⟨f, hrow, fun i hi => by rw [mixL, if_neg (by omega), getB_eq t i hi]; exact hf i hi hi⟩, hb1⟩
  case round =>
    clear hrow hf hb1 f
    obtain ⟨k, hk, rfl, ⟨f, hrow, hf⟩, hN⟩ := hrel
    by_cases hlt : k < t.length
    · have hbk := hf.out k hlt
      have hbo : boxOkB (getB t k) = true := getB_ok hok k
      rw [mixL, if_neg (by omega)] at hbk
      obtain ⟨b, hbe⟩ : ∃ b, b = getB t k := ⟨_, rfl⟩
      rw [← hbe] at hbk hbo
      have HB : Hid (b = getB t k) := hbe
      clear hbe
      have hbb : 0 ≤ b.i ∧ b.i ≤ 10000 ∧ 0 ≤ b.o ∧ b.o ≤ 10000 := by simp only [boxOkB, decide_eq_true_eq] at hbo; omega
      obtain ⟨o1, o2, o3, o4⟩ := hbb
      have e4 := hrow.cell (i := k * 6 + 4) (by omega)
      have e5 := hrow.cell (i := k * 6 + 5) (by omega)
      rw [hbk.2.2.2.2.1] at e4
      rw [hbk.2.2.2.2.2] at e5
      have HK : Hid (RowB f k b) := hbk
      clear hbk
      have hfr := fun i => hrow.frozen i
      have hgz : g < wr.heap.size := hrow.lt
      go_wp2
      go_roundw
      case rel =>
        refine ⟨k + 1, by omega, by go_num, ⟨_, (hrow.set _ _).set _ _, fun i hi => ?_⟩, (hN.setCell (p := ⟨g, _, none⟩) hg _).setCell (p := ⟨g, _, none⟩) hg _⟩
        by_cases e : i = k
        · subst e
          rw [mixL, if_pos (by omega), ← HB.out]
          obtain ⟨q0, q1, q2, q3, q4, q5⟩ := HK.out
          refine ⟨?_, ?_, ?_, ?_, ?_, ?_⟩ <;> simp [q0, q1, q2, q3, laterOne]
        · have h0 := hf.out i hi
          have em : mixL d t (k + 1) i = mixL d t k i := by
            unfold mixL
            by_cases h : i < k
            · rw [if_pos (by omega), if_pos h]
            · rw [if_neg (by omega), if_neg h]
          rw [em]
          obtain ⟨q0, q1, q2, q3, q4, q5⟩ := h0
          refine ⟨?_, ?_, ?_, ?_, ?_, ?_⟩ <;> dsimp only <;> repeat rw [if_neg (by omega)]
          all_goals assumption
      case measure => simp [intOf]; omega
    · have hke : k = t.length := by omega
      have hX : Bxs wr (some ⟨g, 0, none⟩) (laterL d t) := by
        refine Or.inr ⟨g, 0, rfl, fun i hi => ?_⟩
        have hi' : i < t.length := by rw [laterL_length] at hi; exact hi
        have h0 := hf.out i hi'
        rw [mixL, if_pos (by omega), getB_eq t i hi'] at h0
        rw [laterL_get, Nat.zero_add]
        obtain ⟨q0, q1, q2, q3, q4, q5⟩ := h0
        exact ⟨by rw [hrow.cell (by omega), q0], by rw [hrow.cell (by omega), q1], by rw [hrow.cell (by omega), q2], by rw [hrow.cell (by omega), q3], by rw [hrow.cell (by omega), q4], by rw [hrow.cell (by omega), q5]⟩
      go_wp2
      go_ret
      exact ⟨⟨g, cap, by rw [laterL_length]; rfl, hX⟩, hN⟩
theorem specL3_val (b : Bk) (nm : ByteArray) (t : List Bx) (v : Bool) (hv : freeL nm t b.hl = v) (ta : Option Addr) (tc : Nat) (w : World) (ha : Asks w b t ta) :
    Calls Tryz.prog 69 #[b.val, .string nm, .slice ta t.length tc] w fun e w' => e = .returned (.bool v) ∧ Below w.heap.size w w' := by
  subst hv; exact specL3_any b nm t ta tc w ha
set_option maxRecDepth 100000 in
set_option maxHeartbeats 1000000 in
theorem l3Can_any (b : Bk) (nm : ByteArray) (t : List Bx) (ta : Option Addr) (tc : Nat) (d : Int) (w : World) (ha : Asks w b t ta) (ht : tubeOkB b.fl t = true) (hd0 : 0 ≤ d) (hd1 : d ≤ 300) :
    Calls Tryz.prog 37 #[b.val, .string nm, .slice ta t.length tc, .int .i64 d] w fun e w' => e = .returned (.bool (canB b nm t d)) ∧ Below w.heap.size w w' := by
  obtain ⟨V, hV⟩ : ∃ V, V = canB b nm t d := ⟨_, rfl⟩
  rw [← hV]
  have HV : Hid (V = canB b nm t d) := hV
  clear hV
  simp only [tubeOkB, Bool.and_eq_true, lenB, decide_eq_true_eq] at ht
  obtain ⟨htl, htb, _⟩ := ht
  rcases ha.ht with h | ⟨bl, off, rfl, hc⟩
  · rw [h] at htl; simp at htl
  have hB0 : Below w.heap.size w (w.alloc (.cells #[.int .i64 b.now, .slice b.fa b.fl.length b.fc, .slice b.ha b.hl.length b.hc] 34)) := balloc (Below.refl _ _) _
  have A0 := World.alloc_heap_new w (.cells #[.int .i64 b.now, .slice b.fa b.fl.length b.fc, .slice b.ha b.hl.length b.hc] 34)
  go_enter Tryz.func37, Tryz.ntmps37
  go_wp2_with fail
  refine (l3Later_any t d bl off tc _ (fun k h => (hc k h).later hB0) htl.1 ha.hnt htb hd0 hd1).mono ?_
  rintro e w1 ⟨⟨g, cap, rfl, hX⟩, hb1⟩
  have N1 : Below w.heap.size w w1 := bstep hB0 hb1
  have A1 := (hb1.block _ (Array.getElem?_eq_some_iff.1 A0).1).trans A0
  clear A0 hb1 hB0
  have k1 : w1.cell? ⟨w.heap.size, 1, none⟩ = some (.slice b.fa b.fl.length b.fc) := obj_cell A1 rfl
  obtain ⟨x, hx⟩ : ∃ x, x = laterL d t := ⟨_, rfl⟩
  have hxl : x.length ≤ 1048576 := by rw [hx, laterL_length]; exact ha.hnt
  have ha1 : Asks w1 b x (some ⟨g, 0, none⟩) := { ha.later N1 with ht := by rw [hx]; exact hX, hnt := hxl }
  have HX : Hid (x = laterL d t) := hx
  rw [← hx]
  clear hx hX
  go_wp2_with fail
  obtain ⟨v1, h1⟩ : ∃ v, tubeOkB b.fl x = v := ⟨_, rfl⟩
  refine (specTube_val _ _ _ h1 _ _ _ _ _ ha1.hf ha1.ht ha1.hnf ha1.hnt).mono ?_
  rintro e w2 ⟨rfl, hb2⟩
  have N2 : Below w.heap.size w w2 := bstep N1 hb2
  have A2 := (hb2.block _ (Array.getElem?_eq_some_iff.1 A1).1).trans A1
  have ha2 := ha1.later hb2
  clear k1 A1 hb2 N1 ha1
  cases v1 with
  | false =>
    go_wp2_with fail
    go_ret
    exact ⟨ret_bool (by rw [HV.out, canB, ← HX.out, h1]; rfl), N2⟩
  | true =>
  have k0 : w2.cell? ⟨w.heap.size, 0, none⟩ = some (.int .i64 b.now) := obj_cell A2 rfl
  have k1 : w2.cell? ⟨w.heap.size, 1, none⟩ = some (.slice b.fa b.fl.length b.fc) := obj_cell A2 rfl
  have k2 : w2.cell? ⟨w.heap.size, 2, none⟩ = some (.slice b.ha b.hl.length b.hc) := obj_cell A2 rfl
  go_wp2_with fail
  refine (specL3_any b nm x _ _ _ ha2).mono ?_
  rintro e w3 ⟨rfl, hb3⟩
  have N3 : Below w.heap.size w w3 := bstep N2 hb3
  clear k0 k1 k2 A2
  go_wp2_with fail
  go_ret
  exact ⟨ret_bool (by rw [HV.out, canB, ← HX.out, h1]; rfl), N3⟩
set_option maxRecDepth 100000 in
set_option maxHeartbeats 1000000 in
theorem specAsked_any (b : Bk) (t : List Bx) (ta : Option Addr) (tc : Nat) (most : Int) (w : World) (ha : Asks w b t ta) :
    Calls Tryz.prog 36 #[b.val, .slice ta t.length tc, .int .i64 most] w fun e w' => e = .returned (.bool (askedB b t most)) ∧ Below w.heap.size w w' := by
  obtain ⟨V, hV⟩ : ∃ V, V = askedB b t most := ⟨_, rfl⟩
  rw [← hV]
  have HV : Hid (V = askedB b t most) := hV
  clear hV
  have hB0 : Below w.heap.size w (w.alloc (.cells #[.int .i64 b.now, .slice b.fa b.fl.length b.fc, .slice b.ha b.hl.length b.hc] 34)) := balloc (Below.refl _ _) _
  have A0 := World.alloc_heap_new w (.cells #[.int .i64 b.now, .slice b.fa b.fl.length b.fc, .slice b.ha b.hl.length b.hc] 34)
  go_enter Tryz.func36, Tryz.ntmps36
  go_wp2_with fail
  obtain ⟨v1, h1⟩ : ∃ v, bookB b = v := ⟨_, rfl⟩
  refine (specBook_val (ha.later hB0) _ h1).mono ?_
  rintro e w3 ⟨rfl, hb3⟩
  have N3 : Below w.heap.size w w3 := bstep hB0 hb3
  have A3 := (hb3.block _ (Array.getElem?_eq_some_iff.1 A0).1).trans A0
  clear A0 hb3 hB0
  cases v1 with
  | false =>
    go_wp2_with fail
    go_ret
    exact ⟨ret_bool (by rw [HV.out, askedB, h1]; simp), N3⟩
  | true =>
  have k1 : w3.cell? ⟨w.heap.size, 1, none⟩ = some (.slice b.fa b.fl.length b.fc) := obj_cell A3 rfl
  go_wp2_with fail
  obtain ⟨v2, h2⟩ : ∃ v, tubeOkB b.fl t = v := ⟨_, rfl⟩
  refine (specTube_val _ _ _ h2 _ _ _ _ _ (ha.hf.later N3) (ha.ht.later N3) ha.hnf ha.hnt).mono ?_
  rintro e w4 ⟨rfl, hb4⟩
  have N4 : Below w.heap.size w w4 := bstep N3 hb4
  clear k1 A3 hb4 N3
  cases v2 with
  | false =>
    go_wp2_with fail
    go_ret
    exact ⟨ret_bool (by rw [HV.out, askedB, h1, h2]; simp), N4⟩
  | true =>
  go_wp2_with fail
  refine (l1In_any _ _ _ _).mono ?_
  rintro e w5 ⟨rfl, rfl⟩
  go_wp2_with fail
  go_ret
  exact ⟨ret_bool (by rw [HV.out, askedB, h1, h2]; simp [inB]), N4⟩
/-- What the least delay is, or that there is none to be told. -/
def IsEarl (b : Bk) (nm : ByteArray) (t : List Bx) (most : Int) (o : Option Int) : Prop := (askedB b t most = true → Earl most (barP b nm t) o) ∧ (askedB b t most = false → o = none)
theorem IsEarl.no {b : Bk} {nm : ByteArray} {t : List Bx} {most : Int} (h : askedB b t most = false) : IsEarl b nm t most none := ⟨(fun g => by rw [h] at g; cases g), fun _ => rfl⟩
theorem IsEarl.yes {b : Bk} {nm : ByteArray} {t : List Bx} {most : Int} {o : Option Int} (h : askedB b t most = true) (he : Earl most (barP b nm t) o) : IsEarl b nm t most o := ⟨fun _ => he, fun g => by rw [h] at g; cases g⟩
theorem IsEarl.uniq {b : Bk} {nm : ByteArray} {t : List Bx} {most : Int} {o o' : Option Int} (h : IsEarl b nm t most o) (g : IsEarl b nm t most o') : o = o' := by
  cases e : askedB b t most with
  | true => exact earl_uniq (fun _ _ _ => Iff.rfl) (h.1 e) (g.1 e)
  | false => rw [h.2 e, g.2 e]
set_option maxRecDepth 100000 in
set_option maxHeartbeats 2000000 in
theorem specEarliest_any (b : Bk) (nm : ByteArray) (t : List Bx) (ta : Option Addr) (tc : Nat) (most : Int) (w : World) (ha : Asks w b t ta) :
    Calls Tryz.prog 20 #[b.val, .string nm, .slice ta t.length tc, .int .i64 most] w fun e w' => (∃ o, e = .returned (earlVal o) ∧ IsEarl b nm t most o) ∧ Below w.heap.size w w' := by
  have hB0 : Below w.heap.size w (w.alloc (.cells #[.int .i64 b.now, .slice b.fa b.fl.length b.fc, .slice b.ha b.hl.length b.hc] 34)) := balloc (Below.refl _ _) _
  have A0 := World.alloc_heap_new w (.cells #[.int .i64 b.now, .slice b.fa b.fl.length b.fc, .slice b.ha b.hl.length b.hc] 34)
  obtain ⟨v1, h1⟩ : ∃ v, askedB b t most = v := ⟨_, rfl⟩
  go_enter Tryz.func20, Tryz.ntmps20
  go_wp2_with fail
  refine (specAsked_any b t ta tc most _ (ha.later hB0)).mono ?_
  rintro e w1 ⟨rfl, hb1⟩
  rw [h1]
  cases v1 with
  | false =>
    go_wp2
    refine bodyPost_ret (v := earlVal none) ?_ rfl ⟨⟨none, rfl, IsEarl.no h1⟩, bstep hB0 hb1⟩
    simp [results, Tryz.results20, go_sem, earlVal]
  | true =>
  have HA : Hid (askedB b t most = true) := h1
  simp only [askedB, Bool.and_eq_true, decide_eq_true_eq] at h1
  obtain ⟨⟨m0, m1⟩, hbk, htk⟩ := h1
  go_wp2
  obtain ⟨W0, hW0⟩ : ∃ W0, w.alloc (.cells #[.int .i64 b.now, .slice b.fa b.fl.length b.fc, .slice b.ha b.hl.length b.hc] 34) = W0 := ⟨_, rfl⟩
  rw [hW0] at A0 hB0 hb1
  clear hW0
  go_loopw [10] (fun i wr => ∃ d : Int, 0 ≤ d ∧ d ≤ most + 1 ∧ i = .int .i64 d ∧ Below W0.heap.size W0 wr ∧ Hid (∀ e, 0 ≤ e → e < d → barP b nm t e)) (fun i _ => (most + 1 - intOf i).toNat)
  case atStart => exact ⟨0, Int.le_refl _, by omega, rfl, hb1, fun e h1 h2 => by omega⟩
  case round =>
    clear hb1
    obtain ⟨d, hd0, hd1, rfl, hA, hI⟩ := hrel
    have hN : Below w.heap.size w wr := hB0.trans (hA.mono hB0.size)
    have A1 := (hA.block _ (Array.getElem?_eq_some_iff.1 A0).1).trans A0
    by_cases hlt : d ≤ most
    · have k0 : wr.cell? ⟨w.heap.size, 0, none⟩ = some (.int .i64 b.now) := obj_cell A1 rfl
      have k1 : wr.cell? ⟨w.heap.size, 1, none⟩ = some (.slice b.fa b.fl.length b.fc) := obj_cell A1 rfl
      have k2 : wr.cell? ⟨w.heap.size, 2, none⟩ = some (.slice b.ha b.hl.length b.hc) := obj_cell A1 rfl
      obtain ⟨v2, h2⟩ : ∃ v, canB b nm t d = v := ⟨_, rfl⟩
      go_wp2_with fail
      refine (l3Can_any b nm t ta tc d _ (ha.later hN) htk hd0 (by omega)).mono ?_
      rintro e w2 ⟨rfl, hb2⟩
      rw [h2]
      have hA2 := bstepB hA (Nat.le_refl _) hb2
      have hN2 := bstep hN hb2
      clear k0 k1 k2
      cases v2 with
      | true =>
        have HE : Hid (Earl most (barP b nm t) (some d)) := ⟨hd0, hlt, (fun h => by have := (bar_iff hbk htk hd0).1 h; rw [this] at h2; exact absurd h2 (by simp)), hI.out⟩
        go_wp2
        refine bodyPost_ret (v := earlVal (some d)) ?_ rfl ⟨⟨some d, rfl, IsEarl.yes HA.out HE.out⟩, hN2⟩
        simp [results, Tryz.results20, go_sem, earlVal]
      | false =>
        have hbd : barP b nm t d := (bar_iff hbk htk hd0).2 h2
        go_wp2
        go_roundw
        case rel => exact ⟨d + 1, by omega, by omega, by go_num, hA2, fun e e1 e2 => by
          by_cases h : e = d
          · rw [h]; exact hbd
          · exact hI.out e e1 (by omega)⟩
        case measure => simp [intOf]; omega
    · have HE : Hid (Earl most (barP b nm t) none) := fun e e1 e2 => hI.out e e1 (by omega)
      go_wp2
      refine bodyPost_ret (v := earlVal none) ?_ rfl ⟨⟨none, rfl, IsEarl.yes HA.out HE.out⟩, hN⟩
      simp [results, Tryz.results20, go_sem, earlVal]
set_option maxRecDepth 100000 in
set_option maxHeartbeats 1000000 in
theorem implEarliest_any (b : Bk) (nm : ByteArray) (t : List Bx) (ta : Option Addr) (tc : Nat) (most : Int) (w : World) (ha : Asks w b t ta) :
    Calls Tryz.prog 21 #[b.val, .string nm, .slice ta t.length tc, .int .i64 most] w fun e w' => (∃ o, e = .returned (earlVal o) ∧ IsEarl b nm t most o) ∧ Below w.heap.size w w' := by
  have hB0 : Below w.heap.size w (w.alloc (.cells #[.int .i64 b.now, .slice b.fa b.fl.length b.fc, .slice b.ha b.hl.length b.hc] 34)) := balloc (Below.refl _ _) _
  have A0 := World.alloc_heap_new w (.cells #[.int .i64 b.now, .slice b.fa b.fl.length b.fc, .slice b.ha b.hl.length b.hc] 34)
  obtain ⟨v1, h1⟩ : ∃ v, askedB b t most = v := ⟨_, rfl⟩
  go_enter Tryz.func21, Tryz.ntmps21
  go_wp2_with fail
  refine (implAsked_any b t ta tc most _ (ha.later hB0)).mono ?_
  rintro e w1 ⟨rfl, hb1⟩
  rw [h1]
  have N1 := bstep hB0 hb1
  have A1 := (hb1.block _ (Array.getElem?_eq_some_iff.1 A0).1).trans A0
  clear A0 hB0 hb1
  cases v1 with
  | false =>
    go_wp2
    refine bodyPost_ret (v := earlVal none) ?_ rfl ⟨⟨none, rfl, IsEarl.no h1⟩, N1⟩
    simp [results, Tryz.results21, go_sem, earlVal]
  | true =>
  have HA : Hid (askedB b t most = true) := h1
  simp only [askedB, Bool.and_eq_true, decide_eq_true_eq] at h1
  obtain ⟨⟨m0, m1⟩, hbk, htk⟩ := h1
  have k0 : w1.cell? ⟨w.heap.size, 0, none⟩ = some (.int .i64 b.now) := obj_cell A1 rfl
  have k1 : w1.cell? ⟨w.heap.size, 1, none⟩ = some (.slice b.fa b.fl.length b.fc) := obj_cell A1 rfl
  have k2 : w1.cell? ⟨w.heap.size, 2, none⟩ = some (.slice b.ha b.hl.length b.hc) := obj_cell A1 rfl
  go_wp2_with fail
  refine (barred_any b nm t ta tc most m0 m1 _ (ha.later N1) hbk htk).mono ?_
  rintro e w2 ⟨⟨v, rfl, ao, cap, l, rfl, hX, hBr, hP⟩, hb2⟩
  have hX := hX.1
  have N2 := bstep N1 hb2
  clear k0 k1 k2 A1
  go_wp2_with fail
  refine (delays_any most _).mono ?_
  rintro e w3 ⟨rfl, hb3⟩
  have N3 := bstep N2 hb3
  have hX3 := hX.later hb3
  go_wp2_with fail
  refine (least_any most m0 m1 l ao cap _ hX3 hBr).mono ?_
  rintro e w4 ⟨⟨o, rfl, ho⟩, hb4⟩
  have N4 := bstep N3 hb4
  have HE : Hid (Earl most (barP b nm t) o) := by
    cases o with
    | none => exact fun e e1 e2 => (hP e e1 e2).1 (ho e e1 e2)
    | some d => exact ⟨ho.1, ho.2.1, fun h => ho.2.2.1 ((hP d ho.1 ho.2.1).2 h), fun e e1 e2 => (hP e e1 (by have := ho.2.1; omega)).1 (ho.2.2.2 e e1 e2)⟩
  cases o with
  | none =>
    unfold earlVal
    go_wp2
    refine bodyPost_ret (v := earlVal none) ?_ rfl ⟨⟨none, rfl, IsEarl.yes HA.out HE.out⟩, N4⟩
    simp [results, Tryz.results21, go_sem, earlVal]
  | some d =>
    unfold earlVal
    go_wp2
    refine bodyPost_ret (v := earlVal (some d)) ?_ rfl ⟨⟨some d, rfl, IsEarl.yes HA.out HE.out⟩, N4⟩
    simp [results, Tryz.results21, go_sem, earlVal]
end Go.Proofs.YtficfhcmbhlagabGreat
