import Derived.Test.YtficfhcmbhlagabWc
namespace Go.Proofs.Ytficfhcmbhlagab
open Go.RowKit
set_option maxRecDepth 100000 in
set_option maxHeartbeats 400000 in
theorem szCells_any (n cap : Nat) (left : Int) (ao : Option Addr) (w : World) (h0 : 0 ≤ left) (h1 : left ≤ 1048576) (hn : n ≤ 9223372036854775807) :
    Calls Try.prog 128 #[.slice ao n cap, .int .i64 left] w fun e w' => (∃ r : Int, e = .returned (.int .i64 r) ∧ -1 ≤ r ∧ (0 ≤ r → r + n ≤ left)) ∧ w' = w := by
  by_cases h : (n : Int) ≤ left
  · go_enter Try.func128, Try.ntmps128
    go_wp2
    go_ret
    exact ⟨⟨_, rfl, by omega, by omega⟩, rfl⟩
  · go_enter Try.func128, Try.ntmps128
    go_wp2
    go_ret
    exact ⟨⟨_, rfl, by omega, by omega⟩, rfl⟩
set_option maxRecDepth 100000 in
set_option maxHeartbeats 400000 in
theorem szInts_any (n cap : Nat) (left : Int) (ao : Option Addr) (w : World) (h0 : 0 ≤ left) (h1 : left ≤ 1048576) (hn : n ≤ 9223372036854775807) :
    Calls Try.prog 40 #[.slice ao n cap, .int .i64 left] w fun e w' => (∃ r : Int, e = .returned (.int .i64 r) ∧ -1 ≤ r ∧ (0 ≤ r → r + n ≤ left)) ∧ w' = w := by
  by_cases h : (n : Int) ≤ left
  · go_enter Try.func40, Try.ntmps40
    go_wp2
    go_ret
    exact ⟨⟨_, rfl, by omega, by omega⟩, rfl⟩
  · go_enter Try.func40, Try.ntmps40
    go_wp2
    go_ret
    exact ⟨⟨_, rfl, by omega, by omega⟩, rfl⟩
set_option maxRecDepth 100000 in
set_option maxHeartbeats 1000000 in
theorem szWay_any (y : Yx) (left : Int) (w : World) (h0 : 0 ≤ left) (h1 : left ≤ 1048576) (hn : y.l.length ≤ 9223372036854775807) :
    Calls Try.prog 99 #[y.val, .int .i64 left] w fun e w' => (∃ r : Int, e = .returned (.int .i64 r) ∧ -1 ≤ r ∧ r ≤ left ∧ (0 ≤ r → y.l.length ≤ 1048576)) ∧ Below w.heap.size w w' := by
  go_enter Try.func99, Try.ntmps99
  go_wp2_with (go_at_call 128; refine (szCells_any _ _ _ _ _ (by omega) (by omega) (by assumption)).mono ?_; rintro e wr ⟨⟨r, rfl, hr0, hr1⟩, rfl⟩)
  · go_ret
    exact ⟨⟨_, rfl, by omega, by omega, by omega⟩, balloc (Below.refl _ _) _⟩
  · go_ret
    exact ⟨⟨_, rfl, by omega, by omega, fun _ => by omega⟩, balloc (Below.refl _ _) _⟩
set_option maxRecDepth 100000 in
set_option maxHeartbeats 1000000 in
theorem szWayS_any (l : List Yx) (ao : Option Addr) (cap : Nat) (w : World) (hl : Xs 1 Yx.cells w ao l) (hn : l.length ≤ 9223372036854775807) (hs : ∀ y ∈ l, y.l.length ≤ 9223372036854775807) (left : Int) (h0 : 0 ≤ left) (h1 : left ≤ 1048576) :
    Calls Try.prog 39 #[.slice ao l.length cap, .int .i64 left] w fun e w' => (∃ r : Int, e = .returned (.int .i64 r) ∧ -1 ≤ r ∧ (0 ≤ r → r + l.length ≤ left ∧ ∀ y ∈ l, y.l.length ≤ 1048576)) ∧ Below w.heap.size w w' := by
  by_cases hle : (l.length : Int) ≤ left
  · go_enter Try.func39, Try.ntmps39
    go_wp2
    go_loopw [1, 5] (fun lv i wr => ∃ (k : Nat) (r : Int), k ≤ l.length ∧ i = .int .i64 k ∧ lv = .int .i64 r ∧ 0 ≤ r ∧ r + l.length ≤ left ∧ Below w.heap.size w wr ∧ Hid (∀ y ∈ l.take k, y.l.length ≤ 1048576)) (fun _ i _ => l.length - (intOf i).toNat)
    case atStart => exact ⟨0, left - l.length, Nat.zero_le _, rfl, rfl, by omega, by omega, Below.refl _ _, by simp [Hid]⟩
    case round =>
      obtain ⟨k, r, hk, rfl, rfl, hr0, hr1, hN, hfit⟩ := hrel
      by_cases hlt : k < l.length
      · rcases hl with h | ⟨bl, off, rfl, hc⟩
        · subst h; simp at hlt
        · have hbx := (hc k hlt).later hN
          have hsz := hs l[k] (List.getElem_mem hlt)
          obtain ⟨b, hbe⟩ : ∃ b, b = l[k] := ⟨_, rfl⟩
          rw [← hbe] at hbx hsz
          have HB : Hid (b = l[k]) := hbe
          clear hbe hc
          have c0 := yx_at hbx
          rw [Nat.mul_one] at c0
          clear hbx
          go_wp2_with (go_at_call 99; refine (szWay_any b _ _ (by omega) (by omega) hsz).mono ?_; rintro e w1 ⟨⟨r', rfl, hq0, hq1, hq2⟩, hb1⟩; have hN1 : Below w.heap.size w w1 := bstepB hN (Nat.le_refl _) hb1; clear hN c0 hb1)
          · go_ret
            exact ⟨⟨_, rfl, by omega, by omega⟩, hN1⟩
          · have hbf : b.l.length ≤ 1048576 := hq2 (by omega)
            go_roundw
            case rel => exact ⟨k + 1, r', by omega, by go_num, rfl, by omega, by omega, hN1, by
              rw [Hid, List.take_succ_eq_append_getElem hlt]
              intro h hm
              rcases List.mem_append.1 hm with hm | hm
              · exact hfit.out h hm
              · simp only [List.mem_singleton] at hm; rw [hm, ← HB.out]; exact hbf⟩
            case measure => simp [intOf]; omega
      · rw [List.take_of_length_le (by omega)] at hfit
        go_wp2
        go_ret
        exact ⟨⟨_, rfl, by omega, fun _ => ⟨by omega, hfit.out⟩⟩, hN⟩
  · go_enter Try.func39, Try.ntmps39
    go_wp2
    go_ret
    exact ⟨⟨_, rfl, by omega, by omega⟩, Below.refl _ _⟩
/-- What a wish holds fits into a machine. -/
structure Wx.Wide (x : Wx) : Prop where
  wn : x.wl.length ≤ 9223372036854775807
  yn : ∀ y ∈ x.wl, y.l.length ≤ 9223372036854775807
  ln : x.ll.length ≤ 9223372036854775807
  sn : x.n.size ≤ 9223372036854775807
set_option maxRecDepth 100000 in
set_option maxHeartbeats 1000000 in
theorem szWish_any (x : Wx) (left : Int) (w : World) (hi : x.In w) (h0 : 0 ≤ left) (h1 : left ≤ 1048576) (hw : x.Wide) :
    Calls Try.prog 15 #[x.val, .int .i64 left] w fun e w' => (∃ r : Int, e = .returned (.int .i64 r) ∧ -1 ≤ r ∧ (0 ≤ r → r ≤ left ∧ x.Fit)) ∧ Below w.heap.size w w' := by
  obtain ⟨wn, yn, ln, sn⟩ := hw
  by_cases hs : (x.n.size : Int) ≤ left
  · go_enter Try.func15, Try.ntmps15
    go_wp2_with (first
      | (go_at_call 39; refine (szWayS_any _ _ _ _ (hi.ws.later (balloc (Below.refl _ _) _)) wn yn _ (by omega) (by omega)).mono ?_; rintro e w1 ⟨⟨r1, rfl, hr0, hr1⟩, hb1⟩; have hN : Below w.heap.size w w1 := bstep (balloc (Below.refl _ _) _) hb1; have k2 : w1.cell? ⟨w.heap.size, 7, none⟩ = some (.slice x.la x.ll.length x.lc) := (hb1.cell (p := ⟨w.heap.size, 7, none⟩) (by simp)).trans (by simp))
      | (go_at_call 40; refine (szInts_any _ _ _ _ _ (by omega) (by omega) ln).mono ?_; rintro e w2 ⟨⟨r2, rfl, hq0, hq1⟩, rfl⟩))
    · go_ret
      exact ⟨⟨_, rfl, by omega, by omega⟩, hN⟩
    · go_ret
      exact ⟨⟨_, rfl, by omega, by omega⟩, hN⟩
    · have hq := hr1 (by omega)
      go_ret
      exact ⟨⟨_, rfl, by omega, fun _ => ⟨by omega, by omega, hq.2, by omega, sn⟩⟩, hN⟩
  · go_enter Try.func15, Try.ntmps15
    go_wp2
    go_ret
    exact ⟨⟨_, rfl, by omega, by omega⟩, (Below.refl _ _).alloc (Nat.le_refl _) _⟩
/-- What was copied of a way: the same, in memory of its own from z on. -/
def MadeY (z : Nat) (w : World) (y y' : Yx) : Prop := y'.l = y.l ∧ y'.c = y.l.length ∧ ∃ p, y'.a = some ⟨p, 0, none⟩ ∧ z ≤ p ∧ RowX 104 2 Cx.cells w p y'.l.length y'.l y'.l.length
set_option maxRecDepth 100000 in
theorem MadeY.inn {z : Nat} {w : World} {h h' : Yx} (m : MadeY z w h h') : h'.In w := by
  obtain ⟨_, _, p, e, _, r⟩ := m
  show Xs 2 Cx.cells w h'.a h'.l
  rw [e]; exact r.xs Cx.cells_length (Nat.le_refl _) (Nat.le_refl _)
set_option maxRecDepth 100000 in
theorem MadeY.later {z : Nat} {w w' : World} {h h' : Yx} (m : MadeY z w h h') (hb : Below w.heap.size w w') : MadeY z w' h h' := by
  obtain ⟨l, c, p, e, hz, r⟩ := m
  exact ⟨l, c, p, e, hz, r.later hb⟩
set_option maxRecDepth 100000 in
theorem MadeY.other {z : Nat} {w : World} {h h' : Yx} (m : MadeY z w h h') {g : Nat} (hg : g < z) (o : Nat) (v : Value) : MadeY z (w.setCell ⟨g, o, none⟩ v) h h' := by
  obtain ⟨l, c, p, e, hz, r⟩ := m
  exact ⟨l, c, p, e, hz, r.setOther (by simp; omega) v⟩
set_option maxRecDepth 100000 in
theorem MadeY.weak {z z' : Nat} {w : World} {h h' : Yx} (m : MadeY z w h h') (hz : z' ≤ z) : MadeY z' w h h' := by
  obtain ⟨l, c, p, e, h1, r⟩ := m
  exact ⟨l, c, p, e, by omega, r⟩
/-- The first k of m are made of l's. -/
def MadeYs (z : Nat) (w : World) (l m : List Yx) (k : Nat) : Prop := ∃ hl : m.length = l.length, ∀ j (h : j < l.length), j < k → MadeY z w l[j] (m[j]'(by omega))
set_option maxRecDepth 100000 in
theorem MadeYs.likes {z : Nat} {w : World} {l m : List Yx} (h : MadeYs z w l m l.length) : YLikes l m := ⟨h.1, fun k hk => (h.2 k hk hk).1⟩
set_option maxRecDepth 100000 in
theorem MadeYs.inn {z : Nat} {w : World} {l m : List Yx} (h : MadeYs z w l m l.length) : ∀ x ∈ m, x.In w := fun x hx => by
  obtain ⟨k, hk, rfl⟩ := List.getElem_of_mem hx
  exact (h.2 k (by rw [← h.1]; exact hk) (by rw [← h.1]; exact hk)).inn
set_option maxRecDepth 100000 in
theorem MadeYs.later {z k : Nat} {w w' : World} {l m : List Yx} (h : MadeYs z w l m k) (hb : Below w.heap.size w w') : MadeYs z w' l m k := ⟨h.1, fun j hj hk => (h.2 j hj hk).later hb⟩
set_option maxRecDepth 100000 in
theorem MadeYs.other {z k : Nat} {w : World} {l m : List Yx} (h : MadeYs z w l m k) {g : Nat} (hg : g < z) (o : Nat) (v : Value) : MadeYs z (w.setCell ⟨g, o, none⟩ v) l m k := ⟨h.1, fun j hj hk => (h.2 j hj hk).other hg o v⟩
end Go.Proofs.Ytficfhcmbhlagab
