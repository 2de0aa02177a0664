import Derived.Test.YtficfhcmbhlagabGreatBook2
import Derived.Test.YtficfhcmbhlagabGreatBook
import Derived.Test.YtficfhcmbhlagabGreatFld
import Derived.Test.YtficfhcmbhlagabGreatAft
namespace Go.Proofs.YtficfhcmbhlagabGreat
open Go.RowKit
set_option maxRecDepth 100000 in
theorem szBox_any (n cap : Nat) (left : Int) (ao : Option Addr) (w : World) (h0 : 0 ≤ left) (h1 : left ≤ 1048576) (hn : n ≤ 9223372036854775807) :
    Calls Tryz.prog 8 #[.slice ao n cap, .int .i64 left] w fun e w' => (∃ r : Int, e = .returned (.int .i64 r) ∧ -1 ≤ r ∧ (0 ≤ r → r + n ≤ left)) ∧ w' = w := by
  by_cases h : (n : Int) ≤ left
  · exact (szBox_ok n cap left ao w h h1).mono fun e w' ⟨he, hw⟩ => ⟨⟨_, he, by omega, by omega⟩, hw⟩
  · exact (szBox_no n cap left ao w (by omega) h0 hn).mono fun e w' ⟨he, hw⟩ => ⟨⟨_, he, by omega, by omega⟩, hw⟩
/-- What is held fits into a machine. -/
structure Hx.Wide (h : Hx) : Prop where
  tn : h.tl.length ≤ 9223372036854775807
  nn : h.nl.length ≤ 9223372036854775807
  sn : h.n.size ≤ 9223372036854775807
set_option maxRecDepth 100000 in
set_option maxHeartbeats 1000000 in
theorem szHeld_any (h : Hx) (left : Int) (w : World) (h0 : 0 ≤ left) (h1 : left ≤ 1048576) (hw : h.Wide) :
    Calls Tryz.prog 65 #[h.val, .int .i64 left] w fun e w' => (∃ r : Int, e = .returned (.int .i64 r) ∧ -1 ≤ r ∧ r ≤ left ∧ (0 ≤ r → h.Fit)) ∧ Below w.heap.size w w' := by
  obtain ⟨tn, nn, sn⟩ := hw
  by_cases hs : (h.n.size : Int) ≤ left
  · go_enter Tryz.func65, Tryz.ntmps65
    go_wp2_with (go_at_call 8; refine (szBox_any _ _ _ _ _ (by omega) (by omega) (by assumption)).mono ?_; rintro e wr ⟨⟨r, rfl, hr0, hr1⟩, rfl⟩)
    · go_ret
      exact ⟨⟨_, rfl, by omega, by omega, by omega⟩, balloc (Below.refl _ _) _⟩
    · go_ret
      exact ⟨⟨_, rfl, by omega, by omega, by omega⟩, balloc (Below.refl _ _) _⟩
    · go_ret
      exact ⟨⟨_, rfl, by omega, by omega, fun _ => ⟨by omega, by omega, sn⟩⟩, balloc (Below.refl _ _) _⟩
  · go_enter Tryz.func65, Tryz.ntmps65
    go_wp2
    go_ret
    exact ⟨⟨_, rfl, by omega, by omega, by omega⟩, (Below.refl _ _).alloc (Nat.le_refl _) _⟩
set_option maxRecDepth 100000 in
set_option maxHeartbeats 1000000 in
theorem szHeldS_any (l : List Hx) (ao : Option Addr) (cap : Nat) (w : World) (hl : Xs 3 Hx.cells w ao l) (hn : l.length ≤ 9223372036854775807) (hs : ∀ h ∈ l, h.Wide) (left : Int) (h0 : 0 ≤ left) (h1 : left ≤ 1048576) :
    Calls Tryz.prog 35 #[.slice ao l.length cap, .int .i64 left] w fun e w' => (∃ r : Int, e = .returned (.int .i64 r) ∧ -1 ≤ r ∧ (0 ≤ r → r + l.length ≤ left ∧ ∀ h ∈ l, h.Fit)) ∧ Below w.heap.size w w' := by
  by_cases hle : (l.length : Int) ≤ left
  · go_enter Tryz.func35, Tryz.ntmps35
    go_wp2
    go_loopw [1, 5] (fun lv i wr => ∃ (k : Nat) (r : Int), k ≤ l.length ∧ i = .int .i64 k ∧ lv = .int .i64 r ∧ 0 ≤ r ∧ r + l.length ≤ left ∧ Below w.heap.size w wr ∧ Hid (∀ h ∈ l.take k, h.Fit)) (fun _ i _ => l.length - (intOf i).toNat)
    case atStart => exact ⟨0, left - l.length, Nat.zero_le _, rfl, rfl, by omega, by omega, Below.refl _ _, by simp [Hid]⟩
    case round =>
      obtain ⟨k, r, hk, rfl, rfl, hr0, hr1, hN, hfit⟩ := hrel
      by_cases hlt : k < l.length
      · rcases hl with h | ⟨bl, off, rfl, hc⟩
        · subst h; simp at hlt
        · have hbx := (hc k hlt).later hN
          have hsz := hs l[k] (List.getElem_mem hlt)
          obtain ⟨b, hbe⟩ : ∃ b, b = l[k] := ⟨_, rfl⟩
          rw [← hbe] at hbx hsz
          have HB : Hid (b = l[k]) := hbe
          clear hbe hc
          obtain ⟨c0, c1, c2⟩ := hx_at hbx
          clear hbx
          go_wp2_with (go_at_call 65; refine (szHeld_any b _ _ (by omega) (by omega) hsz).mono ?_; rintro e w1 ⟨⟨r', rfl, hq0, hq1, hq2⟩, hb1⟩; have hN1 : Below w.heap.size w w1 := bstepB hN (Nat.le_refl _) hb1; clear hN c0 c1 c2 hb1)
          · go_ret
            exact ⟨⟨_, rfl, by omega, by omega⟩, hN1⟩
          · have hbf : b.Fit := hq2 (by omega)
            go_roundw
            case rel => exact ⟨k + 1, r', by omega, by go_num, rfl, by omega, by omega, hN1, by
              rw [Hid, List.take_succ_eq_append_getElem hlt]
              intro h hm
              rcases List.mem_append.1 hm with hm | hm
              · exact hfit.out h hm
              · simp only [List.mem_singleton] at hm; rw [hm, ← HB.out]; exact hbf⟩
            case measure => simp [intOf]; omega
      · rw [List.take_of_length_le (by omega)] at hfit
        go_wp2
        go_ret
        exact ⟨⟨_, rfl, by omega, fun _ => ⟨by omega, hfit.out⟩⟩, hN⟩
  · go_enter Tryz.func35, Tryz.ntmps35
    go_wp2
    go_ret
    exact ⟨⟨_, rfl, by omega, by omega⟩, Below.refl _ _⟩
set_option maxRecDepth 100000 in
set_option maxHeartbeats 1000000 in
theorem szBook_any (b : Bk) (w : World) (hf : Xs 3 Fx.cells w b.fa b.fl) (hnf : b.fl.length ≤ 9223372036854775807) (hsf : ∀ f ∈ b.fl, f.n.size ≤ 9223372036854775807) (hh : Xs 3 Hx.cells w b.ha b.hl) (hn : b.hl.length ≤ 9223372036854775807) (hs : ∀ h ∈ b.hl, h.Wide) (left : Int) (h0 : 0 ≤ left) (h1 : left ≤ 1048576) :
    Calls Tryz.prog 7 #[b.val, .int .i64 left] w fun e w' => (∃ r : Int, e = .returned (.int .i64 r) ∧ -1 ≤ r ∧ (0 ≤ r → r ≤ left ∧ b.fl.length ≤ left ∧ b.hl.length ≤ left ∧ ∀ h ∈ b.hl, h.Fit)) ∧ Below w.heap.size w w' := by
  go_enter Tryz.func7, Tryz.ntmps7
  go_wp2_with (first
    | (go_at_call 34; refine (szFldS_any _ _ _ _ (hf.later (balloc (Below.refl _ _) _)) hnf hsf _ h0 h1).mono ?_; rintro e w1 ⟨⟨r1, rfl, hr0, hr1⟩, hb1⟩; have hN : Below w.heap.size w w1 := bstep (balloc (Below.refl _ _) _) hb1; have k2 : w1.cell? ⟨w.heap.size, 2, none⟩ = some (.slice b.ha b.hl.length b.hc) := (hb1.cell (p := ⟨w.heap.size, 2, none⟩) (by simp)).trans (by simp))
    | (go_at_call 35; refine (szHeldS_any _ _ _ _ (hh.later hN) hn hs _ (by omega) (by omega)).mono ?_; rintro e w2 ⟨⟨r2, rfl, hq0, hq1⟩, hb2⟩; have hN2 : Below w.heap.size w w2 := bstep hN hb2))
  · go_ret
    exact ⟨⟨_, rfl, by omega, by omega⟩, hN⟩
  · go_ret
    exact ⟨⟨_, rfl, by omega, by omega⟩, hN2⟩
  · have hq := hq1 (by omega)
    go_ret
    exact ⟨⟨_, rfl, by omega, fun _ => ⟨by omega, by omega, by omega, hq.2⟩⟩, hN2⟩
/-- The same held, laid elsewhere. -/
structure Hx.Like (a b : Hx) : Prop where
  n : a.n = b.n
  t : a.tl = b.tl
  x : a.nl = b.nl
set_option maxRecDepth 100000 in
set_option maxHeartbeats 1000000 in
theorem eqHeld_like (a b : Hx) (w : World) (ha : a.In w) (hb : b.In w) (fa : a.Fit) (h : a.Like b) :
    Calls Tryz.prog 82 #[a.val, b.val] w fun e w' => e = .returned (.bool true) ∧ Below w.heap.size w w' := by
  obtain ⟨bn, bta, btl, btc, bna, bnl, bnc⟩ := b
  obtain ⟨h1, h2, h3⟩ := h
  simp only at h1 h2 h3
  subst h1 h2 h3
  go_enter Tryz.func82, Tryz.ntmps82
  go_wp2_with fail
  refine (eqBoxS_any a.tl a.tl _ _ _ _ _ (ha.1.later (balloc (balloc (Below.refl _ _) _) _)) (hb.1.later (balloc (balloc (Below.refl _ _) _) _)) fa.tn fa.tn).mono ?_
  rintro e w1 ⟨rfl, hb1⟩
  have hN : Below w.heap.size w w1 := bstep (balloc (balloc (Below.refl _ _) _) _) hb1
  have k2 : w1.cell? ⟨w.heap.size, 2, none⟩ = some (.slice a.na a.nl.length a.nc) := (hb1.cell (p := ⟨w.heap.size, 2, none⟩) (by simp; omega)).trans (by simp)
  have k3 : w1.cell? ⟨w.heap.size + 1, 2, none⟩ = some (.slice bna a.nl.length bnc) := (hb1.cell (p := ⟨w.heap.size + 1, 2, none⟩) (by simp)).trans (by simp)
  rw [eqL_refl]
  clear hb1
  go_wp2_with fail
  refine (eqBoxS_any a.nl a.nl _ _ _ _ _ (ha.2.later hN) (hb.2.later hN) fa.nn fa.nn).mono ?_
  rintro e w2 ⟨rfl, hb2⟩
  rw [eqL_refl]
  go_wp2
  go_ret
  exact ⟨rfl, bstep hN hb2⟩
/-- Two lists of the same, laid elsewhere. -/
structure Likes (l m : List Hx) : Prop where
  len : m.length = l.length
  like : ∀ k (h : k < l.length), l[k].Like (m[k]'(by omega))
set_option maxRecDepth 100000 in
set_option maxHeartbeats 2000000 in
theorem eqHeldS_like (l m : List Hx) (aa ab : Option Addr) (ca cb : Nat) (w : World) (hla : Xs 3 Hx.cells w aa l) (hlb : Xs 3 Hx.cells w ab m) (hna : l.length ≤ 1048576) (ha : ∀ h ∈ l, h.In w ∧ h.Fit) (hb : ∀ h ∈ m, h.In w) (hlk : Likes l m) :
    Calls Tryz.prog 45 #[.slice aa l.length ca, .slice ab m.length cb] w fun e w' => e = .returned (.bool true) ∧ Below w.heap.size w w' := by
  have hml := hlk.len
  rw [hml]
  go_enter Tryz.func45, Tryz.ntmps45
  go_wp2
  go_loopw [5] (fun i wr => ∃ k : Nat, k ≤ l.length ∧ i = .int .i64 k ∧ Below w.heap.size w wr) (fun i _ => l.length - (intOf i).toNat)
  case atStart => exact ⟨0, Nat.zero_le _, rfl, Below.refl _ _⟩
  case round =>
    obtain ⟨k, hk, rfl, hN⟩ := hrel
    by_cases hlt : k < l.length
    · rcases hla with h | ⟨bl, off, rfl, hc⟩
      · subst h; simp at hlt
      rcases hlb with h | ⟨bl2, off2, rfl, hc2⟩
      · subst h; simp at hml; omega
      have hbx := (hc k hlt).later hN
      have hby := (hc2 k (by omega)).later hN
      have hia := ha l[k] (List.getElem_mem hlt)
      have hib := hb (m[k]'(by omega)) (List.getElem_mem _)
      have hlike := hlk.like k hlt
      obtain ⟨a, hae⟩ : ∃ a, a = l[k] := ⟨_, rfl⟩
      obtain ⟨b, hbe⟩ : ∃ b, b = m[k]'(by omega) := ⟨_, rfl⟩
      rw [← hae] at hbx hia hlike
      rw [← hbe] at hby hib hlike
      clear hae hbe hc hc2
      obtain ⟨c0, c1, c2⟩ := hx_at hbx
      obtain ⟨d0, d1, d2⟩ := hx_at hby
      clear hbx hby
      have hne : Nonempty (Aft wr) := ⟨⟨wr, Below.refl _ _⟩⟩
      have f0 := Aft.cell c0
      have f1 := Aft.cell c1
      have f2 := Aft.cell c2
      have g0 := Aft.cell d0
      have g1 := Aft.cell d1
      have g2 := Aft.cell d2
      have hi0 : (0 : Int) ≤ (k : Int) := by omega
      have hi1 : (k : Int) < (l.length : Int) := by omega
      clear c0 c1 c2 d0 d1 d2
      go_wp2_with fail
      refine wp_region_aft (by kernel_rfl) (by kernel_rfl) ?_
      repeat (go_big_quiet_step ((go_at_call 82; exact Aft.call _ (eqHeld_like a b _ (hia.1.later (bstep hN (Aft.h _))) (hib.later (bstep hN (Aft.h _))) hia.2 hlike))))
      refine wpQuiet_nil ?_
      rintro _ ⟨s, rfl⟩
      have hb1 := s.h
      generalize s.w = w1 at hb1
      clear s f0 f1 f2 g0 g1 g2 hne
      go_wp2
      go_roundw
      case rel => exact ⟨k + 1, by omega, by go_num, bstep hN hb1⟩
      case measure => simp [intOf]; omega
    · go_wp2
      go_ret
      exact ⟨rfl, hN⟩
set_option maxRecDepth 100000 in
set_option maxHeartbeats 2000000 in
theorem eqBook_like (b : Bk) (fa : Option Addr) (fc : Nat) (ha : Option Addr) (m : List Hx) (hc : Nat) (w : World) (hf : Xs 3 Fx.cells w b.fa b.fl) (hf2 : Xs 3 Fx.cells w fa b.fl) (hnf : b.fl.length ≤ 1048576)
    (hh : Xs 3 Hx.cells w b.ha b.hl) (hh2 : Xs 3 Hx.cells w ha m) (hnh : b.hl.length ≤ 1048576) (hg : ∀ h ∈ b.hl, h.In w ∧ h.Fit) (hg2 : ∀ h ∈ m, h.In w) (hlk : Likes b.hl m) :
    Calls Tryz.prog 14 #[b.val, .agg #[.int .i64 b.now, .slice fa b.fl.length fc, .slice ha m.length hc]] w fun e w' => e = .returned (.bool true) ∧ Below w.heap.size w w' := by
  go_enter Tryz.func14, Tryz.ntmps14
  go_wp2_with fail
  refine (eqFldS_same b.fl _ _ _ _ _ (hf.later (balloc (balloc (Below.refl _ _) _) _)) (hf2.later (balloc (balloc (Below.refl _ _) _) _)) hnf).mono ?_
  rintro e w1 ⟨rfl, hb1⟩
  have hN : Below w.heap.size w w1 := bstep (balloc (balloc (Below.refl _ _) _) _) hb1
  have k2 : w1.cell? ⟨w.heap.size, 2, none⟩ = some (.slice b.ha b.hl.length b.hc) := (hb1.cell (p := ⟨w.heap.size, 2, none⟩) (by simp; omega)).trans (by simp)
  have k3 : w1.cell? ⟨w.heap.size + 1, 2, none⟩ = some (.slice ha m.length hc) := (hb1.cell (p := ⟨w.heap.size + 1, 2, none⟩) (by simp)).trans (by simp)
  clear hb1
  go_wp2_with fail
  refine (eqHeldS_like b.hl m _ _ _ _ _ (hh.later hN) (hh2.later hN) hnh (fun h hm => ⟨(hg h hm).1.later hN, (hg h hm).2⟩) (fun h hm => (hg2 h hm).later hN) hlk).mono ?_
  rintro e w2 ⟨rfl, hb2⟩
  go_wp2
  go_ret
  exact ⟨rfl, bstep hN hb2⟩
end Go.Proofs.YtficfhcmbhlagabGreat
