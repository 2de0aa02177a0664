import Derived.Test.YtiojdbffjdoniaaGreatDoorBehind
import Derived.Test.YtiojdbffjdoniaaGreatDoorNear2
namespace Go.Proofs.YtiojdbffjdoniaaGreatDoor
set_option maxRecDepth 100000
set_option maxHeartbeats 1000000
open Go.RowKit
def dL (la lb : List Bx) : Bool := la.any fun a => lb.any (dF a)
def dN (a b : Hx) : Bool := dL a.tl b.tl || (dL a.tl b.nl || (dL a.nl b.tl || dL a.nl b.nl))
theorem dU (la lb : List Bx) (v : Bool) (hv : dL la lb = v) (aa ab : Option Addr) (ca cb : Nat) (w : World) (hla : iL w aa la) (hlb : iL w ab lb) (hna : la.length <= 1048576) (hnb : lb.length <= 1048576) :
 Calls Tryz.prog 122 #[.slice aa la.length ca, .slice ab lb.length cb] w fun e w' => e = .returned (.bool v) /\ Below w.heap.size w w' := by
 subst hv; exact yC la lb aa ab ca cb w hla hlb hna hnb
structure Hx.Fit (h : Hx) : Prop where
 tn : h.tl.length <= 1048576
 nn : h.nl.length <= 1048576
 sn : h.n.size <= 9223372036854775807
theorem IH (a b : Hx) (w : World) (ha : a.In w) (hb : b.In w) (fa : a.Fit) (fb : b.Fit) :
 Calls Tryz.prog 72 #[a.val, b.val] w fun e w' => e = .returned (.bool (dN a b)) /\ Below w.heap.size w w' := by
 obtain ⟨V, hV⟩ : ∃ V, V = dN a b := ⟨_, rfl⟩; rw [← hV]; have HV : Hid (V = dN a b) := hV; clear hV; have hB0 : Below w.heap.size w ((w.alloc (.cells #[.string a.n, .slice a.ta a.tl.length a.tc, .slice a.na a.nl.length a.nc] 42)).alloc (.cells #[.string b.n, .slice b.ta b.tl.length b.tc, .slice b.na b.nl.length b.nc] 42)) := aA (aA (br _ _) _) _
 have C : ∀ w1, Below ((w.alloc (.cells #[.string a.n, .slice a.ta a.tl.length a.tc, .slice a.na a.nl.length a.nc] 42)).alloc (.cells #[.string b.n, .slice b.ta b.tl.length b.tc, .slice b.na b.nl.length b.nc] 42)).heap.size ((w.alloc (.cells #[.string a.n, .slice a.ta a.tl.length a.tc, .slice a.na a.nl.length a.nc] 42)).alloc (.cells #[.string b.n, .slice b.ta b.tl.length b.tc, .slice b.na b.nl.length b.nc] 42)) w1 ->
  w1.cell? ⟨w.heap.size, 1, none⟩ = some (.slice a.ta a.tl.length a.tc) /\ w1.cell? ⟨w.heap.size, 2, none⟩ = some (.slice a.na a.nl.length a.nc) /\ w1.cell? ⟨w.heap.size + 1, 1, none⟩ = some (.slice b.ta b.tl.length b.tc) /\ w1.cell? ⟨w.heap.size + 1, 2, none⟩ = some (.slice b.na b.nl.length b.nc) :=
  fun w1 h => ⟨(h.cell (by simp; omega)).trans (by simp), (h.cell (by simp; omega)).trans (by simp), (h.cell (by simp)).trans (by simp), (h.cell (by simp)).trans (by simp)⟩
 have HC := C; clear C; have HCh : Hid (∀ w1, Below ((w.alloc (.cells #[.string a.n, .slice a.ta a.tl.length a.tc, .slice a.na a.nl.length a.nc] 42)).alloc (.cells #[.string b.n, .slice b.ta b.tl.length b.tc, .slice b.na b.nl.length b.nc] 42)).heap.size ((w.alloc (.cells #[.string a.n, .slice a.ta a.tl.length a.tc, .slice a.na a.nl.length a.nc] 42)).alloc (.cells #[.string b.n, .slice b.ta b.tl.length b.tc, .slice b.na b.nl.length b.nc] 42)) w1 -> _) := HC; clear HC
 go_enter Tryz.func72, Tryz.ntmps72
 go_wp2_with fail
 rcases Bool.eq_false_or_eq_true (dL a.tl b.tl) with h1 | h1
 · refine (dU _ _ _ h1 _ _ _ _ _ (ha.1.zL hB0) (hb.1.zL hB0) fa.tn fb.tn).mono ?_
   rintro e w1 ⟨rfl, hb1⟩; go_wp2_with fail
   go_ret; exact ⟨aC (by rw [HV.out, dN, h1]; rfl), aD hB0 hb1⟩
 refine (dU _ _ _ h1 _ _ _ _ _ (ha.1.zL hB0) (hb.1.zL hB0) fa.tn fb.tn).mono ?_; rintro e w1 ⟨rfl, hb1⟩; have hN1 := aD hB0 hb1; obtain ⟨a1, a2, a3, a4⟩ := HCh.out w1 hb1; go_wp2_with fail
 rcases Bool.eq_false_or_eq_true (dL a.tl b.nl) with h2 | h2
 · refine (dU _ _ _ h2 _ _ _ _ _ (ha.1.zL hN1) (hb.2.zL hN1) fa.tn fb.nn).mono ?_
   rintro e w2 ⟨rfl, hb2⟩; clear a1 a2 a3 a4; go_wp2_with fail
   go_ret; exact ⟨aC (by rw [HV.out, dN, h1, h2]; rfl), aD hN1 hb2⟩
 refine (dU _ _ _ h2 _ _ _ _ _ (ha.1.zL hN1) (hb.2.zL hN1) fa.tn fb.nn).mono ?_; rintro e w2 ⟨rfl, hb2⟩; have hN2 := aD hN1 hb2; have hc2 := aT hb1 (nlq _) hb2; clear a1 a2 a3 a4; obtain ⟨a1, a2, a3, a4⟩ := HCh.out w2 hc2; go_wp2_with fail
 rcases Bool.eq_false_or_eq_true (dL a.nl b.tl) with h3 | h3
 · refine (dU _ _ _ h3 _ _ _ _ _ (ha.2.zL hN2) (hb.1.zL hN2) fa.nn fb.tn).mono ?_
   rintro e w3 ⟨rfl, hb3⟩; clear a1 a2 a3 a4; go_wp2_with fail
   go_ret; exact ⟨aC (by rw [HV.out, dN, h1, h2, h3]; rfl), aD hN2 hb3⟩
 refine (dU _ _ _ h3 _ _ _ _ _ (ha.2.zL hN2) (hb.1.zL hN2) fa.nn fb.tn).mono ?_; rintro e w3 ⟨rfl, hb3⟩; have hN3 := aD hN2 hb3; have hc3 := aT hc2 (nlq _) hb3; clear a1 a2 a3 a4; obtain ⟨a1, a2, a3, a4⟩ := HCh.out w3 hc3; go_wp2_with fail
 refine (dU _ _ _ rfl _ _ _ _ _ (ha.2.zL hN3) (hb.2.zL hN3) fa.nn fb.nn).mono ?_; rintro e w4 ⟨rfl, hb4⟩; clear a1 a2 a3 a4; go_wp2_with fail
 go_ret; exact ⟨aC (by rw [HV.out, dN, h1, h2, h3]; rfl), aD hN3 hb4⟩
set_option maxHeartbeats 2000000
theorem xS (n cap : Nat) (left : Int) (ao : Option Addr) (w : World) (h0 : 0 <= left) (h1 : left <= 1048576) (hn : n <= 9223372036854775807) :
 Calls Tryz.prog 47 #[.slice ao n cap, .int .i64 left] w fun e w' => (∃ r : Int, e = .returned (.int .i64 r) /\ -1 <= r /\ (0 <= r -> r + n <= left)) /\ w' = w := by
 by_cases h : (n : Int) <= left
 · exact (LQ n cap left ao w h h1).mono fun e w' ⟨he, hw⟩ => ⟨⟨_, he, by omega, by omega⟩, hw⟩
 · exact (LE n cap left ao w (by omega) h0 hn).mono fun e w' ⟨he, hw⟩ => ⟨⟨_, he, by omega, by omega⟩, hw⟩
structure Hx.Wide (h : Hx) : Prop where
 tn : h.tl.length <= 9223372036854775807
 nn : h.nl.length <= 9223372036854775807
 sn : h.n.size <= 9223372036854775807
theorem FR (h : Hx) (left : Int) (w : World) (h0 : 0 <= left) (h1 : left <= 1048576) (hw : h.Wide) :
 Calls Tryz.prog 96 #[h.val, .int .i64 left] w fun e w' => (∃ r : Int, e = .returned (.int .i64 r) /\ -1 <= r /\ r <= left /\ (0 <= r -> h.Fit)) /\ Below w.heap.size w w' := by
 obtain ⟨tn, nn, sn⟩ := hw
 by_cases hs : (h.n.size : Int) <= left
 · go_enter Tryz.func96, Tryz.ntmps96
   go_wp2_with (go_at_call 47; refine (xS _ _ _ _ _ (by omega) (by omega) (by assumption)).mono ?_; rintro e wr ⟨⟨r, rfl, hr0, hr1⟩, rfl⟩)
   · go_ret
     exact ⟨⟨_, rfl, by omega, by omega, by omega⟩, aA (br _ _) _⟩
   · go_ret
     exact ⟨⟨_, rfl, by omega, by omega, by omega⟩, aA (br _ _) _⟩
   · go_ret
     exact ⟨⟨_, rfl, by omega, by omega, fun _ => ⟨by omega, by omega, sn⟩⟩, aA (br _ _) _⟩
 · go_enter Tryz.func96, Tryz.ntmps96
   go_wp2
   go_ret; exact ⟨⟨_, rfl, by omega, by omega, by omega⟩, (br _ _).alloc (nlq _) _⟩
theorem AD (l : List Hx) (ao : Option Addr) (cap : Nat) (w : World) (hl : Xs 3 Hx.cells w ao l) (hn : l.length <= 9223372036854775807) (hs : ∀ h ∈ l, h.Wide) (left : Int) (h0 : 0 <= left) (h1 : left <= 1048576) :
 Calls Tryz.prog 45 #[.slice ao l.length cap, .int .i64 left] w fun e w' => (∃ r : Int, e = .returned (.int .i64 r) /\ -1 <= r /\ (0 <= r -> r + l.length <= left /\ ∀ h ∈ l, h.Fit)) /\ Below w.heap.size w w' := by
 by_cases hle : (l.length : Int) <= left
 · go_enter Tryz.func45, Tryz.ntmps45
   go_wp2
   go_loopw [1, 5] (fun lv i wr => ∃ (k : Nat) (r : Int), k <= l.length /\ i = .int .i64 k /\ lv = .int .i64 r /\ 0 <= r /\ r + l.length <= left /\ Below w.heap.size w wr /\ Hid (∀ h ∈ l.take k, h.Fit)) (fun _ i _ => l.length - (intOf i).toNat)
   case atStart => exact ⟨0, left - l.length, nz _, rfl, rfl, by omega, by omega, br _ _, by simp [Hid]⟩
   case round =>
    obtain ⟨k, r, hk, rfl, rfl, hr0, hr1, hN, hfit⟩ := hrel
    by_cases hlt : k < l.length
    · rcases hl with h | ⟨bl, off, rfl, hc⟩
      · subst h; simp at hlt
      · have hbx := (hc k hlt).zL hN
        have hsz := hs l[k] (lgm hlt); obtain ⟨b, hbe⟩ : ∃ b, b = l[k] := ⟨_, rfl⟩; rw [← hbe] at hbx hsz; have HB : Hid (b = l[k]) := hbe; clear hbe hc; obtain ⟨c0, c1, c2⟩ := eY hbx; clear hbx
        go_wp2_with (go_at_call 96; refine (FR b _ _ (by omega) (by omega) hsz).mono ?_; rintro e w1 ⟨⟨r', rfl, hq0, hq1, hq2⟩, hb1⟩; have hN1 : Below w.heap.size w w1 := aT hN (nlq _) hb1; clear hN c0 c1 c2 hb1)
        · go_ret
          exact ⟨⟨_, rfl, by omega, by omega⟩, hN1⟩
        · have hbf : b.Fit := hq2 (by omega)
          go_roundw
          case rel => exact ⟨k + 1, r', by omega, by go_num, rfl, by omega, by omega, hN1, by
           rw [Hid, List.take_succ_eq_append_getElem hlt]; intro h hm
           rcases lma.1 hm with hm | hm
           · exact hfit.out h hm
           · simp only [List.mem_singleton] at hm; rw [hm, ← HB.out]; exact hbf⟩
          case measure => simp [intOf]; omega
    · rw [ltl (by omega)] at hfit
      go_wp2
      go_ret; exact ⟨⟨_, rfl, by omega, fun _ => ⟨by omega, hfit.out⟩⟩, hN⟩
 · go_enter Tryz.func45, Tryz.ntmps45
   go_wp2
   go_ret; exact ⟨⟨_, rfl, by omega, by omega⟩, br _ _⟩
theorem D4 (b : Bk) (w : World) (hf : Xs 3 Fx.cells w b.fa b.fl) (hnf : b.fl.length <= 9223372036854775807) (hsf : ∀ f ∈ b.fl, f.n.size <= 9223372036854775807) (hh : Xs 3 Hx.cells w b.ha b.hl) (hn : b.hl.length <= 9223372036854775807) (hs : ∀ h ∈ b.hl, h.Wide) (left : Int) (h0 : 0 <= left) (h1 : left <= 1048576) :
 Calls Tryz.prog 13 #[b.val, .int .i64 left] w fun e w' => (∃ r : Int, e = .returned (.int .i64 r) /\ -1 <= r /\ (0 <= r -> r <= left /\ b.fl.length <= left /\ b.hl.length <= left /\ ∀ h ∈ b.hl, h.Fit)) /\ Below w.heap.size w w' := by
 go_enter Tryz.func13, Tryz.ntmps13
 go_wp2_with (first
  | (go_at_call 44; refine (F4 _ _ _ _ (hf.zL (aA (br _ _) _)) hnf hsf _ h0 h1).mono ?_; rintro e w1 ⟨⟨r1, rfl, hr0, hr1⟩, hb1⟩; have hN : Below w.heap.size w w1 := aD (aA (br _ _) _) hb1; have k2 : w1.cell? ⟨w.heap.size, 2, none⟩ = some (.slice b.ha b.hl.length b.hc) := (hb1.cell (p := ⟨w.heap.size, 2, none⟩) (by simp)).trans (by simp))
  | (go_at_call 45; refine (AD _ _ _ _ (hh.zL hN) hn hs _ (by omega) (by omega)).mono ?_; rintro e w2 ⟨⟨r2, rfl, hq0, hq1⟩, hb2⟩; have hN2 : Below w.heap.size w w2 := aD hN hb2))
 · go_ret
   exact ⟨⟨_, rfl, by omega, by omega⟩, hN⟩
 · go_ret
   exact ⟨⟨_, rfl, by omega, by omega⟩, hN2⟩
 · have hq := hq1 (by omega)
   go_ret; exact ⟨⟨_, rfl, by omega, fun _ => ⟨by omega, by omega, by omega, hq.2⟩⟩, hN2⟩
structure Hx.Like (a b : Hx) : Prop where
 n : a.n = b.n
 t : a.tl = b.tl
 x : a.nl = b.nl
theorem BY (a b : Hx) (w : World) (ha : a.In w) (hb : b.In w) (fa : a.Fit) (h : a.Like b) :
 Calls Tryz.prog 105 #[a.val, b.val] w fun e w' => e = .returned (.bool true) /\ Below w.heap.size w w' := by
 obtain ⟨bn, bta, btl, btc, bna, bnl, bnc⟩ := b; obtain ⟨h1, h2, h3⟩ := h; simp only at h1 h2 h3; subst h1 h2 h3
 go_enter Tryz.func105, Tryz.ntmps105
 go_wp2_with fail
 refine (oZ a.tl a.tl _ _ _ _ _ (ha.1.zL (aA (aA (br _ _) _) _)) (hb.1.zL (aA (aA (br _ _) _) _)) fa.tn fa.tn).mono ?_; rintro e w1 ⟨rfl, hb1⟩; have hN : Below w.heap.size w w1 := aD (aA (aA (br _ _) _) _) hb1; have k2 : w1.cell? ⟨w.heap.size, 2, none⟩ = some (.slice a.na a.nl.length a.nc) := (hb1.cell (p := ⟨w.heap.size, 2, none⟩) (by simp; omega)).trans (by simp); have k3 : w1.cell? ⟨w.heap.size + 1, 2, none⟩ = some (.slice bna a.nl.length bnc) := (hb1.cell (p := ⟨w.heap.size + 1, 2, none⟩) (by simp)).trans (by simp); rw [uZ]; clear hb1; go_wp2_with fail
 refine (oZ a.nl a.nl _ _ _ _ _ (ha.2.zL hN) (hb.2.zL hN) fa.nn fa.nn).mono ?_; rintro e w2 ⟨rfl, hb2⟩; rw [uZ]; go_wp2
 go_ret; exact ⟨rfl, aD hN hb2⟩
structure aI (l m : List Hx) : Prop where
 len : m.length = l.length
 like : ∀ k (h : k < l.length), l[k].Like (m[k]'(by omega))
theorem zK (l m : List Hx) (aa ab : Option Addr) (ca cb : Nat) (w : World) (hla : Xs 3 Hx.cells w aa l) (hlb : Xs 3 Hx.cells w ab m) (hna : l.length <= 1048576) (ha : ∀ h ∈ l, h.In w /\ h.Fit) (hb : ∀ h ∈ m, h.In w) (hlk : aI l m) :
 Calls Tryz.prog 53 #[.slice aa l.length ca, .slice ab m.length cb] w fun e w' => e = .returned (.bool true) /\ Below w.heap.size w w' := by
 have hml := hlk.len; rw [hml]
 go_enter Tryz.func53, Tryz.ntmps53
 go_wp2
 go_loopw [5] (fun i wr => ∃ k : Nat, k <= l.length /\ i = .int .i64 k /\ Below w.heap.size w wr) (fun i _ => l.length - (intOf i).toNat)
 case atStart => exact ⟨0, nz _, rfl, br _ _⟩
 case round =>
  obtain ⟨k, hk, rfl, hN⟩ := hrel
  by_cases hlt : k < l.length
  · rcases hla with h | ⟨bl, off, rfl, hc⟩
    · subst h; simp at hlt
    rcases hlb with h | ⟨bl2, off2, rfl, hc2⟩
    · subst h; simp at hml; omega
    have hbx := (hc k hlt).zL hN; have hby := (hc2 k (by omega)).zL hN; have hia := ha l[k] (lgm hlt); have hib := hb (m[k]'(by omega)) (lgm _); have hlike := hlk.like k hlt; obtain ⟨a, hae⟩ : ∃ a, a = l[k] := ⟨_, rfl⟩; obtain ⟨b, hbe⟩ : ∃ b, b = m[k]'(by omega) := ⟨_, rfl⟩; rw [← hae] at hbx hia hlike; rw [← hbe] at hby hib hlike; clear hae hbe hc hc2; obtain ⟨c0, c1, c2⟩ := eY hbx; obtain ⟨d0, d1, d2⟩ := eY hby; clear hbx hby; have hne : Nonempty (bG wr) := ⟨⟨wr, br _ _⟩⟩; have f0 := bG.cell c0; have f1 := bG.cell c1; have f2 := bG.cell c2; have g0 := bG.cell d0; have g1 := bG.cell d1; have g2 := bG.cell d2; have hi0 : (0 : Int) <= (k : Int) := by omega
    have hi1 : (k : Int) < (l.length : Int) := by omega
    clear c0 c1 c2 d0 d1 d2; go_wp2_with fail
    refine aL (by kernel_rfl) (by kernel_rfl) ?_
    repeat (go_big_quiet_step ((go_at_call 105; exact bG.call _ (BY a b _ (hia.1.zL (aD hN (bG.h _))) (hib.zL (aD hN (bG.h _))) hia.2 hlike))))
    refine wpQuiet_nil ?_; rintro _ ⟨s, rfl⟩; have hb1 := s.h; generalize s.w = w1 at hb1; clear s f0 f1 f2 g0 g1 g2 hne; go_wp2
    go_roundw
    case rel => exact ⟨k + 1, by omega, by go_num, aD hN hb1⟩
    case measure => simp [intOf]; omega
  · go_wp2
    go_ret; exact ⟨rfl, hN⟩
theorem sH (b : Bk) (fa : Option Addr) (fc : Nat) (ha : Option Addr) (m : List Hx) (hc : Nat) (w : World) (hf : Xs 3 Fx.cells w b.fa b.fl) (hf2 : Xs 3 Fx.cells w fa b.fl) (hnf : b.fl.length <= 1048576)
 (hh : Xs 3 Hx.cells w b.ha b.hl) (hh2 : Xs 3 Hx.cells w ha m) (hnh : b.hl.length <= 1048576) (hg : ∀ h ∈ b.hl, h.In w /\ h.Fit) (hg2 : ∀ h ∈ m, h.In w) (hlk : aI b.hl m) :
 Calls Tryz.prog 17 #[b.val, .agg #[.int .i64 b.now, .slice fa b.fl.length fc, .slice ha m.length hc]] w fun e w' => e = .returned (.bool true) /\ Below w.heap.size w w' := by
 go_enter Tryz.func17, Tryz.ntmps17
 go_wp2_with fail
 refine (BW b.fl _ _ _ _ _ (hf.zL (aA (aA (br _ _) _) _)) (hf2.zL (aA (aA (br _ _) _) _)) hnf).mono ?_; rintro e w1 ⟨rfl, hb1⟩; have hN : Below w.heap.size w w1 := aD (aA (aA (br _ _) _) _) hb1; have k2 : w1.cell? ⟨w.heap.size, 2, none⟩ = some (.slice b.ha b.hl.length b.hc) := (hb1.cell (p := ⟨w.heap.size, 2, none⟩) (by simp; omega)).trans (by simp); have k3 : w1.cell? ⟨w.heap.size + 1, 2, none⟩ = some (.slice ha m.length hc) := (hb1.cell (p := ⟨w.heap.size + 1, 2, none⟩) (by simp)).trans (by simp); clear hb1; go_wp2_with fail
 refine (zK b.hl m _ _ _ _ _ (hh.zL hN) (hh2.zL hN) hnh (fun h hm => ⟨(hg h hm).1.zL hN, (hg h hm).2⟩) (fun h hm => (hg2 h hm).zL hN) hlk).mono ?_; rintro e w2 ⟨rfl, hb2⟩; go_wp2
 go_ret; exact ⟨rfl, aD hN hb2⟩
def kR (fl : List Fx) (now : Int) (h : Hx) : Bool := bW h.n && (aM fl h.tl && (eI now h.tl && (h.nl.isEmpty || (aM fl h.nl && eI now h.nl))))
theorem pP (fl : List Fx) (l : List Bx) (v : Bool) (hv : aM fl l = v) (af ao : Option Addr) (cf cap : Nat) (w : World) (hfl : Xs 3 Fx.cells w af fl) (hl : iL w ao l) (hnf : fl.length <= 1048576) (hn : l.length <= 1048576) :
 Calls Tryz.prog 78 #[.slice af fl.length cf, .slice ao l.length cap] w fun e w' => e = .returned (.bool v) /\ Below w.heap.size w w' := by
 subst hv; exact lT fl l af ao cf cap w hfl hl hnf hn
theorem oV (l : List Bx) (now : Int) (v : Bool) (hv : eI now l = v) (ao : Option Addr) (cap : Nat) (w : World) (hl : iL w ao l) (hn : l.length <= 1048576) :
 Calls Tryz.prog 79 #[.slice ao l.length cap, .int .i64 now] w fun e w' => e = .returned (.bool v) /\ w' = w := by
 subst hv; exact uR l ao cap now w hl hn
theorem DS (b : Bk) (h : Hx) (w : World) (hf : Xs 3 Fx.cells w b.fa b.fl) (hnf : b.fl.length <= 1048576) (hh : h.In w) (fh : h.Fit) :
 Calls Tryz.prog 71 #[b.val, h.val] w fun e w' => e = .returned (.bool (kR b.fl b.now h)) /\ Below w.heap.size w w' := by
 obtain ⟨V, hV⟩ : ∃ V, V = kR b.fl b.now h := ⟨_, rfl⟩; rw [← hV]; have HV : Hid (V = kR b.fl b.now h) := hV; clear hV; obtain ⟨W0, hW0⟩ : ∃ W0, W0 = ((w.alloc (.cells #[.int .i64 b.now, .slice b.fa b.fl.length b.fc, .slice b.ha b.hl.length b.hc] 29)).alloc (.cells #[.string h.n, .slice h.ta h.tl.length h.tc, .slice h.na h.nl.length h.nc] 42)) := ⟨_, rfl⟩; have hB0 : Below w.heap.size w W0 := by rw [hW0]; exact aA (aA (br _ _) _) _
 have HC : Hid (∀ w1, Below W0.heap.size W0 w1 -> w1.cell? ⟨w.heap.size, 0, none⟩ = some (.int .i64 b.now) /\ w1.cell? ⟨w.heap.size, 1, none⟩ = some (.slice b.fa b.fl.length b.fc) /\
  w1.cell? ⟨w.heap.size + 1, 0, none⟩ = some (.string h.n) /\ w1.cell? ⟨w.heap.size + 1, 1, none⟩ = some (.slice h.ta h.tl.length h.tc) /\ w1.cell? ⟨w.heap.size + 1, 2, none⟩ = some (.slice h.na h.nl.length h.nc)) := by
  subst hW0; exact fun w1 h => ⟨(h.cell (by simp; omega)).trans (by simp), (h.cell (by simp; omega)).trans (by simp), (h.cell (by simp)).trans (by simp), (h.cell (by simp)).trans (by simp), (h.cell (by simp)).trans (by simp)⟩
 have HW0 : Hid (W0 = ((w.alloc (.cells #[.int .i64 b.now, .slice b.fa b.fl.length b.fc, .slice b.ha b.hl.length b.hc] 29)).alloc (.cells #[.string h.n, .slice h.ta h.tl.length h.tc, .slice h.na h.nl.length h.nc] 42))) := hW0; clear hW0
 go_enter Tryz.func71, Tryz.ntmps71
 go_wp2_with fail
 rw [← HW0.out]; obtain ⟨v1, h1⟩ : ∃ v, bW h.n = v := ⟨_, rfl⟩; refine (dS _ _ h1 _ fh.sn).mono ?_; rintro e W0 ⟨rfl, rfl⟩; obtain ⟨a1, a2, a3, a4, a5⟩ := HC.out _ (br _ _)
 cases v1 with
 | false =>
  go_wp2_with fail
  go_ret; exact ⟨aC (by rw [HV.out, kR, h1]; rfl), hB0⟩
 | true =>
 go_wp2_with fail
 obtain ⟨v2, h2⟩ : ∃ v, aM b.fl h.tl = v := ⟨_, rfl⟩; refine (pP _ _ _ h2 _ _ _ _ _ (hf.zL hB0) (hh.1.zL hB0) hnf fh.tn).mono ?_; rintro e w1 ⟨rfl, hb1⟩; have hN1 := aD hB0 hb1; clear a1 a2 a3 a4 a5; obtain ⟨a1, a2, a3, a4, a5⟩ := HC.out w1 hb1
 cases v2 with
 | false =>
  go_wp2_with fail
  go_ret; exact ⟨aC (by rw [HV.out, kR, h1, h2]; rfl), hN1⟩
 | true =>
 go_wp2_with fail
 obtain ⟨v3, h3⟩ : ∃ v, eI b.now h.tl = v := ⟨_, rfl⟩; refine (oV _ _ _ h3 _ _ _ (hh.1.zL hN1) fh.tn).mono ?_; rintro e w1 ⟨rfl, rfl⟩
 cases v3 with
 | false =>
  go_wp2_with fail
  go_ret; exact ⟨aC (by rw [HV.out, kR, h1, h2, h3]; rfl), hN1⟩
 | true =>
 by_cases hnl : h.nl.length = 0
 · have e0 : ((h.nl.length : Int) == 0) = true := by simp [hnl]
   have HE : Hid (h.nl.isEmpty = true) := by rw [Hid, List.isEmpty_iff]; exact List.eq_nil_of_length_eq_zero hnl
   clear hnl; go_wp2_with fail
   go_ret; exact ⟨aC (by rw [HV.out, kR, h1, h2, h3, HE.out]; rfl), hN1⟩
 have e0 : ((h.nl.length : Int) == 0) = false := by simp; intro hh; exact hnl (by rw [hh]; rfl)
 have HE : Hid (h.nl.isEmpty = false) := by rw [Hid, Bool.eq_false_iff]; intro hh; rw [List.isEmpty_iff] at hh; exact hnl (by rw [hh]; rfl)
 clear hnl; go_wp2_with fail
 obtain ⟨v4, h4⟩ : ∃ v, aM b.fl h.nl = v := ⟨_, rfl⟩; refine (pP _ _ _ h4 _ _ _ _ _ (hf.zL hN1) (hh.2.zL hN1) hnf fh.nn).mono ?_; rintro e w2 ⟨rfl, hb2⟩; have hN2 := aD hN1 hb2; clear a1 a2 a3 a4 a5; obtain ⟨a1, a2, a3, a4, a5⟩ := HC.out w2 (aT hb1 (nlq _) hb2)
 cases v4 with
 | false =>
  go_wp2_with fail
  go_ret; exact ⟨aC (by rw [HV.out, kR, h1, h2, h3, HE.out, h4]; rfl), hN2⟩
 | true =>
 go_wp2_with fail
 refine (oV _ _ _ rfl _ _ _ (hh.2.zL hN2) fh.nn).mono ?_; rintro e w2 ⟨rfl, rfl⟩; go_wp2_with fail
 go_ret; exact ⟨aC (by rw [HV.out, kR, h1, h2, h3, HE.out, h4]; rfl), hN2⟩
set_option maxHeartbeats 4000000
def dQ (fl : List Fx) (now : Int) (h : Hx) : Bool := aM fl h.tl && (eI now h.tl && (h.nl.isEmpty || (aM fl h.nl && eI now h.nl)))
theorem BZ (fl : List Fx) (now : Int) (h : Hx) : kR fl now h = (bW h.n && dQ fl now h) := rfl
def kI (l : List Hx) (k : Nat) (h : Hx) : Bool := !(l.take k).any (fun g => dN g h)
def g9 (l : List Hx) : Nat -> Bool
 | 0 => true
 | k + 1 => g9 l k && kI l k (dM l k)
def iH (fl : List Fx) (now : Int) (l : List Hx) : Bool := bP Hx.n l && ((l.all (dQ fl now)) && g9 l l.length)
def aS (b : Bk) : Bool := rP b.now && (bL b.fl && (gL b.hl.length && iH b.fl b.now b.hl))
theorem vB {l : List Hx} {k : Nat} (h : kI l k (dM l k) = false) : ∀ m, k < m -> g9 l m = false
 | 0, hm => absurd hm (by omega)
 | m + 1, hm => by
  rw [g9]
  by_cases e : k = m
  · subst e; rw [h, Bool.and_false]
  · rw [vB h m (by omega)]; rfl
theorem CL {l : List Hx} {k : Nat} {h : Hx} (hh : (l.take k).any (fun g => dN g h) = true) : kI l k h = false := by rw [kI, hh]; rfl
structure PG (fl : List Fx) (now : Int) (l : List Hx) (k : Nat) : Prop where
 nm : (l.take k).all (fun x => bW x.n) = true
 lt : ∀ i, i + 1 < k -> gG (dM l i).n (dM l (i + 1)).n = true
 tb : (l.take k).all (dQ fl now) = true
 ap : g9 l k = true
theorem PG.step {fl : List Fx} {now : Int} {l : List Hx} {k : Nat} (h : PG fl now l k) (hk : k < l.length) (hn : kR fl now (dM l k) = true) (hl : 0 < k -> gG (dM l (k - 1)).n (dM l k).n = true) (hg : kI l k (dM l k) = true) : PG fl now l (k + 1) := by
 rw [BZ, bat, bV l k hk] at hn; refine ⟨by rw [List.take_succ_eq_append_getElem hk, List.all_append, h.nm]; simp [hn.1], fun i hi => ?_, by rw [List.take_succ_eq_append_getElem hk, List.all_append, h.tb]; simp [hn.2], by rw [g9, h.ap, hg]; rfl⟩
 by_cases e : i + 1 = k
 · subst e; simpa using hl (by omega)
 · exact h.lt i (by omega)
theorem yP {fl : List Fx} {now : Int} {l : List Hx} {k : Nat} (hk : k < l.length) (h : kR fl now (dM l k) = false) : iH fl now l = false := by
 rw [bV l k hk, BZ] at h; rw [iH]
 cases hn : bW l[k].n with
 | false => rw [nR hk hn]; rfl
 | true =>
  rw [hn, Bool.true_and] at h
  have : l.all (dQ fl now) = false := by
   rw [Bool.eq_false_iff]; intro ha; have := lat.1 ha l[k] (lgm hk); rw [h] at this; cases this
  rw [this]; simp
theorem FG {fl : List Fx} {now : Int} {l : List Hx} {k : Nat} (hk : k < l.length) (h0 : 0 < k) (h : gG (dM l (k - 1)).n (dM l k).n = false) : iH fl now l = false := by
 have : jV Hx.n l = false := by
  rw [Bool.eq_false_iff]; intro ha; have := (gJ Hx.n l).1 ha (k - 1) (by omega); rw [← bV l (k - 1) (by omega), ← bV l (k - 1 + 1) (by omega), show k - 1 + 1 = k by omega, h] at this
  cases this
 rw [iH, bP, this]; simp
theorem JW {fl : List Fx} {now : Int} {l : List Hx} {k : Nat} (h : PG fl now l k) (hk : k = l.length) : iH fl now l = true := by
 subst hk; have hn := h.nm; have ht := h.tb; rw [ltl (nlq _)] at hn ht
 have ha : jV Hx.n l = true := (gJ Hx.n l).2 fun i hi => by
  have := h.lt i hi
  rwa [bV l i (by omega), bV l (i + 1) hi] at this
 rw [iH, bP, hn, ha, ht, h.ap]; rfl
theorem pL {b : Bk} (h : iH b.fl b.now b.hl = false) : aS b = false := by rw [aS, h]; simp
theorem AQ {b : Bk} {k : Nat} (hk : k < b.hl.length) (h : kI b.hl k (dM b.hl k) = false) : aS b = false := by
 refine pL ?_; rw [iH, vB h _ hk]; simp
theorem m8 (l : List Fx) (v : Bool) (hv : bL l = v) (ao : Option Addr) (cap : Nat) (w : World) (hl : Xs 3 Fx.cells w ao l) (hn : l.length <= 1048576) (hs : ∀ f ∈ l, f.n.size <= 9223372036854775807) :
 Calls Tryz.prog 70 #[.slice ao l.length cap] w fun e w' => e = .returned (.bool v) /\ Below w.heap.size w w' := by
 subst hv; exact nK l ao cap w hl hn hs
theorem lX (b : Bk) (h : Hx) (v : Bool) (hv : kR b.fl b.now h = v) (w : World) (hf : Xs 3 Fx.cells w b.fa b.fl) (hnf : b.fl.length <= 1048576) (hh : h.In w) (fh : h.Fit) :
 Calls Tryz.prog 71 #[b.val, h.val] w fun e w' => e = .returned (.bool v) /\ Below w.heap.size w w' := by
 subst hv; exact DS b h w hf hnf hh fh
theorem JX (a b : Hx) (v : Bool) (hv : dN a b = v) (w : World) (ha : a.In w) (hb : b.In w) (fa : a.Fit) (fb : b.Fit) :
 Calls Tryz.prog 72 #[a.val, b.val] w fun e w' => e = .returned (.bool v) /\ Below w.heap.size w w' := by
 subst hv; exact IH a b w ha hb fa fb
theorem oS (b : Bk) (bl off : Nat) (hba : b.ha = some ⟨bl, off, none⟩) (w : World) (hf : Xs 3 Fx.cells w b.fa b.fl) (hnf : b.fl.length <= 1048576) (hc : ∀ k (h : k < b.hl.length), aN w bl (off + k * 3) b.hl[k].cells) (hnh : b.hl.length <= 1048576)
 (hin0 : ∀ h ∈ b.hl, h.In w) (hfit : ∀ h ∈ b.hl, h.Fit) (hs : ∀ f ∈ b.fl, f.n.size <= 9223372036854775807) :
 Calls Tryz.prog 28 #[b.val] w fun e w' => e = .returned (.bool (aS b)) /\ Below w.heap.size w w' := by
 obtain ⟨V, hV⟩ : ∃ V, V = aS b := ⟨_, rfl⟩; rw [← hV]; have HV : Hid (V = aS b) := hV; clear hV; have hB0 : Below w.heap.size w (w.alloc (.cells #[.int .i64 b.now, .slice b.fa b.fl.length b.fc, .slice (some ⟨bl, off, none⟩) b.hl.length b.hc] 29)) := aA (br _ _) _
 have HC : Hid (∀ w1, Below (w.alloc (.cells #[.int .i64 b.now, .slice b.fa b.fl.length b.fc, .slice (some ⟨bl, off, none⟩) b.hl.length b.hc] 29)).heap.size (w.alloc (.cells #[.int .i64 b.now, .slice b.fa b.fl.length b.fc, .slice (some ⟨bl, off, none⟩) b.hl.length b.hc] 29)) w1 -> w1.cell? ⟨w.heap.size, 0, none⟩ = some (.int .i64 b.now) /\ w1.cell? ⟨w.heap.size, 1, none⟩ = some (.slice b.fa b.fl.length b.fc) /\ w1.cell? ⟨w.heap.size, 2, none⟩ = some (.slice (some ⟨bl, off, none⟩) b.hl.length b.hc)) :=
  fun w1 h => ⟨(h.cell (by simp)).trans (by simp), (h.cell (by simp)).trans (by simp), (h.cell (by simp)).trans (by simp)⟩
 obtain ⟨nv, hnv⟩ : ∃ v, eB b.now 0 10000 = v := ⟨_, rfl⟩; have HNV : Hid (rP b.now = nv) := hnv; unfold Bk.val; rw [hba]
 go_enter Tryz.func28, Tryz.ntmps28
 go_wp2_with fail
 refine (fK _ _ _ _ hnv _).mono ?_; rintro e w0 ⟨rfl, hw0⟩; subst hw0
 cases nv with
 | false =>
  go_wp2_with fail
  go_ret; exact ⟨aC (by rw [HV.out, aS, HNV.out]; rfl), hB0⟩
 | true =>
 go_wp2_with fail
 obtain ⟨fv, hfv⟩ : ∃ v, bL b.fl = v := ⟨_, rfl⟩; refine (m8 b.fl _ hfv _ _ _ (hf.zL hB0) hnf hs).mono ?_; rintro e w1 ⟨rfl, hb1⟩; have hN1 := aD hB0 hb1; obtain ⟨i0, i1, i2⟩ := HC.out w1 hb1
 cases fv with
 | false =>
  go_wp2_with fail
  go_ret; exact ⟨aC (by rw [HV.out, aS, HNV.out, hfv]; rfl), hN1⟩
 | true =>
 by_cases h16 : b.hl.length <= 16
 · have e16 : decide ((16 : Int) < (b.hl.length : Int)) = false := by simp; omega
   go_wp2
   clear i0 i1 i2 hN1
   go_loopw [3] (fun i wr => ∃ k : Nat, k <= b.hl.length /\ i = .int .i64 k /\ Below (w.alloc (.cells #[.int .i64 b.now, .slice b.fa b.fl.length b.fc, .slice (some ⟨bl, off, none⟩) b.hl.length b.hc] 29)).heap.size (w.alloc (.cells #[.int .i64 b.now, .slice b.fa b.fl.length b.fc, .slice (some ⟨bl, off, none⟩) b.hl.length b.hc] 29)) wr /\ Hid (PG b.fl b.now b.hl k)) (fun i _ => b.hl.length - (intOf i).toNat)
   case atStart => exact ⟨0, nz _, rfl, hb1, ⟨by simp, fun i hi => absurd hi (by omega), by simp, rfl⟩⟩
   case round =>
    clear hb1; obtain ⟨k, hk, rfl, hA, hno⟩ := hrel; have hN : Below w.heap.size w wr := hB0.trans (hA.mono hB0.size); obtain ⟨i0, i1, i2⟩ := HC.out _ hA
    by_cases hlt : k < b.hl.length
    · have hhx := (hc k hlt).zL hN
      have hmem : b.hl[k] ∈ b.hl := lgm hlt; have hin := hin0 _ hmem; have fit := hfit _ hmem; obtain ⟨h, hbe⟩ : ∃ h, h = dM b.hl k := ⟨_, rfl⟩; rw [← bV b.hl k hlt, ← hbe] at hhx hin fit; have HB : Hid (h = dM b.hl k) := hbe; clear hbe hmem; obtain ⟨c0, c1, c2⟩ := eY hhx; clear hhx; have hne : Nonempty (bG wr) := ⟨⟨_, br _ _⟩⟩; have p0 := bG.cell i0; have p1 := bG.cell i1; have p2 := bG.cell i2; obtain ⟨hvv, hv⟩ : ∃ v, kR b.fl b.now h = v := ⟨_, rfl⟩
      cases hvv with
      | false =>
       have f0 := bG.cell c0; have f1 := bG.cell c1; have f2 := bG.cell c2; clear c0 c1 c2 i0 i1; go_wp2_with fail
       refine aL (by kernel_rfl) (by kernel_rfl) ?_
       repeat (go_big_quiet_step ((go_at_call 71; exact bG.call _ (lX ⟨b.now, b.fa, b.fl, b.fc, some ⟨bl, off, none⟩, b.hl, b.hc⟩ h _ hv _ (hf.zL (aD hN (bG.h _))) hnf (hin.zL (aD hN (bG.h _))) fit))))
       refine wpQuiet_nil ?_; rintro _ ⟨s, rfl⟩; have hA1 := aT hA (nlq _) s.h; have hN1 := aT hN (nlq _) s.h; generalize s.w = w1 at hA1 hN1; clear s p0 p1 p2 f0 f1 f2 hne; go_wp2
       go_ret; exact ⟨aC (by rw [HV.out, pL (yP hlt (by rw [← HB.out]; exact hv))]), hN1⟩
      | true =>
      have HH : Hid (kR b.fl b.now h = true) := hv
      by_cases hk0 : k = 0
      · subst hk0
        rw [Nat.zero_mul, Nat.add_zero] at c0 c1 c2; have f0 := bG.cell c0; have f1 := bG.cell c1; have f2 := bG.cell c2; clear c0 c1 c2 i0 i1; go_wp2_with fail
        refine aL (by kernel_rfl) (by kernel_rfl) ?_
        repeat (go_big_quiet_step ((go_at_call 71; exact bG.call _ (lX ⟨b.now, b.fa, b.fl, b.fc, some ⟨bl, off, none⟩, b.hl, b.hc⟩ h _ hv _ (hf.zL (aD hN (bG.h _))) hnf (hin.zL (aD hN (bG.h _))) fit))))
        refine wpQuiet_nil ?_; rintro _ ⟨s, rfl⟩; have hA1 := aT hA (nlq _) s.h; have hN1 := aT hN (nlq _) s.h; generalize s.w = w1 at hA1 hN1; clear s p0 p1 p2 f0 f1 f2 hne; go_wp2
        clear hA hN hv
        go_loopw [4] (fun i ws => ∃ j : Nat, j <= 0 /\ i = .int .i64 j /\ Below (w.alloc (.cells #[.int .i64 b.now, .slice b.fa b.fl.length b.fc, .slice (some ⟨bl, off, none⟩) b.hl.length b.hc] 29)).heap.size (w.alloc (.cells #[.int .i64 b.now, .slice b.fa b.fl.length b.fc, .slice (some ⟨bl, off, none⟩) b.hl.length b.hc] 29)) ws /\ Hid ((b.hl.take j).any (fun g => dN g h) = false)) (fun i _ => 0 - (intOf i).toNat)
        case atStart => exact ⟨0, nz _, rfl, hA1, by simp [Hid]⟩
        case round =>
         clear hA1 hN1; obtain ⟨j, hj, rfl, hA, hnj⟩ := hrel; have hN : Below w.heap.size w wr := hB0.trans (hA.mono hB0.size)
         by_cases hjk : j < 0
         · exact absurd hjk (by omega)
         · have hje : j = 0 := by omega
           go_wp2
           go_roundw
           case rel => exact ⟨0 + 1, by omega, by go_num, hA, hno.out.step hlt (by rw [← HB.out]; exact HH.out) (fun h0 => absurd h0 (by omega)) (by rw [← HB.out, kI, ← hje, hnj.out]; rfl)⟩
           case measure => simp [intOf]; omega
      · have hkn : 0 < k := by omega
        have hkq : (1 : Int) <= (k : Int) := by omega
        have hcv := (hc (k - 1) (by omega)).zL hN; obtain ⟨a, hae⟩ : ∃ a, a = dM b.hl (k - 1) := ⟨_, rfl⟩; rw [← bV b.hl (k - 1) (by omega), ← hae] at hcv; have HA : Hid (a = dM b.hl (k - 1)) := hae; clear hae hk0; have g0 := bG.cell (eY hcv).1; clear hcv; have f0 := bG.cell c0; have f1 := bG.cell c1; have f2 := bG.cell c2; clear c0 c1 c2 i0 i1
        rcases Bool.eq_false_or_eq_true (gG a.n h.n) with hlt2 | hlt2
        · have HL : Hid (gG a.n h.n = true) := hlt2
          have hbl : Op.bytesLess a.n.toList h.n.toList = true := hlt2; clear hlt2; go_wp2_with fail
          refine aL (by kernel_rfl) (by kernel_rfl) ?_
          repeat (go_big_quiet_step ((go_at_call 71; exact bG.call _ (lX ⟨b.now, b.fa, b.fl, b.fc, some ⟨bl, off, none⟩, b.hl, b.hc⟩ h _ hv _ (hf.zL (aD hN (bG.h _))) hnf (hin.zL (aD hN (bG.h _))) fit))))
          refine wpQuiet_nil ?_; rintro _ ⟨s, rfl⟩; have hA1 := aT hA (nlq _) s.h; have hN1 := aT hN (nlq _) s.h; generalize s.w = w1 at hA1 hN1; clear s p0 p1 p2 f0 f1 f2 hne g0; clear hbl; go_wp2
          clear hA hN hv
          go_loopw [4] (fun i ws => ∃ j : Nat, j <= k /\ i = .int .i64 j /\ Below (w.alloc (.cells #[.int .i64 b.now, .slice b.fa b.fl.length b.fc, .slice (some ⟨bl, off, none⟩) b.hl.length b.hc] 29)).heap.size (w.alloc (.cells #[.int .i64 b.now, .slice b.fa b.fl.length b.fc, .slice (some ⟨bl, off, none⟩) b.hl.length b.hc] 29)) ws /\ Hid ((b.hl.take j).any (fun g => dN g h) = false)) (fun i _ => k - (intOf i).toNat)
          case atStart => exact ⟨0, nz _, rfl, hA1, by simp [Hid]⟩
          case round =>
           clear hA1 hN1; obtain ⟨j, hj, rfl, hA, hnj⟩ := hrel; have hN : Below w.heap.size w wr := hB0.trans (hA.mono hB0.size)
           by_cases hjk : j < k
           · obtain ⟨g, hge⟩ : ∃ g, g = b.hl[j]'(by omega) := ⟨_, rfl⟩
             have hgm : g ∈ b.hl := by rw [hge]; exact lgm _
             have hgx := (hc j (by omega)).zL hN; have hhx := (hc k hlt).zL hN; rw [← hge] at hgx; rw [← bV b.hl k hlt, ← HB.out] at hhx; have HG : Hid (g = b.hl[j]'(by omega)) := hge; clear hge; obtain ⟨e0, e1, e2⟩ := eY hgx; obtain ⟨d0, d1, d2⟩ := eY hhx; obtain ⟨i0, i1, i2⟩ := HC.out _ hA; have hne2 : Nonempty (bG wr) := ⟨⟨_, br _ _⟩⟩; have p2 := bG.cell i2; have q0 := bG.cell e0; have q1 := bG.cell e1; have q2 := bG.cell e2; have f0 := bG.cell d0; have f1 := bG.cell d1; have f2 := bG.cell d2; clear hgx hhx e0 e1 e2 d0 d1 d2 i0 i1 i2; have hgi := (hin0 g hgm).zL hN; have hhi := hin.zL hN; have hgf := hfit g hgm; obtain ⟨v, hv2⟩ : ∃ v, dN g h = v := ⟨_, rfl⟩; have HM : Hid (dN g h = v) := hv2; clear hv2; go_wp2_with fail
             refine aL (by kernel_rfl) (by kernel_rfl) ?_
             repeat (go_big_quiet_step ((go_at_call 72; exact bG.call _ (JX g h _ HM.out _ (hgi.zL (bG.h _)) (hhi.zL (bG.h _)) hgf fit))))
             refine wpQuiet_nil ?_; rintro _ ⟨s, rfl⟩; have hA1 := aT hA (nlq _) s.h; have hN1 := aT hN (nlq _) s.h; generalize s.w = w1 at hA1 hN1; clear s p2 q0 q1 q2 f0 f1 f2 hne2; go_wp2
             · have hvt : v = true := by assumption
               subst hvt; go_ret; exact ⟨aC (by rw [HV.out, AQ hlt (by rw [← HB.out]; exact CL (eM _ (b.hl.take k) j (by simp; omega) (by simp only [List.getElem_take]; rw [← HG.out]; exact HM.out)))]), hN1⟩
             · have hvf : v = false := by assumption
               subst hvf
               go_roundw
               case rel => exact ⟨j + 1, by omega, by go_num, hA1, by rw [Hid, eV _ b.hl j (by omega), hnj.out, ← HG.out, HM.out]; rfl⟩
               case measure => simp [intOf]; omega
           · have hje : j = k := by omega
             go_wp2
             go_roundw
             case rel => exact ⟨k + 1, by omega, by go_num, hA, hno.out.step hlt (by rw [← HB.out]; exact HH.out) (fun _ => by rw [← HA.out, ← HB.out]; exact HL.out) (by rw [← HB.out, kI, ← hje, hnj.out]; rfl)⟩
             case measure => simp [intOf]; omega
        · have HL : Hid (gG a.n h.n = false) := hlt2
          have hbl : Op.bytesLess a.n.toList h.n.toList = false := hlt2; clear hlt2; go_wp2_with fail
          refine aL (by kernel_rfl) (by kernel_rfl) ?_
          repeat (go_big_quiet_step ((go_at_call 71; exact bG.call _ (lX ⟨b.now, b.fa, b.fl, b.fc, some ⟨bl, off, none⟩, b.hl, b.hc⟩ h _ hv _ (hf.zL (aD hN (bG.h _))) hnf (hin.zL (aD hN (bG.h _))) fit))))
          refine wpQuiet_nil ?_; rintro _ ⟨s, rfl⟩; have hA1 := aT hA (nlq _) s.h; have hN1 := aT hN (nlq _) s.h; generalize s.w = w1 at hA1 hN1; clear s p0 p1 p2 f0 f1 f2 hne g0; go_wp2
          go_ret; exact ⟨aC (by rw [HV.out, pL (FG hlt hkn (by rw [← HA.out, ← HB.out]; exact HL.out))]), hN1⟩
    · have hke : k = b.hl.length := by omega
      go_wp2
      go_ret; exact ⟨aC (by rw [HV.out, aS, HNV.out, hfv, gL, decide_eq_true h16, JW hno.out hke]; rfl), hN⟩
 · have e16 : decide ((16 : Int) < (b.hl.length : Int)) = true := by simp; omega
   go_wp2
   go_ret; exact ⟨aC (by rw [HV.out, aS, HNV.out, hfv, gL, decide_eq_false h16]; rfl), hN1⟩
end Go.Proofs.YtiojdbffjdoniaaGreatDoor
