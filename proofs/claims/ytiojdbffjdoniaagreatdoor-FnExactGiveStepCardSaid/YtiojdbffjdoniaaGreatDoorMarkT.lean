import Derived.Laws.BytesArg
import Derived.Test.YtiojdbffjdoniaaGreatDoorTurn
namespace Go.Proofs.YtiojdbffjdoniaaGreatDoor
set_option maxRecDepth 100000
set_option maxHeartbeats 1000000
open Go.RowKit
theorem LC (x : Int) : (strOfNums [x]).size = 1 := rfl
def P7 (e : Ending) : Prop := ∃ s : ByteArray, e = .returned (.string s)
theorem pW (k : Int) (w : World) (h0 : 0 <= k) (h1 : k <= 4611686018427387904) :
 Calls Tryz.prog 109 #[.int .i64 k] w fun e w' => P7 e /\ Below w.heap.size w w' := by
 by_cases hk : k <= 0
 · go_enter Tryz.func109, Tryz.ntmps109
   go_wp2
   go_ret; exact ⟨⟨_, rfl⟩, br _ _⟩
 · go_enter Tryz.func109, Tryz.ntmps109
   go_wp2
   go_loopw [0, 3] (fun kv sv wr => ∃ (d : Int) (s : ByteArray), 0 <= d /\ (s.size : Int) + d <= 4611686018427387904 /\ kv = .int .i64 d /\ sv = .string s /\ Below w.heap.size w wr) (fun kv _ _ => (intOf kv).toNat)
   case atStart => exact ⟨k, ByteArray.empty, h0, by simpa using h1, rfl, rfl, br _ _⟩
   case round =>
    obtain ⟨d, s, d0, d1, rfl, rfl, hN⟩ := hrel
    by_cases hd : 0 < d
    · have hcv := run_convert_bytes_arg (P := Tryz.prog) (wr.alloc (.cells #[.int .u8 (48 + d % 10)] 5)) _ _ Tryz.underlying22 Tryz.underlying5 wr.heap.size 0 1 1 [48 + d % 10] rfl (fun i hi => by cases Nat.lt_one_iff.1 hi; simp) _ Tryz.underlying9
      have hs0 := LC (48 + d % 10); have hs1 : ¬ ((strOfNums [48 + d % 10]).size + s.size > 9223372036854775807) := by omega
      have hsz : ((strOfNums [48 + d % 10] ++ s).size : Int) = 1 + s.size := by rw [ByteArray.size_append, hs0]; omega
      generalize strOfNums [48 + d % 10] = st at hcv hs1 hsz hs0; go_wp2
      go_roundw
      case rel => exact ⟨d / 10, st ++ s, by omega, by omega, by go_num, rfl, hN.alloc hN.size _⟩
      case measure => simp [intOf]; omega
    · have hs3 : (ByteArray.mk #[109]).size = 1 := rfl
      have hs2 : ¬ ((ByteArray.mk #[109]).size + s.size > 9223372036854775807) := by omega
      go_wp2
      go_ret; exact ⟨⟨_, rfl⟩, hN⟩
set_option maxHeartbeats 2000000
structure bC (S : Nat -> Prop) (w w' : World) : Prop where
 os : w'.os = w.os
 tape : w'.tape = w.tape
 output : w'.output = w.output
 size : w.heap.size <= w'.heap.size
 block : ∀ k, k < w.heap.size -> ¬ S k -> w'.heap[k]? = w.heap[k]?
theorem bC.refl (S : Nat -> Prop) (w : World) : bC S w w := ⟨rfl, rfl, rfl, nlq _, fun _ _ _ => rfl⟩
theorem bC.trans {S : Nat -> Prop} {a b c : World} (h : bC S a b) (g : bC S b c) : bC S a c := ⟨g.os.trans h.os, g.tape.trans h.tape, g.output.trans h.output, Nat.le_trans h.size g.size, fun k hk hs => (g.block k (Nat.lt_of_lt_of_le hk h.size) hs).trans (h.block k hk hs)⟩
theorem bC.below {S : Nat -> Prop} {w w' : World} (h : Below w.heap.size w w') : bC S w w' := ⟨h.os, h.tape, h.output, h.size, fun k hk _ => h.block k hk⟩
theorem bC.set {S : Nat -> Prop} {a w : World} (h : bC S a w) {g : Nat} (hg : S g) (o : Nat) (u : Value) : bC S a (w.setCell ⟨g, o, none⟩ u) :=
 h.trans ⟨rfl, rfl, rfl, by show w.heap.size <= (w.heap.modify _ _).size; rw [Array.size_modify]; exact nlq _, fun k _ hs => Below.heap_setCell w ⟨g, o, none⟩ u k (fun e => hs (by rw [show k = g from e]; exact hg))⟩
theorem bC.only {S : Nat -> Prop} {w w' : World} {g : Nat} (h : lI g w w') (hg : S g) : bC S w w' := ⟨h.os, h.tape, h.output, by rw [h.size]; exact nlq _, fun k _ hs => h.block k (fun e => hs (by rw [e]; exact hg))⟩
theorem bC.under {S : Nat -> Prop} {B : Nat} {a w w' : World} (h : bC S w w') (hb : Below B a w) (hB : B <= a.heap.size) (hS : ∀ k, S k -> B <= k) : Below B a w' :=
 hb.trans ⟨h.os, h.tape, h.output, h.size, fun k hk => h.block k (Nat.lt_of_lt_of_le hk (Nat.le_trans hB hb.size)) (fun hs => by have := hS k hs; omega)⟩
theorem bC.cell {S : Nat -> Prop} {w w' : World} (h : bC S w w') {p : Addr} {v : Value} (hs : ¬ S p.block) (hc : w.cell? p = some v) : w'.cell? p = some v := by
 have := h.block p.block (aB hc) hs; unfold World.cell? at hc ⊢; rw [this]; exact hc
theorem rM (n capv g : Nat) (k0 : Int) (w : World) (hR : ∃ f, w.rowIs g 89 (n * 6) f) (hn : n <= 1048576) (h0 : 0 <= k0) (h1 : k0 <= 2305843009213693952) :
 Calls Tryz.prog 59 #[.slice (some ⟨g, 0, none⟩) n capv, .int .i64 k0] w fun e w' => e = .returned (.int .i64 (k0 + 6 * n)) /\ (∃ f, w'.rowIs g 89 (n * 6) f) /\ lI g w w' := by
 obtain ⟨f0, hrow0⟩ := hR
 go_enter Tryz.func59, Tryz.ntmps59
 go_wp2
 go_loopw [1, 5] (fun kv i wr => ∃ j : Nat, j <= n /\ i = .int .i64 j /\ kv = .int .i64 (k0 + 6 * (j : Int)) /\ (∃ f, wr.rowIs g 89 (n * 6) f) /\ lI g w wr) (fun _ i _ => n - (intOf i).toNat)
 case atStart => exact ⟨0, nz _, rfl, by simp, ⟨f0, hrow0⟩, lI.refl _ _⟩
 case round =>
  clear hrow0; obtain ⟨j, hj, rfl, rfl, ⟨f, hrow⟩, hO⟩ := hrel
  by_cases hlt : j < n
  · have hfr := fun i => hrow.frozen i
    have e0 := hrow.cell (i := j * 6) (by omega); have e1 := hrow.cell (i := j * 6 + 1) (by omega); have e2 := hrow.cell (i := j * 6 + 2) (by omega); have e3 := hrow.cell (i := j * 6 + 3) (by omega); have e4 := hrow.cell (i := j * 6 + 4) (by omega); have e5 := hrow.cell (i := j * 6 + 5) (by omega); go_wp2
    go_roundw
    case rel => exact ⟨j + 1, by omega, by go_num, by go_num, ⟨_, (((((hrow.set _ _).set _ _).set _ _).set _ _).set _ _).set _ _⟩, (((((hO.setCell _ _).setCell _ _).setCell _ _).setCell _ _).setCell _ _).setCell _ _⟩
    case measure => simp [intOf]; omega
  · have hjn : j = n := by omega
    go_wp2
    go_ret; subst hjn; exact ⟨rfl, ⟨f, hrow⟩, hO⟩
theorem IM (S : Nat -> Prop) (n capv g : Nat) (k0 : Int) (w : World) (hS : S g) (hR : ∃ f, w.rowIs g 82 (n * 3) f) (hn : n <= 1048576) (h0 : 0 <= k0) (h1 : k0 <= 1152921504606846976) :
 Calls Tryz.prog 56 #[.slice (some ⟨g, 0, none⟩) n capv, .int .i64 k0] w fun e w' => e = .returned (.int .i64 (k0 + 3 * n)) /\ bC S w w' := by
 obtain ⟨f0, hrow0⟩ := hR
 go_enter Tryz.func56, Tryz.ntmps56
 go_wp2
 go_loopw [1, 5] (fun kv i wr => ∃ j : Nat, j <= n /\ i = .int .i64 j /\ kv = .int .i64 (k0 + 3 * (j : Int)) /\ (∃ f, wr.rowIs g 82 (n * 3) f) /\ bC S w wr) (fun _ i _ => n - (intOf i).toNat)
 case atStart => exact ⟨0, nz _, rfl, by simp, ⟨f0, hrow0⟩, bC.refl _ _⟩
 case round =>
  clear hrow0; obtain ⟨j, hj, rfl, rfl, ⟨f, hrow⟩, hO⟩ := hrel
  by_cases hlt : j < n
  · go_wp2_with fail
    refine (pW _ _ (by omega) (by omega)).mono ?_; rintro e w1 ⟨⟨s, rfl⟩, hb1⟩; have hrow1 := hrow.of_block (hb1.block _ hrow.lt); have hO1 := hO.trans (bC.below hb1); clear hrow hO hb1; have hfr := fun i => hrow1.frozen i; have e0 := hrow1.cell (i := j * 3) (by omega); have e1 := hrow1.cell (i := j * 3 + 1) (by omega); have e2 := hrow1.cell (i := j * 3 + 2) (by omega); go_wp2
    go_roundw
    case rel => exact ⟨j + 1, by omega, by go_num, by go_num, ⟨_, ((hrow1.set _ _).set _ _).set _ _⟩, ((hO1.set hS _ _).set hS _ _).set hS _ _⟩
    case measure => simp [intOf]; omega
  · have hjn : j = n := by omega
    go_wp2
    go_ret; subst hjn; exact ⟨rfl, hO⟩
set_option maxHeartbeats 4000000
def jN (S : Nat -> Prop) (q : Nat) (w : World) (a : Option Addr) (n : Nat) : Prop := ∃ p, a = some ⟨p, 0, none⟩ /\ S p /\ q ≠ p /\ ∃ f, w.rowIs p 89 (n * 6) f
theorem jN.zL {S : Nat -> Prop} {q n : Nat} {w w' : World} {a : Option Addr} (h : jN S q w a n) (hb : Below w.heap.size w w') : jN S q w' a n := by
 obtain ⟨p, e, hs, hq, f, hr⟩ := h; exact ⟨p, e, hs, hq, f, hr.of_block (hb.block _ hr.lt)⟩
theorem jN.set {S : Nat -> Prop} {q n : Nat} {w : World} {a : Option Addr} (h : jN S q w a n) (o : Nat) (u : Value) : jN S q (w.setCell ⟨q, o, none⟩ u) a n := by
 obtain ⟨p, e, hs, hq, f, hr⟩ := h; exact ⟨p, e, hs, hq, f, hr.setOther (a := ⟨q, o, none⟩) (fun g => hq g.symm) u⟩
theorem jN.mark {S : Nat -> Prop} {q n g m : Nat} {w w' : World} {a : Option Addr} (h : jN S q w a n) (hO : lI g w w') (h1 : ∃ f, w.rowIs g 89 (m * 6) f) (h2 : ∃ f, w'.rowIs g 89 (m * 6) f) : jN S q w' a n := by
 obtain ⟨p, e, hs, hq, f, hr⟩ := h
 by_cases hp : p = g
 · subst hp
   obtain ⟨f1, c1, x1, y1, z1⟩ := h1; obtain ⟨c2, x2, y2, z2⟩ := hr; rw [x1] at x2
   cases x2
   have hnm : n * 6 = m * 6 := by omega
   obtain ⟨f2, hr2⟩ := h2; exact ⟨p, e, hs, hq, f2, by rw [hnm]; exact hr2⟩
 · exact ⟨p, e, hs, hq, f, hr.of_block (hO.block p hp)⟩
def OB (w : World) (q : Nat) (m : List Hx) : Prop := ∃ f, w.rowIs q 42 (m.length * 3) f /\ ∀ i (h : i < m.length), f (i * 3 + 1) = .slice m[i].ta m[i].tl.length m[i].tc /\ f (i * 3 + 2) = .slice m[i].na m[i].nl.length m[i].nc
theorem KX (S : Nat -> Prop) (m : List Hx) (q capv : Nat) (k0 : Int) (w : World) (hS : S q) (hR : OB w q m) (hT : ∀ h ∈ m, jN S q w h.ta h.tl.length /\ jN S q w h.na h.nl.length) (hF : ∀ h ∈ m, h.Fit) (hn : m.length <= 1048576) (h0 : 0 <= k0) (h1 : k0 <= 1152921504606846976) :
 Calls Tryz.prog 57 #[.slice (some ⟨q, 0, none⟩) m.length capv, .int .i64 k0] w fun e w' => (∃ r, e = .returned (.int .i64 r) /\ 0 <= r /\ r <= k0 + 12582913 * m.length) /\ bC S w w' := by
 go_enter Tryz.func57, Tryz.ntmps57
 go_wp2
 go_loopw [1, 5] (fun kv i wr => ∃ (j : Nat) (r : Int), j <= m.length /\ i = .int .i64 j /\ kv = .int .i64 r /\ 0 <= r /\ r <= k0 + 12582913 * (j : Int) /\ OB wr q m /\ (∀ h ∈ m, jN S q wr h.ta h.tl.length /\ jN S q wr h.na h.nl.length) /\ bC S w wr) (fun _ i _ => m.length - (intOf i).toNat)
 case atStart => exact ⟨0, k0, nz _, rfl, rfl, h0, by simp, hR, hT, bC.refl _ _⟩
 case round =>
  clear hR hT; obtain ⟨j, r, hj, rfl, rfl, hr0, hr1, ⟨f, hrow, hf⟩, hT, hO⟩ := hrel
  by_cases hlt : j < m.length
  · have hjb : (12582913 : Int) * (j : Int) <= 12582913 * 1048576 := by omega
    obtain ⟨x, hxe⟩ : ∃ x, x = m[j] := ⟨_, rfl⟩; have hxm : x ∈ m := by rw [hxe]; exact lgm hlt
    have hfj := hf j hlt; rw [← hxe] at hfj; have hxf := hF x hxm; have HF : Hid (∀ i (h : i < m.length), f (i * 3 + 1) = .slice m[i].ta m[i].tl.length m[i].tc /\ f (i * 3 + 2) = .slice m[i].na m[i].nl.length m[i].nc) := hf; clear hf hxe; go_wp2_with fail
    refine (pW _ _ (by omega) (by omega)).mono ?_; rintro e w1 ⟨⟨s, rfl⟩, hb1⟩; have hrow1 := hrow.of_block (hb1.block _ hrow.lt); have hO1 := hO.trans (bC.below hb1); have hT1 : ∀ h ∈ m, jN S q w1 h.ta h.tl.length /\ jN S q w1 h.na h.nl.length := fun h hm => ⟨(hT h hm).1.zL hb1, (hT h hm).2.zL hb1⟩; clear hrow hO hb1 hT; have hfr := fun i => hrow1.frozen i; have e0 := hrow1.cell (i := j * 3) (by omega); have hT2 : ∀ h ∈ m, jN S q (w1.setCell ⟨q, j * 3, none⟩ (.string s)) h.ta h.tl.length /\ jN S q (w1.setCell ⟨q, j * 3, none⟩ (.string s)) h.na h.nl.length := fun h hm => ⟨(hT1 h hm).1.set _ _, (hT1 h hm).2.set _ _⟩; have hO2 := hO1.set hS (j * 3) (.string s); have hrow2 := hrow1.set (j * 3) (.string s); have e1 := hrow2.cell (i := j * 3 + 1) (by omega); rw [if_neg (by omega), hfj.1] at e1; go_wp2_with fail
    obtain ⟨W2, hW2⟩ : ∃ W2, w1.setCell ⟨q, j * 3, none⟩ (.string s) = W2 := ⟨_, rfl⟩; rw [hW2] at hT2 hO2 hrow2 ⊢; clear hW2 e0 e1 hfr hT1 hO1 hrow1; have hxt := hxf.tn; have hxn := hxf.nn; obtain ⟨p, ep, hSp, hqp, hRp⟩ := (hT2 x hxm).1; rw [ep]; refine (rM _ _ p _ _ hRp hxt (by omega) (by omega)).mono ?_; rintro e w3 ⟨rfl, hR3, hO3⟩; have hrow3 := hrow2.of_block (hO3.block q hqp); have hT3 : ∀ h ∈ m, jN S q w3 h.ta h.tl.length /\ jN S q w3 h.na h.nl.length := fun h hm => ⟨(hT2 h hm).1.mark hO3 hRp hR3, (hT2 h hm).2.mark hO3 hRp hR3⟩; have hO4 := hO2.trans (bC.only hO3 hSp); clear hrow2 hT2 hO2 hO3 hR3 hRp ep; have e2 := hrow3.cell (i := j * 3 + 2) (by omega); rw [if_neg (by omega), hfj.2] at e2; go_wp2_with fail
    obtain ⟨p2, ep2, hSp2, hqp2, hRp2⟩ := (hT3 x hxm).2; rw [ep2]; refine (rM _ _ p2 _ _ hRp2 hxn (by omega) (by omega)).mono ?_; rintro e w5 ⟨rfl, hR5, hO5⟩; have hrow5 := hrow3.of_block (hO5.block q hqp2); have hT5 : ∀ h ∈ m, jN S q w5 h.ta h.tl.length /\ jN S q w5 h.na h.nl.length := fun h hm => ⟨(hT3 h hm).1.mark hO5 hRp2 hR5, (hT3 h hm).2.mark hO5 hRp2 hR5⟩; have hO6 := hO4.trans (bC.only hO5 hSp2); clear e2 hrow3 hT3 hO4 hO5 hR5 hRp2 ep2; go_wp2
    go_roundw
    case rel => exact ⟨j + 1, r + 1 + 6 * x.tl.length + 6 * x.nl.length, by omega, by go_num, by go_num, by omega, by omega, ⟨_, hrow5, fun i hi => by
     have := HF.out i hi; refine ⟨?_, ?_⟩
     · rw [if_neg (by omega)]; exact this.1
     · rw [if_neg (by omega)]; exact this.2⟩, hT5, hO6⟩
    case measure => simp [intOf]; omega
  · have hjn : j = m.length := by omega
    go_wp2
    go_ret; subst hjn; exact ⟨⟨r, rfl, hr0, hr1⟩, hO⟩
structure z6 (S : Nat -> Prop) (w : World) (b : Bk) : Prop where
 rf : ∃ p, b.fa = some ⟨p, 0, none⟩ /\ S p /\ ∃ f, w.rowIs p 82 (b.fl.length * 3) f
 rh : ∃ q, b.ha = some ⟨q, 0, none⟩ /\ S q /\ OB w q b.hl /\ (∀ h ∈ b.hl, jN S q w h.ta h.tl.length /\ jN S q w h.na h.nl.length) /\ ∀ p, b.fa = some ⟨p, 0, none⟩ -> q ≠ p
 rt : ∀ p, b.fa = some ⟨p, 0, none⟩ -> ∀ h ∈ b.hl, (∀ a, h.ta = some a -> a.block ≠ p) /\ (∀ a, h.na = some a -> a.block ≠ p)
theorem xL {S : Nat -> Prop} {q n p : Nat} {w w' : World} {a : Option Addr} (h : jN S q w a n) (hB : ∀ k, k < w.heap.size -> k ≠ p -> w'.heap[k]? = w.heap[k]?) (hp : ∀ x, a = some x -> x.block ≠ p) : jN S q w' a n := by
 obtain ⟨g, e, hs, hq, f, hr⟩ := h; exact ⟨g, e, hs, hq, f, hr.of_block (hB g hr.lt (hp _ e))⟩
theorem EF (b : Bk) (w : World) (hf : Xs 3 Fx.cells w b.fa b.fl) (hnf : b.fl.length <= 1048576) (hh : Xs 3 Hx.cells w b.ha b.hl) (hnh : b.hl.length <= 1048576) (hg : ∀ h ∈ b.hl, h.In w /\ h.Fit) :
 Calls Tryz.prog 15 #[b.val] w fun e w' => (∃ b', e = .returned b'.val /\ eN w' b b' /\ z6 (fun k => w.heap.size <= k /\ k < w'.heap.size) w' b') /\ Below w.heap.size w w' := by
 go_enter Tryz.func15, Tryz.ntmps15
 go_wp2_with fail
 have a2 := bF (z := w.heap.size) (j := 2) (v := .slice b.ha b.hl.length b.hc) ((halq ((w.alloc (.cells #[.int .i64 b.now, .slice b.fa b.fl.length b.fc, .slice b.ha b.hl.length b.hc] 49)).alloc (.cells #[.int .i64 0, .slice none 0 0, .slice none 0 0] 29)) (.cells #[.int .i64 b.now, .slice none 0 0, .slice none 0 0] 29) w.heap.size (by simp; omega)).trans ((halq (w.alloc (.cells #[.int .i64 b.now, .slice b.fa b.fl.length b.fc, .slice b.ha b.hl.length b.hc] 49)) (.cells #[.int .i64 0, .slice none 0 0, .slice none 0 0] 29) w.heap.size (by simp)).trans (wnq w _))) rfl; have rR := (JZ (w.alloc (.cells #[.int .i64 b.now, .slice b.fa b.fl.length b.fc, .slice b.ha b.hl.length b.hc] 49)) 29 (.int .i64 0) (.slice none 0 0) (.slice none 0 0)).alloc (.cells #[.int .i64 b.now, .slice none 0 0, .slice none 0 0] 29); have rO := JZ ((w.alloc (.cells #[.int .i64 b.now, .slice b.fa b.fl.length b.fc, .slice b.ha b.hl.length b.hc] 49)).alloc (.cells #[.int .i64 0, .slice none 0 0, .slice none 0 0] 29)) 29 (.int .i64 b.now) (.slice none 0 0) (.slice none 0 0); have hB0 : Below w.heap.size w (((w.alloc (.cells #[.int .i64 b.now, .slice b.fa b.fl.length b.fc, .slice b.ha b.hl.length b.hc] 49)).alloc (.cells #[.int .i64 0, .slice none 0 0, .slice none 0 0] 29)).alloc (.cells #[.int .i64 b.now, .slice none 0 0, .slice none 0 0] 29)) := aA (aA (aA (br _ _) _) _) _; have hz : (((w.alloc (.cells #[.int .i64 b.now, .slice b.fa b.fl.length b.fc, .slice b.ha b.hl.length b.hc] 49)).alloc (.cells #[.int .i64 0, .slice none 0 0, .slice none 0 0] 29)).alloc (.cells #[.int .i64 b.now, .slice none 0 0, .slice none 0 0] 29)).heap.size = w.heap.size + 3 := by simp
 simp only [wsa] at rR rO; obtain ⟨W0, hW0⟩ : ∃ W0, ((w.alloc (.cells #[.int .i64 b.now, .slice b.fa b.fl.length b.fc, .slice b.ha b.hl.length b.hc] 49)).alloc (.cells #[.int .i64 0, .slice none 0 0, .slice none 0 0] 29)).alloc (.cells #[.int .i64 b.now, .slice none 0 0, .slice none 0 0] 29) = W0 := ⟨_, rfl⟩; rw [hW0] at a2 rR rO hB0 hz; have hcall := uU b.fl b.fa b.fc W0 (hf.zL hB0) hnf; rw [← hW0] at hcall; refine hcall.mono ?_; rw [hW0]; rintro e w1 ⟨rfl, hr1, hb1⟩; clear hcall hW0; rw [hz] at hr1 ⊢; have rR1 := rR.of_block (hb1.block _ rR.lt); have rO1 := rO.of_block (hb1.block _ rO.lt); have a21 := (hb1.cell (aB a2)).trans a2; have hz1 : w.heap.size + 3 < w1.heap.size := hr1.lt; have hB1 : Below w.heap.size w w1 := aD hB0 hb1; clear rR rO a2 hb1 hB0 hz; have o0 := rO1.cell (i := 0) (by omega); have o1 := rO1.cell (i := 1) (by omega); have o2 := rO1.cell (i := 2) (by omega); have fO := fun i => rO1.frozen i; go_wp2_with fail
 have rO2 := rO1.set 1 (.slice (some ⟨w.heap.size + 3, 0, none⟩) b.fl.length b.fl.length); have rR2 := rR1.setOther (a := ⟨w.heap.size + 1 + 1, 1, none⟩) (by simp) (.slice (some ⟨w.heap.size + 3, 0, none⟩) b.fl.length b.fl.length); have hr2 := hr1.setOther (a := ⟨w.heap.size + 1 + 1, 1, none⟩) (by simp) (.slice (some ⟨w.heap.size + 3, 0, none⟩) b.fl.length b.fl.length); have hB2 : Below w.heap.size w (w1.setCell ⟨w.heap.size + 1 + 1, 1, none⟩ (.slice (some ⟨w.heap.size + 3, 0, none⟩) b.fl.length b.fl.length)) := hB1.setCell (by simp; omega) _; have hz2 : (w1.setCell ⟨w.heap.size + 1 + 1, 1, none⟩ (.slice (some ⟨w.heap.size + 3, 0, none⟩) b.fl.length b.fl.length)).heap.size = w1.heap.size := by simp
 obtain ⟨W2, hW2⟩ : ∃ W2, w1.setCell ⟨w.heap.size + 1 + 1, 1, none⟩ (.slice (some ⟨w.heap.size + 3, 0, none⟩) b.fl.length b.fl.length) = W2 := ⟨_, rfl⟩; rw [hW2] at rO2 rR2 hr2 hB2 hz2 ⊢; clear hW2 rO1 rR1 hr1 hB1 a21 o0 o1 o2 fO; refine (sK b.hl b.ha b.hc W2 (hh.zL hB2) hnh (fun h m => ⟨(hg h m).1.zL hB2, (hg h m).2⟩)).mono ?_; rintro e w3 ⟨⟨m, rfl, hr3, hM⟩, hb3⟩; rw [hz2] at hr3 hM ⊢; have rR3 := rR2.of_block (hb3.block _ rR2.lt); have rO3 := rO2.of_block (hb3.block _ rO2.lt); have hr4 := hr2.zL hb3; have hB3 : Below w.heap.size w w3 := aD hB2 hb3; have hz3 : w1.heap.size < w3.heap.size := hr3.lt; clear rR2 rO2 hr2 hB2 hb3 hz2 hf hh hg; have o0 := rO3.cell (i := 0) (by omega); have o1 := rO3.cell (i := 1) (by omega); have o2 := rO3.cell (i := 2) (by omega); have fO := fun i => rO3.frozen i; have p0 := rR3.cell (i := 0) (by omega); have p1 := rR3.cell (i := 1) (by omega); have p2 := rR3.cell (i := 2) (by omega); have fR := fun i => rR3.frozen i; have o0' : w3.cell? ⟨w.heap.size + 1 + 1, 0, none⟩ = some (.int .i64 b.now) := o0; have o1' : w3.cell? ⟨w.heap.size + 1 + 1, 1, none⟩ = some (.slice (some ⟨w.heap.size + 3, 0, none⟩) b.fl.length b.fl.length) := o1; clear o0 o1; go_wp2
 have hml : m.length = b.hl.length := hM.1; refine bpr (v := Bk.val ⟨b.now, some ⟨w.heap.size + 3, 0, none⟩, b.fl, b.fl.length, some ⟨w1.heap.size, 0, none⟩, m, b.hl.length⟩) (by simp [results, Tryz.results15, go_sem, p0, p1, p2, hml]) rfl ?_; have hF := (((hr4.setOther (a := ⟨w.heap.size + 1 + 1, 2, none⟩) (by simp) (.slice (some ⟨w1.heap.size, 0, none⟩) b.hl.length b.hl.length)).setOther (a := ⟨w.heap.size + 1, 0, none⟩) (by simp) (.int .i64 b.now)).setOther (a := ⟨w.heap.size + 1, 1, none⟩) (by simp) (.slice (some ⟨w.heap.size + 3, 0, none⟩) b.fl.length b.fl.length)).setOther (a := ⟨w.heap.size + 1, 2, none⟩) (by simp) (.slice (some ⟨w1.heap.size, 0, none⟩) b.hl.length b.hl.length); have hH := (((hr3.setOther (a := ⟨w.heap.size + 1 + 1, 2, none⟩) (by simp; omega) (.slice (some ⟨w1.heap.size, 0, none⟩) b.hl.length b.hl.length)).setOther (a := ⟨w.heap.size + 1, 0, none⟩) (by simp; omega) (.int .i64 b.now)).setOther (a := ⟨w.heap.size + 1, 1, none⟩) (by simp; omega) (.slice (some ⟨w.heap.size + 3, 0, none⟩) b.fl.length b.fl.length)).setOther (a := ⟨w.heap.size + 1, 2, none⟩) (by simp; omega) (.slice (some ⟨w1.heap.size, 0, none⟩) b.hl.length b.hl.length); have hM' := (((hM.other (g := w.heap.size + 1 + 1) (by omega) 2 (.slice (some ⟨w1.heap.size, 0, none⟩) b.hl.length b.hl.length)).other (g := w.heap.size + 1) (by omega) 0 (.int .i64 b.now)).other (g := w.heap.size + 1) (by omega) 1 (.slice (some ⟨w.heap.size + 3, 0, none⟩) b.fl.length b.fl.length)).other (g := w.heap.size + 1) (by omega) 2 (.slice (some ⟨w1.heap.size, 0, none⟩) b.hl.length b.hl.length); have hBe := (((hB3.setCell (p := ⟨w.heap.size + 1 + 1, 2, none⟩) (by simp; omega) (.slice (some ⟨w1.heap.size, 0, none⟩) b.hl.length b.hl.length)).setCell (p := ⟨w.heap.size + 1, 0, none⟩) (by simp) (.int .i64 b.now)).setCell (p := ⟨w.heap.size + 1, 1, none⟩) (by simp) (.slice (some ⟨w.heap.size + 3, 0, none⟩) b.fl.length b.fl.length)).setCell (p := ⟨w.heap.size + 1, 2, none⟩) (by simp) (.slice (some ⟨w1.heap.size, 0, none⟩) b.hl.length b.hl.length); refine ⟨⟨_, rfl, ⟨rfl, rfl, rfl, bJ.xs hF Fx.cells_length (nlq _) (nlq _), ⟨_, rfl, bJ.xs' hH Hx.cells_length (by show m.length <= _; omega) (by show m.length <= _; omega)⟩, hM.likes, j6.inn hM'⟩, ?_⟩, hBe⟩; have hFl := hF.lt; have hHl := hH.lt
 have made : ∀ h ∈ m, ∃ h0, mW (w1.heap.size + 1) _ h0 h := fun h hm => by
  obtain ⟨k, hk, rfl⟩ := lgo hm; exact ⟨_, hM'.2 k (by omega) (by omega)⟩
 refine ⟨⟨_, rfl, ⟨by omega, hFl⟩, ?_⟩, ⟨_, rfl, ⟨by omega, hHl⟩, ?_, fun h hm => ?_, ?_⟩, ?_⟩
 · obtain ⟨f, hr, _⟩ := hF
   exact ⟨f, hr⟩
 · obtain ⟨f, hr, hv⟩ := hH
   refine ⟨f, by show World.rowIs _ w1.heap.size _ (m.length * 3) f; rw [hml]; exact hr, fun i hi => ⟨hv i hi (by rw [← hml]; exact hi) 1 _ rfl, hv i hi (by rw [← hml]; exact hi) 2 _ rfl⟩⟩
 · obtain ⟨h0, _, ⟨p, e, hz, f, hr, _⟩, p2, e2, hz2, f2, hr2, _⟩ := made h hm
   exact ⟨⟨p, e, ⟨by omega, hr.lt⟩, by omega, f, hr⟩, ⟨p2, e2, ⟨by omega, hr2.lt⟩, by omega, f2, hr2⟩⟩
 · intro p e
   have : w.heap.size + 3 = p := by simpa using congrArg (fun o : Option Addr => (o.map Addr.block).getD 0) e
   show w1.heap.size ≠ p
   omega
 · intro p e h hm
   have hp : w.heap.size + 3 = p := by simpa using congrArg (fun o : Option Addr => (o.map Addr.block).getD 0) e
   obtain ⟨h0, _, ⟨p1, e1, hz, _⟩, p2, e2, hz2, _⟩ := made h hm; refine ⟨fun a ea => ?_, fun a ea => ?_⟩
   · rw [e1] at ea; cases ea; show p1 ≠ p; omega
   · rw [e2] at ea; cases ea; show p2 ≠ p; omega
theorem z6.zL {S : Nat -> Prop} {w w' : World} {b : Bk} (h : z6 S w b) (hb : Below w.heap.size w w') : z6 S w' b := by
 obtain ⟨⟨p, e, hs, f, hr⟩, ⟨q, e2, hs2, ⟨f2, hr2, hv⟩, ht, hq⟩, h3⟩ := h; exact ⟨⟨p, e, hs, f, hr.of_block (hb.block _ hr.lt)⟩, ⟨q, e2, hs2, ⟨f2, hr2.of_block (hb.block _ hr2.lt), hv⟩, fun x hx => ⟨(ht x hx).1.zL hb, (ht x hx).2.zL hb⟩, hq⟩, h3⟩
theorem GG (S : Nat -> Prop) (b : Bk) (k0 : Int) (w : World) (hO : z6 S w b) (hF : ∀ h ∈ b.hl, h.Fit) (hnf : b.fl.length <= 1048576) (hnh : b.hl.length <= 1048576) (h0 : 0 <= k0) (h1 : k0 <= 1000) :
 Calls Tryz.prog 19 #[b.val, .int .i64 k0] w fun e w' => (∃ r, e = .returned (.int .i64 r) /\ 0 <= r /\ r <= 100000000000000) /\ bC S w w' := by
 obtain ⟨now, fa, fl, fc, ha, hl, hc⟩ := b; have hOw := hO; have hB0 : Below w.heap.size w (w.alloc (.cells #[.int .i64 now, .slice fa fl.length fc, .slice ha hl.length hc] 29)) := aA (br _ _) _; have A0 := wnq w (.cells #[.int .i64 now, .slice fa fl.length fc, .slice ha hl.length hc] 29); have hO1 := hO.zL hB0; obtain ⟨⟨p, e, hsp, hrp⟩, ⟨q, e2, hsq, hRq, hTq, hqp⟩, h3⟩ := hO1; simp only at e e2 hrp hRq hTq hqp h3 hF hnf hnh; subst e e2
 go_enter Tryz.func19, Tryz.ntmps19
 go_wp2_with fail
 refine (IM (fun k => k = p) _ _ p _ _ rfl hrp hnf h0 (by omega)).mono ?_; rintro e w1 ⟨rfl, hb1⟩; have hqp' : q ≠ p := hqp p rfl
 have hz : w.heap.size ≠ p := fun e => by
  obtain ⟨⟨p', ep, _, f, hr⟩, _⟩ := hOw; simp only at ep hr
  cases ep
  have := hr.lt; omega
 have A1 := (hb1.block w.heap.size (bH A0) hz).trans A0; have k2 : w1.cell? ⟨w.heap.size, 2, none⟩ = some (.slice (some ⟨q, 0, none⟩) hl.length hc) := bF A1 rfl
 have hR1 : OB w1 q hl := by
  obtain ⟨f, hr, hv⟩ := hRq; exact ⟨f, hr.of_block (hb1.block q hr.lt hqp'), hv⟩
 have hT1 : ∀ h ∈ hl, jN S q w1 h.ta h.tl.length /\ jN S q w1 h.na h.nl.length := fun h hm => ⟨xL (hTq h hm).1 hb1.block (h3 p rfl h hm).1, xL (hTq h hm).2 hb1.block (h3 p rfl h hm).2⟩; have hbS : bC S w w1 := (bC.below hB0).trans ⟨hb1.os, hb1.tape, hb1.output, hb1.size, fun k hk hs => hb1.block k hk (fun e => hs (by rw [e]; exact hsp))⟩; clear hRq hTq hrp; go_wp2_with fail
 refine (KX S hl q hc _ _ hsq hR1 hT1 hF hnh (by omega) (by omega)).mono ?_; rintro e w2 ⟨⟨r, rfl, hr0, hr1⟩, hb2⟩; clear k2; go_wp2
 go_ret; exact ⟨⟨r, rfl, hr0, by omega⟩, hbS.trans hb2⟩
end Go.Proofs.YtiojdbffjdoniaaGreatDoor
