import Derived.Test.YtficfhcmbhlagabGreatBook
import Derived.Test.YtficfhcmbhlagabGreatNear2
import Derived.Test.YtficfhcmbhlagabGreatSpecTube
import Derived.Test.YtficfhcmbhlagabGreatSpecF
namespace Go.Proofs.YtficfhcmbhlagabGreat
open Go.RowKit
def nearL (la lb : List Bx) : Bool := la.any fun a => lb.any (closeB a)
def meetsB (a b : Hx) : Bool := nearL a.tl b.tl || (nearL a.tl b.nl || (nearL a.nl b.tl || nearL a.nl b.nl))
set_option maxRecDepth 100000 in
theorem specNear_val (la lb : List Bx) (v : Bool) (hv : nearL la lb = v) (aa ab : Option Addr) (ca cb : Nat) (w : World) (hla : Bxs w aa la) (hlb : Bxs w ab lb) (hna : la.length ≤ 1048576) (hnb : lb.length ≤ 1048576) :
    Calls Tryz.prog 104 #[.slice aa la.length ca, .slice ab lb.length cb] w fun e w' => e = .returned (.bool v) ∧ Below w.heap.size w w' := by
  subst hv; exact specNear_any la lb aa ab ca cb w hla hlb hna hnb
structure Hx.Fit (h : Hx) : Prop where
  tn : h.tl.length ≤ 1048576
  nn : h.nl.length ≤ 1048576
  sn : h.n.size ≤ 9223372036854775807
set_option maxRecDepth 100000 in
set_option maxHeartbeats 1000000 in
theorem meets_any (a b : Hx) (w : World) (ha : a.In w) (hb : b.In w) (fa : a.Fit) (fb : b.Fit) :
    Calls Tryz.prog 87 #[a.val, b.val] w fun e w' => e = .returned (.bool (meetsB a b)) ∧ Below w.heap.size w w' := by
  obtain ⟨V, hV⟩ : ∃ V, V = meetsB a b := ⟨_, rfl⟩
  rw [← hV]
  have HV : Hid (V = meetsB a b) := hV
  clear hV
  have hB0 : Below w.heap.size w ((w.alloc (.cells #[.string a.n, .slice a.ta a.tl.length a.tc, .slice a.na a.nl.length a.nc] 119)).alloc (.cells #[.string b.n, .slice b.ta b.tl.length b.tc, .slice b.na b.nl.length b.nc] 119)) := balloc (balloc (Below.refl _ _) _) _
  have C : ∀ w1, Below ((w.alloc (.cells #[.string a.n, .slice a.ta a.tl.length a.tc, .slice a.na a.nl.length a.nc] 119)).alloc (.cells #[.string b.n, .slice b.ta b.tl.length b.tc, .slice b.na b.nl.length b.nc] 119)).heap.size ((w.alloc (.cells #[.string a.n, .slice a.ta a.tl.length a.tc, .slice a.na a.nl.length a.nc] 119)).alloc (.cells #[.string b.n, .slice b.ta b.tl.length b.tc, .slice b.na b.nl.length b.nc] 119)) w1 →
      w1.cell? ⟨w.heap.size, 1, none⟩ = some (.slice a.ta a.tl.length a.tc) ∧ w1.cell? ⟨w.heap.size, 2, none⟩ = some (.slice a.na a.nl.length a.nc) ∧ w1.cell? ⟨w.heap.size + 1, 1, none⟩ = some (.slice b.ta b.tl.length b.tc) ∧ w1.cell? ⟨w.heap.size + 1, 2, none⟩ = some (.slice b.na b.nl.length b.nc) :=
    fun w1 h => ⟨(h.cell (by simp; omega)).trans (by simp), (h.cell (by simp; omega)).trans (by simp), (h.cell (by simp)).trans (by simp), (h.cell (by simp)).trans (by simp)⟩
  have HC := C
  clear C
  have HCh : Hid (∀ w1, Below ((w.alloc (.cells #[.string a.n, .slice a.ta a.tl.length a.tc, .slice a.na a.nl.length a.nc] 119)).alloc (.cells #[.string b.n, .slice b.ta b.tl.length b.tc, .slice b.na b.nl.length b.nc] 119)).heap.size ((w.alloc (.cells #[.string a.n, .slice a.ta a.tl.length a.tc, .slice a.na a.nl.length a.nc] 119)).alloc (.cells #[.string b.n, .slice b.ta b.tl.length b.tc, .slice b.na b.nl.length b.nc] 119)) w1 → _) := HC
  clear HC
  go_enter Tryz.func87, Tryz.ntmps87
  go_wp2_with fail
  rcases Bool.eq_false_or_eq_true (nearL a.tl b.tl) with h1 | h1
  · refine (specNear_val _ _ _ h1 _ _ _ _ _ (ha.1.later hB0) (hb.1.later hB0) fa.tn fb.tn).mono ?_
    rintro e w1 ⟨rfl, hb1⟩
    go_wp2_with fail
    go_ret
    exact ⟨ret_bool (by rw [HV.out, meetsB, h1]; rfl), bstep hB0 hb1⟩
  refine (specNear_val _ _ _ h1 _ _ _ _ _ (ha.1.later hB0) (hb.1.later hB0) fa.tn fb.tn).mono ?_
  rintro e w1 ⟨rfl, hb1⟩
  have hN1 := bstep hB0 hb1
  obtain ⟨a1, a2, a3, a4⟩ := HCh.out w1 hb1
  go_wp2_with fail
  rcases Bool.eq_false_or_eq_true (nearL a.tl b.nl) with h2 | h2
  · refine (specNear_val _ _ _ h2 _ _ _ _ _ (ha.1.later hN1) (hb.2.later hN1) fa.tn fb.nn).mono ?_
    rintro e w2 ⟨rfl, hb2⟩
    clear a1 a2 a3 a4
    go_wp2_with fail
    go_ret
    exact ⟨ret_bool (by rw [HV.out, meetsB, h1, h2]; rfl), bstep hN1 hb2⟩
  refine (specNear_val _ _ _ h2 _ _ _ _ _ (ha.1.later hN1) (hb.2.later hN1) fa.tn fb.nn).mono ?_
  rintro e w2 ⟨rfl, hb2⟩
  have hN2 := bstep hN1 hb2
  have hc2 := bstepB hb1 (Nat.le_refl _) hb2
  clear a1 a2 a3 a4
  obtain ⟨a1, a2, a3, a4⟩ := HCh.out w2 hc2
  go_wp2_with fail
  rcases Bool.eq_false_or_eq_true (nearL a.nl b.tl) with h3 | h3
  · refine (specNear_val _ _ _ h3 _ _ _ _ _ (ha.2.later hN2) (hb.1.later hN2) fa.nn fb.tn).mono ?_
    rintro e w3 ⟨rfl, hb3⟩
    clear a1 a2 a3 a4
    go_wp2_with fail
    go_ret
    exact ⟨ret_bool (by rw [HV.out, meetsB, h1, h2, h3]; rfl), bstep hN2 hb3⟩
  refine (specNear_val _ _ _ h3 _ _ _ _ _ (ha.2.later hN2) (hb.1.later hN2) fa.nn fb.tn).mono ?_
  rintro e w3 ⟨rfl, hb3⟩
  have hN3 := bstep hN2 hb3
  have hc3 := bstepB hc2 (Nat.le_refl _) hb3
  clear a1 a2 a3 a4
  obtain ⟨a1, a2, a3, a4⟩ := HCh.out w3 hc3
  go_wp2_with fail
  refine (specNear_val _ _ _ rfl _ _ _ _ _ (ha.2.later hN3) (hb.2.later hN3) fa.nn fb.nn).mono ?_
  rintro e w4 ⟨rfl, hb4⟩
  clear a1 a2 a3 a4
  go_wp2_with fail
  go_ret
  exact ⟨ret_bool (by rw [HV.out, meetsB, h1, h2, h3]; rfl), bstep hN3 hb4⟩
end Go.Proofs.YtficfhcmbhlagabGreat
