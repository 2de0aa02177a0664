import Derived.Test.YtficfhcmbhlagabGreatBook2
namespace Go.Proofs.YtficfhcmbhlagabGreat
open Go.RowKit
def heldB (fl : List Fx) (now : Int) (h : Hx) : Bool := nameB h.n && (tubeOkB fl h.tl && (fromB now h.tl && (h.nl.isEmpty || (tubeOkB fl h.nl && fromB now h.nl))))
set_option maxRecDepth 100000 in
theorem specTube_val (fl : List Fx) (l : List Bx) (v : Bool) (hv : tubeOkB fl l = v) (af ao : Option Addr) (cf cap : Nat) (w : World) (hfl : Xs 3 Fx.cells w af fl) (hl : Bxs w ao l) (hnf : fl.length ≤ 1048576) (hn : l.length ≤ 1048576) :
    Calls Tryz.prog 66 #[.slice af fl.length cf, .slice ao l.length cap] w fun e w' => e = .returned (.bool v) ∧ Below w.heap.size w w' := by
  subst hv; exact specTube_any fl l af ao cf cap w hfl hl hnf hn
set_option maxRecDepth 100000 in
theorem l2From_val (l : List Bx) (now : Int) (v : Bool) (hv : fromB now l = v) (ao : Option Addr) (cap : Nat) (w : World) (hl : Bxs w ao l) (hn : l.length ≤ 1048576) :
    Calls Tryz.prog 91 #[.slice ao l.length cap, .int .i64 now] w fun e w' => e = .returned (.bool v) ∧ w' = w := by
  subst hv; exact l2From_any l ao cap now w hl hn
set_option maxRecDepth 100000 in
set_option maxHeartbeats 1000000 in
theorem heldOk_any (b : Bk) (h : Hx) (w : World) (hf : Xs 3 Fx.cells w b.fa b.fl) (hnf : b.fl.length ≤ 1048576) (hh : h.In w) (fh : h.Fit) :
    Calls Tryz.prog 86 #[b.val, h.val] w fun e w' => e = .returned (.bool (heldB b.fl b.now h)) ∧ Below w.heap.size w w' := by
  obtain ⟨V, hV⟩ : ∃ V, V = heldB b.fl b.now h := ⟨_, rfl⟩
  rw [← hV]
  have HV : Hid (V = heldB b.fl b.now h) := hV
  clear hV
  obtain ⟨W0, hW0⟩ : ∃ W0, W0 = ((w.alloc (.cells #[.int .i64 b.now, .slice b.fa b.fl.length b.fc, .slice b.ha b.hl.length b.hc] 34)).alloc (.cells #[.string h.n, .slice h.ta h.tl.length h.tc, .slice h.na h.nl.length h.nc] 119)) := ⟨_, rfl⟩
  have hB0 : Below w.heap.size w W0 := by rw [hW0]; exact balloc (balloc (Below.refl _ _) _) _
  have HC : Hid (∀ w1, Below W0.heap.size W0 w1 → w1.cell? ⟨w.heap.size, 0, none⟩ = some (.int .i64 b.now) ∧ w1.cell? ⟨w.heap.size, 1, none⟩ = some (.slice b.fa b.fl.length b.fc) ∧
      w1.cell? ⟨w.heap.size + 1, 0, none⟩ = some (.string h.n) ∧ w1.cell? ⟨w.heap.size + 1, 1, none⟩ = some (.slice h.ta h.tl.length h.tc) ∧ w1.cell? ⟨w.heap.size + 1, 2, none⟩ = some (.slice h.na h.nl.length h.nc)) := by
    subst hW0
    exact fun w1 h => ⟨(h.cell (by simp; omega)).trans (by simp), (h.cell (by simp; omega)).trans (by simp), (h.cell (by simp)).trans (by simp), (h.cell (by simp)).trans (by simp), (h.cell (by simp)).trans (by simp)⟩
  have HW0 : Hid (W0 = ((w.alloc (.cells #[.int .i64 b.now, .slice b.fa b.fl.length b.fc, .slice b.ha b.hl.length b.hc] 34)).alloc (.cells #[.string h.n, .slice h.ta h.tl.length h.tc, .slice h.na h.nl.length h.nc] 119))) := hW0
  clear hW0
  go_enter Tryz.func86, Tryz.ntmps86
  go_wp2_with fail
  rw [← HW0.out]
  obtain ⟨v1, h1⟩ : ∃ v, nameB h.n = v := ⟨_, rfl⟩
  refine (l1NameOk_val _ _ h1 _ fh.sn).mono ?_
  rintro e W0 ⟨rfl, rfl⟩
  obtain ⟨a1, a2, a3, a4, a5⟩ := HC.out _ (Below.refl _ _)
  cases v1 with
  | false =>
    go_wp2_with fail
    go_ret
    exact ⟨ret_bool (by rw [HV.out, heldB, h1]; rfl), hB0⟩
  | true =>
  go_wp2_with fail
  obtain ⟨v2, h2⟩ : ∃ v, tubeOkB b.fl h.tl = v := ⟨_, rfl⟩
  refine (specTube_val _ _ _ h2 _ _ _ _ _ (hf.later hB0) (hh.1.later hB0) hnf fh.tn).mono ?_
  rintro e w1 ⟨rfl, hb1⟩
  have hN1 := bstep hB0 hb1
  clear a1 a2 a3 a4 a5
  obtain ⟨a1, a2, a3, a4, a5⟩ := HC.out w1 hb1
  cases v2 with
  | false =>
    go_wp2_with fail
    go_ret
    exact ⟨ret_bool (by rw [HV.out, heldB, h1, h2]; rfl), hN1⟩
  | true =>
  go_wp2_with fail
  obtain ⟨v3, h3⟩ : ∃ v, fromB b.now h.tl = v := ⟨_, rfl⟩
  refine (l2From_val _ _ _ h3 _ _ _ (hh.1.later hN1) fh.tn).mono ?_
  rintro e w1 ⟨rfl, rfl⟩
  cases v3 with
  | false =>
    go_wp2_with fail
    go_ret
    exact ⟨ret_bool (by rw [HV.out, heldB, h1, h2, h3]; rfl), hN1⟩
  | true =>
  by_cases hnl : h.nl.length = 0
  · have e0 : ((h.nl.length : Int) == 0) = true := by simp [hnl]
    have HE : Hid (h.nl.isEmpty = true) := by rw [Hid, List.isEmpty_iff]; exact List.eq_nil_of_length_eq_zero hnl
    clear hnl
    go_wp2_with fail
    go_ret
    exact ⟨ret_bool (by rw [HV.out, heldB, h1, h2, h3, HE.out]; rfl), hN1⟩
  have e0 : ((h.nl.length : Int) == 0) = false := by simp; intro hh; exact hnl (by rw [hh]; rfl)
  have HE : Hid (h.nl.isEmpty = false) := by rw [Hid, Bool.eq_false_iff]; intro hh; rw [List.isEmpty_iff] at hh; exact hnl (by rw [hh]; rfl)
  clear hnl
  go_wp2_with fail
  obtain ⟨v4, h4⟩ : ∃ v, tubeOkB b.fl h.nl = v := ⟨_, rfl⟩
  refine (specTube_val _ _ _ h4 _ _ _ _ _ (hf.later hN1) (hh.2.later hN1) hnf fh.nn).mono ?_
  rintro e w2 ⟨rfl, hb2⟩
  have hN2 := bstep hN1 hb2
  clear a1 a2 a3 a4 a5
  obtain ⟨a1, a2, a3, a4, a5⟩ := HC.out w2 (bstepB hb1 (Nat.le_refl _) hb2)
  cases v4 with
  | false =>
    go_wp2_with fail
    go_ret
    exact ⟨ret_bool (by rw [HV.out, heldB, h1, h2, h3, HE.out, h4]; rfl), hN2⟩
  | true =>
  go_wp2_with fail
  refine (l2From_val _ _ _ rfl _ _ _ (hh.2.later hN2) fh.nn).mono ?_
  rintro e w2 ⟨rfl, rfl⟩
  go_wp2_with fail
  go_ret
  exact ⟨ret_bool (by rw [HV.out, heldB, h1, h2, h3, HE.out, h4]; rfl), hN2⟩
end Go.Proofs.YtficfhcmbhlagabGreat
