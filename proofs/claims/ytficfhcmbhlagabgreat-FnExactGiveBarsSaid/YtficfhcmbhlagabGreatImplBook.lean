import Derived.Test.YtficfhcmbhlagabGreatNobody
namespace Go.Proofs.YtficfhcmbhlagabGreat
open Go.RowKit
def holdB (l : List Hx) : Bool := sixteenB l.length && namesG Hx.n l
set_option maxRecDepth 100000 in
theorem holdB_any (b : Bk) (w : World) (hh : Xs 3 Hx.cells w b.ha b.hl) (hn : b.hl.length ≤ 1048576) (hs : ∀ h ∈ b.hl, h.n.size ≤ 9223372036854775807) :
    Calls Tryz.prog 109 #[b.val] w fun e w' => e = .returned (.bool (holdB b.hl)) ∧ Below w.heap.size w w' := holders_any b w hh hn hs
def implB (b : Bk) : Bool := nowB b.now && (fieldsB b.fl && (holdB b.hl && (b.hl.all (tubesB b.fl b.now) && nobodyB b.hl)))
def Boxed3 (w : World) (z : Nat) (b : Bk) : Prop := w.heap[z]? = some (.cells #[.int .i64 b.now, .slice b.fa b.fl.length b.fc, .slice b.ha b.hl.length b.hc] 34)
def CheckedB (b : Bk) (k : Nat) : Prop := (0 < k → nowB b.now = true) ∧ (1 < k → fieldsB b.fl = true) ∧ (2 < k → holdB b.hl = true) ∧ (3 < k → b.hl.all (tubesB b.fl b.now) = true) ∧ (4 < k → nobodyB b.hl = true)
set_option maxRecDepth 100000 in
set_option maxHeartbeats 2000000 in
theorem passes58_any (b : Bk) (G : Nat) (w : World) (hf : Xs 3 Fx.cells w b.fa b.fl) (hnf : b.fl.length ≤ 1048576) (hcap : b.fl.length ≤ b.fc) (hc2 : b.fc ≤ 9223372036854775807) (hs : ∀ f ∈ b.fl, f.n.size ≤ 9223372036854775807)
    (hh : Xs 3 Hx.cells w b.ha b.hl) (hnh : b.hl.length ≤ 1048576) (hgood : ∀ h ∈ b.hl, h.In w ∧ h.Fit)
    (g0 : w.cell? ⟨G, 0, none⟩ = some (.func (.func 106) #[] #[])) (g1 : w.cell? ⟨G, 1, none⟩ = some (.func (.func 107) #[] #[])) (g2 : w.cell? ⟨G, 2, none⟩ = some (.func (.func 109) #[] #[])) (g3 : w.cell? ⟨G, 3, none⟩ = some (.func (.func 110) #[] #[])) (g4 : w.cell? ⟨G, 4, none⟩ = some (.func (.func 111) #[] #[])) :
    Calls Tryz.prog 105 #[b.val, .slice (some ⟨G, 0, none⟩) 5 5] w fun e w' => e = .returned (.bool (implB b)) ∧ Below w.heap.size w w' := by
  obtain ⟨V, hV⟩ : ∃ V, V = implB b := ⟨_, rfl⟩
  rw [← hV]
  have HV : Hid (V = implB b) := hV
  clear hV
  go_enter Tryz.func105, Tryz.ntmps105
  go_wp2
  go_loopw [9] (fun i wr => ∃ k : Nat, k ≤ 5 ∧ i = .int .i64 k ∧ Below w.heap.size w wr ∧ Boxed3 wr w.heap.size b ∧ Hid (CheckedB b k)) (fun i _ => 5 - (intOf i).toNat)
  case atStart => exact ⟨0, by omega, rfl, balloc (Below.refl _ _) _, World.alloc_heap_new w _, by simp [Hid, CheckedB]⟩
  case round =>
    obtain ⟨k, hk, rfl, hN, hbk, hno⟩ := hrel
    have b0 : wr.cell? ⟨w.heap.size, 0, none⟩ = some (.int .i64 b.now) := obj_cell hbk rfl
    have b1 : wr.cell? ⟨w.heap.size, 1, none⟩ = some (.slice b.fa b.fl.length b.fc) := obj_cell hbk rfl
    have b2 : wr.cell? ⟨w.heap.size, 2, none⟩ = some (.slice b.ha b.hl.length b.hc) := obj_cell hbk rfl
    have hcases : k = 0 ∨ k = 1 ∨ k = 2 ∨ k = 3 ∨ k = 4 ∨ k = 5 := by omega
    rcases hcases with h0 | h1 | h2 | h3 | h4 | h5
    · subst h0
      have gk := (hN.cell (p := ⟨G, 0, none⟩) (cell_lt g0)).trans g0
      clear g0 g1 g2 g3 g4
      go_wp2_with (go_at_call 106; refine (nowOk_any b _).mono ?_; rintro e w1 ⟨rfl, hb1⟩; have hbk := (hb1.block _ (cell_lt b0)).trans hbk; have hN : Below w.heap.size w w1 := bstepB hN (Nat.le_refl _) hb1)
      · have hv : (nowB b.now) = false := nf (by assumption)
        go_ret
        exact ⟨ret_bool (by rw [HV.out]; exact (show implB b = false from by rw [implB, hv]; simp).symm), hN⟩
      · have hv : (nowB b.now) = true := nt (by assumption)
        go_roundw
        case rel => exact ⟨1, by omega, by go_num, hN, hbk, ⟨fun _ => hv, fun h => absurd h (by omega), fun h => absurd h (by omega), fun h => absurd h (by omega), fun h => absurd h (by omega)⟩⟩
        case measure => simp [intOf]
    · subst h1
      have gk := (hN.cell (p := ⟨G, 1, none⟩) (cell_lt g1)).trans g1
      clear g0 g1 g2 g3 g4
      go_wp2_with (go_at_call 107; refine (book1_any b _ (hf.later hN) hnf hcap hc2 hs).mono ?_; rintro e w1 ⟨rfl, hb1⟩; have hbk := (hb1.block _ (cell_lt b0)).trans hbk; have hN : Below w.heap.size w w1 := bstepB hN (Nat.le_refl _) hb1)
      · have hv : (fieldsB b.fl) = false := nf (by assumption)
        go_ret
        exact ⟨ret_bool (by rw [HV.out]; exact (show implB b = false from by rw [implB, hv]; simp).symm), hN⟩
      · have hv : (fieldsB b.fl) = true := nt (by assumption)
        go_roundw
        case rel => exact ⟨2, by omega, by go_num, hN, hbk, ⟨fun _ => hno.out.1 (by omega), fun _ => hv, fun h => absurd h (by omega), fun h => absurd h (by omega), fun h => absurd h (by omega)⟩⟩
        case measure => simp [intOf]
    · subst h2
      have gk := (hN.cell (p := ⟨G, 2, none⟩) (cell_lt g2)).trans g2
      clear g0 g1 g2 g3 g4
      go_wp2_with (go_at_call 109; refine (holdB_any b _ (hh.later hN) hnh (fun h m => (hgood h m).2.sn)).mono ?_; rintro e w1 ⟨rfl, hb1⟩; have hbk := (hb1.block _ (cell_lt b0)).trans hbk; have hN : Below w.heap.size w w1 := bstepB hN (Nat.le_refl _) hb1)
      · have hv : (holdB b.hl) = false := nf (by assumption)
        go_ret
        exact ⟨ret_bool (by rw [HV.out]; exact (show implB b = false from by rw [implB, hv]; simp).symm), hN⟩
      · have hv : (holdB b.hl) = true := nt (by assumption)
        go_roundw
        case rel => exact ⟨3, by omega, by go_num, hN, hbk, ⟨fun _ => hno.out.1 (by omega), fun _ => hno.out.2.1 (by omega), fun _ => hv, fun h => absurd h (by omega), fun h => absurd h (by omega)⟩⟩
        case measure => simp [intOf]
    · subst h3
      have gk := (hN.cell (p := ⟨G, 3, none⟩) (cell_lt g3)).trans g3
      clear g0 g1 g2 g3 g4
      go_wp2_with (go_at_call 110; refine (tubes_any b _ (hf.later hN) hnf (hh.later hN) hnh (fun h m => ⟨(hgood h m).1.later hN, (hgood h m).2⟩)).mono ?_; rintro e w1 ⟨rfl, hb1⟩; have hbk := (hb1.block _ (cell_lt b0)).trans hbk; have hN : Below w.heap.size w w1 := bstepB hN (Nat.le_refl _) hb1)
      · have hv : (b.hl.all (tubesB b.fl b.now)) = false := nf (by assumption)
        go_ret
        exact ⟨ret_bool (by rw [HV.out]; exact (show implB b = false from by rw [implB, hv]; simp).symm), hN⟩
      · have hv : (b.hl.all (tubesB b.fl b.now)) = true := nt (by assumption)
        go_roundw
        case rel => exact ⟨4, by omega, by go_num, hN, hbk, ⟨fun _ => hno.out.1 (by omega), fun _ => hno.out.2.1 (by omega), fun _ => hno.out.2.2.1 (by omega), fun _ => hv, fun h => absurd h (by omega)⟩⟩
        case measure => simp [intOf]
    · subst h4
      have gk := (hN.cell (p := ⟨G, 4, none⟩) (cell_lt g4)).trans g4
      clear g0 g1 g2 g3 g4
      go_wp2_with (go_at_call 111; refine (nobody_any b _ (hh.later hN) hnh (fun h m => ⟨(hgood h m).1.later hN, (hgood h m).2⟩)).mono ?_; rintro e w1 ⟨rfl, hb1⟩; have hbk := (hb1.block _ (cell_lt b0)).trans hbk; have hN : Below w.heap.size w w1 := bstepB hN (Nat.le_refl _) hb1)
      · have hv : (nobodyB b.hl) = false := nf (by assumption)
        go_ret
        exact ⟨ret_bool (by rw [HV.out]; exact (show implB b = false from by rw [implB, hv]; simp).symm), hN⟩
      · have hv : (nobodyB b.hl) = true := nt (by assumption)
        go_roundw
        case rel => exact ⟨5, by omega, by go_num, hN, hbk, ⟨fun _ => hno.out.1 (by omega), fun _ => hno.out.2.1 (by omega), fun _ => hno.out.2.2.1 (by omega), fun _ => hno.out.2.2.2.1 (by omega), fun _ => hv⟩⟩
        case measure => simp [intOf]
    · subst h5
      clear g0 g1 g2 g3 g4
      go_wp2
      go_ret
      obtain ⟨q0, q1, q2, q3, q4⟩ := hno.out
      exact ⟨ret_bool (by rw [HV.out, implB, q0 (by omega), q1 (by omega), q2 (by omega), q3 (by omega), q4 (by omega)]; rfl), hN⟩
end Go.Proofs.YtficfhcmbhlagabGreat
