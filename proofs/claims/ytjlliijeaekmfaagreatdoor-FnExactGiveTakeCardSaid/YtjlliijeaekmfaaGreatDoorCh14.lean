import Derived.Test.YtjlliijeaekmfaaGreatDoorCh12
import Derived.Test.YtjlliijeaekmfaaGreatDoorDn
import Derived.Test.YtjlliijeaekmfaaGreatDoorWf
namespace Go.Proofs.YtjlliijeaekmfaaGreatDoor
set_option maxRecDepth 100000
set_option maxHeartbeats 1000000
open Go.RowKit
theorem freeL_like3 {nm : ByteArray} {t : List Bx} {l m : List Hx} (h : Likes l m) : freeL nm t m = freeL nm t l := by
 have e : ∀ k : List Hx, freeL nm t k = (k.map fun h => (h.n, h.tl, h.nl)).all (fun p => !(othB nm p.1 && (nearL t p.2.1 || nearL t p.2.2))) := fun k => by rw [List.all_map]; rfl
 have g : (m.map fun h => (h.n, h.tl, h.nl)) = l.map fun h => (h.n, h.tl, h.nl) := List.ext_getElem (by simp [h.len]) (fun i h1 h2 => by
  simp only [List.getElem_map]; have hl := h.like i (by simpa using h2)
  rw [hl.n, hl.t, hl.x])
 rw [e, e, g]
theorem ygetC_like {l m : List Yx} (h : YLikes l m) (j : Nat) : (yget m j).l = (yget l j).l := by
 by_cases hj : j < l.length
 · rw [yget_eq _ _ hj, yget_eq _ _ (by rw [h.len]; exact hj)]; exact h.like j hj
 · unfold yget
   rw [List.getElem?_eq_none (by rw [h.len]; omega), List.getElem?_eq_none (by omega)]
theorem tubeOfC_like {z : Nat} {w : World} {x x' : Wx} (h : CopyW z w x x') (way lev late : Int) : tubeOf x' way lev late = tubeOf x way lev late := by
 have e1 : smallB x' late = smallB x late := by unfold smallB; rw [h.q, h.s, h.f, h.b]
 have e2 : ∀ (cs : List Cx) (lv : Int), tubeL x' cs lv late = tubeL x cs lv late := fun cs lv => by
  unfold tubeL boxOf; rw [h.q, h.s, h.f, h.b]
 unfold tubeOf; rw [h.likes.len, h.ll, e1, ygetC_like h.likes, e2]
theorem CopyW.capsC {z : Nat} {w : World} {x x' : Wx} (h : CopyW z w x x') (hf : x.Fit) : ∀ y ∈ x'.wl, y.l.length <= y.c /\ y.c <= 1048576 := by
 have hfit := h.fit hf; obtain ⟨h1, h2, h3, h4, h5, h6, h7, h8, h9, p, r, e1, e2, hz, hpr, R1, M, hlt, R2⟩ := h; intro y hy; have hyn := hfit.yn y hy; obtain ⟨k, hk, rfl⟩ := List.getElem_of_mem hy; have hkl : k < x.wl.length := by rw [← M.1]; exact hk
 obtain ⟨ml, mc, _⟩ := M.2 k hkl hkl; rw [mc, ← ml]; exact ⟨Nat.le_refl _, hyn⟩
theorem asksB_of {b b' : Bk} {w : World} (h : Copied w b b') (hnf : b.fl.length <= 1048576) (hs : ∀ f ∈ b.fl, f.n.size <= 9223372036854775807) (hnh : b.hl.length <= 1048576) (hfit : ∀ h ∈ b.hl, h.Fit) : AsksB w b' := by
 obtain ⟨q, e, hc⟩ := h.hs; exact ⟨h.fs, by rw [h.fl]; exact hnf, by rw [h.fl, h.fc]; exact Nat.le_refl _, by rw [h.fc]; exact Nat.le_trans hnf (by decide), by rw [h.fl]; exact hs, h.xs, by rw [h.likes.len]; exact hnh, fun x hx => ⟨h.inn x hx, h.likes.fit hfit x hx⟩⟩
theorem asksW_of {x x' : Wx} {z : Nat} {w : World} (h : CopyW z w x x') (hf : x.Fit) : AsksW w x' := ⟨h.inn, h.fit hf, h.capsC hf⟩
theorem best_form (l : List Co) : ∃ d i k f, bestVal l = .tuple #[chv d i k, .bool f] := by
 cases l with
 | nil => exact ⟨0, 0, 0, false, rfl⟩
 | cons c r => exact ⟨c.d, c.i, c.k, true, rfl⟩
theorem eqChoice_same (d i k : Int) (w : World) : Calls Tryz.prog 15 #[chv d i k, chv d i k] w fun e w' => e = .returned (.bool true) /\ Below w.heap.size w w' := by
 go_enter Tryz.func15, Tryz.ntmps15
 go_wp2
 go_ret; exact ⟨rfl, balloc (balloc (Below.refl _ _) _) _⟩
end Go.Proofs.YtjlliijeaekmfaaGreatDoor
