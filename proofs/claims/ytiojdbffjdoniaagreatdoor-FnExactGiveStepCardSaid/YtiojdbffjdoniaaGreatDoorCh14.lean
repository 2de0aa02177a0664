import Derived.Test.YtiojdbffjdoniaaGreatDoorCh12
import Derived.Test.YtiojdbffjdoniaaGreatDoorDn
import Derived.Test.YtiojdbffjdoniaaGreatDoorWf
namespace Go.Proofs.YtiojdbffjdoniaaGreatDoor
open Go.RowKit
theorem CY {nm : ByteArray} {t : List Bx} {l m : List Hx} (h : aI l m) : iK nm t m = iK nm t l := by
 have e : ∀ k : List Hx, iK nm t k = (k.map fun h => (h.n, h.tl, h.nl)).all (fun p => !(sC nm p.1 && (dL t p.2.1 || dL t p.2.2))) := fun k => by rw [List.all_map]; rfl
 have g : (m.map fun h => (h.n, h.tl, h.nl)) = l.map fun h => (h.n, h.tl, h.nl) := List.ext_getElem (by simp [h.len]) (fun i h1 h2 => by
  simp only [List.getElem_map]; have hl := h.like i (by simpa using h2)
  rw [hl.n, hl.t, hl.x])
 rw [e, e, g]
theorem D3 {l m : List Yx} (h : iN l m) (j : Nat) : (vZ m j).l = (vZ l j).l := by
 by_cases hj : j < l.length
 · rw [tN _ _ hj, tN _ _ (by rw [h.len]; exact hj)]; exact h.like j hj
 · unfold vZ
   rw [List.getElem?_eq_none (by rw [h.len]; omega), List.getElem?_eq_none (by omega)]
theorem qD {z : Nat} {w : World} {x x' : Wx} (h : dO z w x x') (way lev late : Int) : aR x' way lev late = aR x way lev late := by
 have e1 : eU x' late = eU x late := by unfold eU; rw [h.q, h.s, h.f, h.b]
 have e2 : ∀ (cs : List Cx) (lv : Int), nF x' cs lv late = nF x cs lv late := fun cs lv => by
  unfold nF gS; rw [h.q, h.s, h.f, h.b]
 unfold aR; rw [h.likes.len, h.ll, e1, D3 h.likes, e2]
theorem dO.capsC {z : Nat} {w : World} {x x' : Wx} (h : dO z w x x') (hf : x.Fit) : ∀ y ∈ x'.wl, y.l.length <= y.c /\ y.c <= 1048576 := by
 have hfit := h.fit hf; obtain ⟨h1, h2, h3, h4, h5, h6, h7, h8, h9, p, r, e1, e2, hz, hpr, R1, M, hlt, R2⟩ := h; intro y hy; have hyn := hfit.yn y hy; obtain ⟨k, hk, rfl⟩ := lgo hy; have hkl : k < x.wl.length := by rw [← M.1]; exact hk
 obtain ⟨ml, mc, _⟩ := M.2 k hkl hkl; rw [mc, ← ml]; exact ⟨nlq _, hyn⟩
theorem zU {b b' : Bk} {w : World} (h : eN w b b') (hnf : b.fl.length <= 1048576) (hs : ∀ f ∈ b.fl, f.n.size <= 9223372036854775807) (hnh : b.hl.length <= 1048576) (hfit : ∀ h ∈ b.hl, h.Fit) : fM w b' := by
 obtain ⟨q, e, hc⟩ := h.hs; exact ⟨h.fs, by rw [h.fl]; exact hnf, by rw [h.fl, h.fc]; exact nlq _, by rw [h.fc]; exact Nat.le_trans hnf (by decide), by rw [h.fl]; exact hs, h.xs, by rw [h.likes.len]; exact hnh, fun x hx => ⟨h.inn x hx, h.likes.fit hfit x hx⟩⟩
theorem C9 {x x' : Wx} {z : Nat} {w : World} (h : dO z w x x') (hf : x.Fit) : gU w x' := ⟨h.inn, h.fit hf, h.capsC hf⟩
theorem xE (l : List Co) : ∃ d i k f, eA l = .tuple #[fY d i k, .bool f] := by
 cases l with
 | nil => exact ⟨0, 0, 0, false, rfl⟩
 | cons c r => exact ⟨c.d, c.i, c.k, true, rfl⟩
end Go.Proofs.YtiojdbffjdoniaaGreatDoor
