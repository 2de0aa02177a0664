import Derived.Test.YtficfhcmbhlagabGreatImplBook
import Derived.Test.YtficfhcmbhlagabGreatAsc
namespace Go.Proofs.YtficfhcmbhlagabGreat
open Go.RowKit
set_option maxRecDepth 100000 in
theorem impl_book (b : Bk) : implB b = bookB b := by
  unfold implB bookB holdB heldsB
  cases hn : namesG Hx.n b.hl
  · simp
  · have ha : ascG Hx.n b.hl = true := by rw [namesG, Bool.and_eq_true] at hn; exact hn.2
    rw [nobody_apart ha]
    simp only [Bool.true_and, Bool.and_true]
set_option maxRecDepth 100000 in
set_option maxHeartbeats 1000000 in
theorem implBook_any (b : Bk) (w : World) (hf : Xs 3 Fx.cells w b.fa b.fl) (hnf : b.fl.length ≤ 1048576) (hcap : b.fl.length ≤ b.fc) (hc2 : b.fc ≤ 9223372036854775807) (hs : ∀ f ∈ b.fl, f.n.size ≤ 9223372036854775807)
    (hh : Xs 3 Hx.cells w b.ha b.hl) (hnh : b.hl.length ≤ 1048576) (hgood : ∀ h ∈ b.hl, h.In w ∧ h.Fit) :
    Calls Tryz.prog 73 #[b.val] w fun e w' => e = .returned (.bool (bookB b)) ∧ Below w.heap.size w w' := by
  go_enter Tryz.func73, Tryz.ntmps73
  go_wp2_with fail
  refine (passes58_any b (w.heap.size + 1) _ (hf.later (balloc (balloc (Below.refl _ _) _) _)) hnf hcap hc2 hs (hh.later (balloc (balloc (Below.refl _ _) _) _)) hnh (fun h m => ⟨(hgood h m).1.later (balloc (balloc (Below.refl _ _) _) _), (hgood h m).2⟩) (by simp) (by simp) (by simp) (by simp) (by simp)).mono ?_
  rintro e w1 ⟨rfl, hb1⟩
  go_wp2_with fail
  go_ret
  exact ⟨ret_bool (impl_book b), bstep (balloc (balloc (Below.refl _ _) _) _) hb1⟩
end Go.Proofs.YtficfhcmbhlagabGreat
