import Derived.Test.YtaokdhebbnkheaaRe
import Derived.Test.YtaokdhebbnkheaaRp
import Derived.Test.YtaokdhebbnkheaaNear2
import Derived.Test.YtaokdhebbnkheaaPasses
namespace Go.Proofs.Ytaokdhebbnkheaa
open Go.RowKit Go.BigFrame
set_option maxRecDepth 100000 in
set_option maxHeartbeats 2000000 in
theorem wTube_same (l : List Bx) (aa ab : Option Addr) (ca cb : Nat) (w : World) (hla : Bxs w aa l) (hlb : Bxs w ab l) (hna : l.length ≤ 1048576) :
    Calls Try.prog 9 #[.slice aa l.length ca, .slice ab l.length cb] w fun e w' => e = .returned (.bool true) ∧ Below w.heap.size w w' := by
  go_enter Try.func9, Try.ntmps9
  go_wp2
  go_loopw [5] (fun i wr => ∃ k : Nat, k ≤ l.length ∧ i = .int .i64 k ∧ Below w.heap.size w wr) (fun i _ => l.length - (intOf i).toNat)
  case atStart => exact ⟨0, Nat.zero_le _, rfl, Below.refl _ _⟩
  case round =>
    obtain ⟨k, hk, rfl, hN⟩ := hrel
    by_cases hlt : k < l.length
    · rcases hla with h | ⟨bl, off, rfl, hc⟩
      · subst h; simp at hlt
      rcases hlb with h | ⟨bl2, off2, rfl, hc2⟩
      · subst h; simp at hlt
      have hbx := (hc k hlt).later hN
      have hby := (hc2 k hlt).later hN
      obtain ⟨a, hae⟩ : ∃ a, a = l[k] := ⟨_, rfl⟩
      rw [← hae] at hbx hby
      clear hae hc hc2
      obtain ⟨c0, c1, c2, c3, c4, c5⟩ := hbx
      obtain ⟨d0, d1, d2, d3, d4, d5⟩ := hby
      go_wp2_with fail
      go_quiet (fail)
      go_wp2
      go_roundw
      case rel => exact ⟨k + 1, by omega, by go_num, below_drewN hN _⟩
      case measure => simp [intOf]; omega
    · go_wp2
      go_ret
      exact ⟨rfl, hN⟩
theorem Bytes.later {w w' : World} {ao : Option Addr} {n : Nat} (h : Bytes w ao n) (hb : Below w.heap.size w w') : Bytes w' ao n := by
  rcases h with h | ⟨bl, off, e, hx⟩
  · exact .inl h
  · refine .inr ⟨bl, off, e, fun i hi => ?_⟩
    obtain ⟨x, x0, x1, hc⟩ := hx i hi
    exact ⟨x, x0, x1, (hb.cell (cell_lt hc)).trans hc⟩
end Go.Proofs.Ytaokdhebbnkheaa
