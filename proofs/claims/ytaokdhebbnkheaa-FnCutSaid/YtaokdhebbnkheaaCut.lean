import Derived.Test.YtaokdhebbnkheaaCopy
import Derived.Test.YtaokdhebbnkheaaPlain
namespace Go.Proofs.Ytaokdhebbnkheaa
open Go.RowKit
set_option maxRecDepth 100000 in
set_option maxHeartbeats 1000000 in
theorem implCut_any (l : List Bx) (ao : Option Addr) (cap : Nat) (frm : Int) (w : World) (hl : Bxs w ao l) (hn : l.length ≤ 1048576) :
    Calls Try.prog 8 #[.slice ao l.length cap, .int .i64 frm] w fun e w' => ∃ v, e = .returned v ∧ OwnBx w' w.heap.size v (cutL frm l) ∧ Below w.heap.size w w' := by
  obtain ⟨i0, hi, hz0, hz1, hz2⟩ := info_parts Try.info48
  go_enter Try.func8, Try.ntmps8
  go_wp2
  go_loopw [5, 10] (fun v i wr => ∃ k : Nat, k ≤ l.length ∧ i = .int .i64 k ∧ wr.ownsRow w.heap.size 48 6 v (cutL frm (l.take k)).length (flat (cutL frm (l.take k))) ∧ Below w.heap.size w wr) (fun _ i _ => l.length - (intOf i).toNat)
  case atStart => exact ⟨0, Nat.zero_le _, rfl, World.ownsRow_nil _ _ _ _, Below.refl _ _⟩
  case round =>
    obtain ⟨k, hk, rfl, hown, hN⟩ := hrel
    by_cases hlt : k < l.length
    · rcases hl with h | ⟨bl, off, rfl, hc⟩
      · subst h; simp at hlt
      · have hbx := (hc k hlt).later hN
        have hlen := cutL_length frm (l.take k)
        have hlt2 : (l.take k).length ≤ k := List.length_take_le _ _
        have hts := take_step l k hlt
        obtain ⟨b, hbe⟩ : ∃ b, b = l[k] := ⟨_, rfl⟩
        rw [← hbe] at hbx hts
        have HT : Hid (l.take (k + 1) = l.take k ++ [b]) := hts
        clear hbe hc hts
        obtain ⟨c0, c1, c2, c3, c4, c5⟩ := hbx
        by_cases hout : frm ≤ b.o
        · by_cases hin : b.i < frm
          · go_wp2_with (at_builtin; refine wpList_append_own _ rfl (.tmp 23) (.tmp 25) 24 rfl w.heap.size 48 i0 _ 6 48 Try.underlying24 hi hz0 hz1 hz2 rfl (by decide) _ _ _ rfl ((hown.alloc _).alloc _) ⟨wr.heap.size + 1, 0, none⟩ 1 1 (boxCells { b with i := frm }) rfl rfl ?qc1 ?qc2 ?qc3 ?qc4 ?qc5 ?_)
            case qc1 => first | exact fun _ _ h => h | exact six_new _ _ (by simp) { b with i := frm }
            case qc2 => exact six_one _
            case qc3 => unfold maxLen; omega
            case qc4 => omega
            case qc5 => have := hN.size; (try simp); omega
            intro v' w1 hown' hgrow _
            have hcut : cutL frm (l.take (k + 1)) = cutL frm (l.take k) ++ [{ b with i := frm }] := by
              rw [HT.out, cutL_snoc_yes _ _ _ hout, cutOne, show max b.i frm = frm from by omega]
            have HR : Hid (w1.ownsRow w.heap.size 48 6 v' (cutL frm (l.take (k + 1))).length (flat (cutL frm (l.take (k + 1))))) := by
              rw [hcut, flat_snoc, List.length_append]; exact hown'
            have hN1 : Below w.heap.size w w1 := ((hN.alloc hN.size _).alloc (by have := hN.size; simp; omega) _).grown hgrow (by have := hN.size; simp; omega) (fun q hq => own_ge hown hq)
            clear hcut hown hown' hgrow hN
            go_wp2
            go_roundw
            case rel => exact ⟨k + 1, by omega, by go_num, HR.out, hN1⟩
            case measure => simp [intOf]; omega
          · go_wp2_with (at_builtin; refine wpList_append_own _ rfl (.tmp 23) (.tmp 25) 24 rfl w.heap.size 48 i0 _ 6 48 Try.underlying24 hi hz0 hz1 hz2 rfl (by decide) _ _ _ rfl ((hown.alloc _).alloc _) ⟨wr.heap.size + 1, 0, none⟩ 1 1 (boxCells b) rfl rfl ?qc1 ?qc2 ?qc3 ?qc4 ?qc5 ?_)
            case qc1 => first | exact fun _ _ h => h | exact six_new _ _ (by simp) b
            case qc2 => exact six_one _
            case qc3 => unfold maxLen; omega
            case qc4 => omega
            case qc5 => have := hN.size; (try simp); omega
            intro v' w1 hown' hgrow _
            have hcut : cutL frm (l.take (k + 1)) = cutL frm (l.take k) ++ [b] := by
              rw [HT.out, cutL_snoc_yes _ _ _ hout, cutOne, show max b.i frm = b.i from by omega]
            have HR : Hid (w1.ownsRow w.heap.size 48 6 v' (cutL frm (l.take (k + 1))).length (flat (cutL frm (l.take (k + 1))))) := by
              rw [hcut, flat_snoc, List.length_append]; exact hown'
            have hN1 : Below w.heap.size w w1 := ((hN.alloc hN.size _).alloc (by have := hN.size; simp; omega) _).grown hgrow (by have := hN.size; simp; omega) (fun q hq => own_ge hown hq)
            clear hcut hown hown' hgrow hN
            go_wp2
            go_roundw
            case rel => exact ⟨k + 1, by omega, by go_num, HR.out, hN1⟩
            case measure => simp [intOf]; omega
        · go_wp2
          go_roundw
          case rel => exact ⟨k + 1, by omega, by go_num, by rw [HT.out, cutL_snoc_no _ _ _ hout]; exact hown.alloc _, hN.alloc hN.size _⟩
          case measure => simp [intOf]; omega
    · go_wp2
      go_ret
      refine ⟨_, rfl, OwnBx.of_owns ?_, hN⟩
      rw [List.take_of_length_le (by omega)] at hown
      exact hown
set_option maxRecDepth 100000 in
set_option maxHeartbeats 1000000 in
theorem specCut_any (l : List Bx) (ao : Option Addr) (cap : Nat) (frm : Int) (w : World) (hl : Bxs w ao l) (hn : l.length ≤ 1048576) :
    Calls Try.prog 10 #[.slice ao l.length cap, .int .i64 frm] w fun e w' => ∃ v, e = .returned v ∧ OwnBx w' w.heap.size v (cutL frm l) ∧ Below w.heap.size w w' := by
  obtain ⟨i0, hi, hz0, hz1, hz2⟩ := info_parts Try.info48
  go_enter Try.func10, Try.ntmps10
  go_wp2
  go_loopw [5, 6] (fun v i wr => ∃ k : Nat, k ≤ l.length ∧ i = .int .i64 k ∧ wr.ownsRow w.heap.size 48 6 v (cutL frm (l.take k)).length (flat (cutL frm (l.take k))) ∧ Below w.heap.size w wr) (fun _ i _ => l.length - (intOf i).toNat)
  case atStart => exact ⟨0, Nat.zero_le _, rfl, by simpa [cutL, flat] using World.ownsRow_lit (base := w.heap.size) (e := 48) (size := 6) w #[] 0 (Nat.le_refl _) (Nat.zero_le _) rfl, balloc (Below.refl _ _) _⟩
  case round =>
    obtain ⟨k, hk, rfl, hown, hN⟩ := hrel
    by_cases hlt : k < l.length
    · rcases hl with h | ⟨bl, off, rfl, hc⟩
      · subst h; simp at hlt
      · have hbx := (hc k hlt).later hN
        have hlen := cutL_length frm (l.take k)
        have hlt2 : (l.take k).length ≤ k := List.length_take_le _ _
        have hts := take_step l k hlt
        obtain ⟨b, hbe⟩ : ∃ b, b = l[k] := ⟨_, rfl⟩
        rw [← hbe] at hbx hts
        have HT : Hid (l.take (k + 1) = l.take k ++ [b]) := hts
        clear hbe hc hts
        obtain ⟨c0, c1, c2, c3, c4, c5⟩ := hbx
        by_cases hout : frm ≤ b.o
        · by_cases hin : b.i < frm
          · go_wp2_with (at_builtin; refine wpList_append_own _ rfl (.tmp 29) (.tmp 31) 24 rfl w.heap.size 48 i0 _ 6 48 Try.underlying24 hi hz0 hz1 hz2 rfl (by decide) _ _ _ rfl ((hown.alloc _).alloc _) ⟨wr.heap.size + 1, 0, none⟩ 1 1 (boxCells { b with i := frm }) rfl rfl ?qc1 ?qc2 ?qc3 ?qc4 ?qc5 ?_)
            case qc1 => first | exact fun _ _ h => h | exact six_new _ _ (by simp) { b with i := frm }
            case qc2 => exact six_one _
            case qc3 => unfold maxLen; omega
            case qc4 => omega
            case qc5 => have := hN.size; (try simp); omega
            intro v' w1 hown' hgrow _
            have hcut : cutL frm (l.take (k + 1)) = cutL frm (l.take k) ++ [{ b with i := frm }] := by
              rw [HT.out, cutL_snoc_yes _ _ _ hout, cutOne, show max b.i frm = frm from by omega]
            have HR : Hid (w1.ownsRow w.heap.size 48 6 v' (cutL frm (l.take (k + 1))).length (flat (cutL frm (l.take (k + 1))))) := by
              rw [hcut, flat_snoc, List.length_append]; exact hown'
            have hN1 : Below w.heap.size w w1 := ((hN.alloc hN.size _).alloc (by have := hN.size; simp; omega) _).grown hgrow (by have := hN.size; simp; omega) (fun q hq => own_ge hown hq)
            clear hcut hown hown' hgrow hN
            go_wp2
            go_roundw
            case rel => exact ⟨k + 1, by omega, by go_num, HR.out, hN1⟩
            case measure => simp [intOf]; omega
          · go_wp2_with (at_builtin; refine wpList_append_own _ rfl (.tmp 29) (.tmp 31) 24 rfl w.heap.size 48 i0 _ 6 48 Try.underlying24 hi hz0 hz1 hz2 rfl (by decide) _ _ _ rfl ((hown.alloc _).alloc _) ⟨wr.heap.size + 1, 0, none⟩ 1 1 (boxCells b) rfl rfl ?qc1 ?qc2 ?qc3 ?qc4 ?qc5 ?_)
            case qc1 => first | exact fun _ _ h => h | exact six_new _ _ (by simp) b
            case qc2 => exact six_one _
            case qc3 => unfold maxLen; omega
            case qc4 => omega
            case qc5 => have := hN.size; (try simp); omega
            intro v' w1 hown' hgrow _
            have hcut : cutL frm (l.take (k + 1)) = cutL frm (l.take k) ++ [b] := by
              rw [HT.out, cutL_snoc_yes _ _ _ hout, cutOne, show max b.i frm = b.i from by omega]
            have HR : Hid (w1.ownsRow w.heap.size 48 6 v' (cutL frm (l.take (k + 1))).length (flat (cutL frm (l.take (k + 1))))) := by
              rw [hcut, flat_snoc, List.length_append]; exact hown'
            have hN1 : Below w.heap.size w w1 := ((hN.alloc hN.size _).alloc (by have := hN.size; simp; omega) _).grown hgrow (by have := hN.size; simp; omega) (fun q hq => own_ge hown hq)
            clear hcut hown hown' hgrow hN
            go_wp2
            go_roundw
            case rel => exact ⟨k + 1, by omega, by go_num, HR.out, hN1⟩
            case measure => simp [intOf]; omega
        · go_wp2
          go_roundw
          case rel => exact ⟨k + 1, by omega, by go_num, by rw [HT.out, cutL_snoc_no _ _ _ hout]; exact hown.alloc _, hN.alloc hN.size _⟩
          case measure => simp [intOf]; omega
    · go_wp2
      go_ret
      refine ⟨_, rfl, OwnBx.of_owns ?_, hN⟩
      rw [List.take_of_length_le (by omega)] at hown
      exact hown
end Go.Proofs.Ytaokdhebbnkheaa
