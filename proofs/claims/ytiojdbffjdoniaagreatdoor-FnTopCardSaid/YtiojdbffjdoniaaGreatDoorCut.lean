import Derived.Test.YtiojdbffjdoniaaGreatDoorLeaf
namespace Go.Proofs.YtiojdbffjdoniaaGreatDoor
set_option maxRecDepth 100000
set_option maxHeartbeats 1000000
open Go.RowKit
theorem kZ (l : List Bx) (ao : Option Addr) (cap : Nat) (frm : Int) (w : World) (hl : iH w ao l) (hn : l.length <= 1048576) :
 Calls Tryz.prog 12 #[.slice ao l.length cap, .int .i64 frm] w fun e w' => ∃ v, e = .returned v /\ aG w' w.heap.size v (aQ frm l) /\ Below w.heap.size w w' := by
 obtain ⟨i0, hi, hz0, hz1, hz2⟩ := info_parts Tryz.info89
 go_enter Tryz.func12, Tryz.ntmps12
 go_wp2
 go_loopw [5, 10] (fun v i wr => ∃ k : Nat, k <= l.length /\ i = .int .i64 k /\ wr.ownsRow w.heap.size 89 6 v (aQ frm (l.take k)).length (fJ (aQ frm (l.take k))) /\ Below w.heap.size w wr) (fun _ i _ => l.length - (intOf i).toNat)
 case atStart => exact ⟨0, nz _, rfl, World.ownsRow_nil _ _ _ _, br _ _⟩
 case round =>
  obtain ⟨k, hk, rfl, hown, hN⟩ := hrel
  by_cases hlt : k < l.length
  · rcases hl with h | ⟨bl, off, rfl, hc⟩
    · subst h;simp at hlt
    · have hbx := (hc k hlt).zL hN
      have hlen := c6 frm (l.take k);have hlt2 : (l.take k).length <= k := List.length_take_le _ _;have hts := xH l k hlt;obtain ⟨b, hbe⟩ : ∃ b, b = l[k] := ⟨_, rfl⟩;rw [← hbe] at hbx hts;have HT : Hid (l.take (k + 1) = l.take k ++ [b]) := hts;clear hbe hc hts;obtain ⟨c0, c1, c2, c3, c4, c5⟩ := hbx
      by_cases hout : frm <= b.o
      · by_cases hin : b.i < frm
        · go_wp2_with (at_builtin;refine wpList_append_own _ rfl (.tmp 23) (.tmp 25) 34 rfl w.heap.size 89 i0 _ 6 48 Tryz.underlying34 hi hz0 hz1 hz2 rfl (by decide) _ _ _ rfl ((hown.alloc _).alloc _) ⟨wr.heap.size + 1, 0, none⟩ 1 1 (aP { b with i := frm }) rfl rfl ?qc1 ?qc2 ?qc3 ?qc4 ?qc5 ?_)
          case qc1 => first | exact fun _ _ h => h | exact qW _ _ (by simp) { b with i := frm }
          case qc2 => exact mG _
          case qc3 => unfold maxLen;omega
          case qc4 => omega
          case qc5 => have := hN.size;(try simp);omega
          intro v' w1 hown' hgrow _
          have hcut : aQ frm (l.take (k + 1)) = aQ frm (l.take k) ++ [{ b with i := frm }] := by
           rw [HT.out, iC _ _ _ hout, fC, show max b.i frm = frm from by omega]
          have HR : Hid (w1.ownsRow w.heap.size 89 6 v' (aQ frm (l.take (k + 1))).length (fJ (aQ frm (l.take (k + 1))))) := by
           rw [hcut, jL, List.length_append];exact hown'
          have hN1 : Below w.heap.size w w1 := ((hN.alloc hN.size _).alloc (by have := hN.size;simp;omega) _).grown hgrow (by have := hN.size;simp;omega) (fun q hq => gV hown hq);clear hcut hown hown' hgrow hN;go_wp2
          go_roundw
          case rel => exact ⟨k + 1, by omega, by go_num, HR.out, hN1⟩
          case measure => simp [intOf];omega
        · go_wp2_with (at_builtin;refine wpList_append_own _ rfl (.tmp 23) (.tmp 25) 34 rfl w.heap.size 89 i0 _ 6 48 Tryz.underlying34 hi hz0 hz1 hz2 rfl (by decide) _ _ _ rfl ((hown.alloc _).alloc _) ⟨wr.heap.size + 1, 0, none⟩ 1 1 (aP b) rfl rfl ?qc1 ?qc2 ?qc3 ?qc4 ?qc5 ?_)
          case qc1 => first | exact fun _ _ h => h | exact qW _ _ (by simp) b
          case qc2 => exact mG _
          case qc3 => unfold maxLen;omega
          case qc4 => omega
          case qc5 => have := hN.size;(try simp);omega
          intro v' w1 hown' hgrow _
          have hcut : aQ frm (l.take (k + 1)) = aQ frm (l.take k) ++ [b] := by
           rw [HT.out, iC _ _ _ hout, fC, show max b.i frm = b.i from by omega]
          have HR : Hid (w1.ownsRow w.heap.size 89 6 v' (aQ frm (l.take (k + 1))).length (fJ (aQ frm (l.take (k + 1))))) := by
           rw [hcut, jL, List.length_append];exact hown'
          have hN1 : Below w.heap.size w w1 := ((hN.alloc hN.size _).alloc (by have := hN.size;simp;omega) _).grown hgrow (by have := hN.size;simp;omega) (fun q hq => gV hown hq);clear hcut hown hown' hgrow hN;go_wp2
          go_roundw
          case rel => exact ⟨k + 1, by omega, by go_num, HR.out, hN1⟩
          case measure => simp [intOf];omega
      · go_wp2
        go_roundw
        case rel => exact ⟨k + 1, by omega, by go_num, by rw [HT.out, lU _ _ _ hout];exact hown.alloc _, hN.alloc hN.size _⟩
        case measure => simp [intOf];omega
  · go_wp2
    go_ret;refine ⟨_, rfl, aG.of_owns ?_, hN⟩;rw [ltl (by omega)] at hown;exact hown
theorem sR (l : List Bx) (ao : Option Addr) (cap : Nat) (frm : Int) (w : World) (hl : iH w ao l) (hn : l.length <= 1048576) :
 Calls Tryz.prog 82 #[.slice ao l.length cap, .int .i64 frm] w fun e w' => ∃ v, e = .returned v /\ aG w' w.heap.size v (aQ frm l) /\ Below w.heap.size w w' := by
 obtain ⟨i0, hi, hz0, hz1, hz2⟩ := info_parts Tryz.info89
 go_enter Tryz.func82, Tryz.ntmps82
 go_wp2
 go_loopw [5, 6] (fun v i wr => ∃ k : Nat, k <= l.length /\ i = .int .i64 k /\ wr.ownsRow w.heap.size 89 6 v (aQ frm (l.take k)).length (fJ (aQ frm (l.take k))) /\ Below w.heap.size w wr) (fun _ i _ => l.length - (intOf i).toNat)
 case atStart => exact ⟨0, nz _, rfl, by simpa [aQ, fJ] using World.ownsRow_lit (base := w.heap.size) (e := 89) (size := 6) w #[] 0 (nlq _) (nz _) rfl, aB (br _ _) _⟩
 case round =>
  obtain ⟨k, hk, rfl, hown, hN⟩ := hrel
  by_cases hlt : k < l.length
  · rcases hl with h | ⟨bl, off, rfl, hc⟩
    · subst h;simp at hlt
    · have hbx := (hc k hlt).zL hN
      have hlen := c6 frm (l.take k);have hlt2 : (l.take k).length <= k := List.length_take_le _ _;have hts := xH l k hlt;obtain ⟨b, hbe⟩ : ∃ b, b = l[k] := ⟨_, rfl⟩;rw [← hbe] at hbx hts;have HT : Hid (l.take (k + 1) = l.take k ++ [b]) := hts;clear hbe hc hts;obtain ⟨c0, c1, c2, c3, c4, c5⟩ := hbx
      by_cases hout : frm <= b.o
      · by_cases hin : b.i < frm
        · go_wp2_with (at_builtin;refine wpList_append_own _ rfl (.tmp 29) (.tmp 31) 34 rfl w.heap.size 89 i0 _ 6 48 Tryz.underlying34 hi hz0 hz1 hz2 rfl (by decide) _ _ _ rfl ((hown.alloc _).alloc _) ⟨wr.heap.size + 1, 0, none⟩ 1 1 (aP { b with i := frm }) rfl rfl ?qc1 ?qc2 ?qc3 ?qc4 ?qc5 ?_)
          case qc1 => first | exact fun _ _ h => h | exact qW _ _ (by simp) { b with i := frm }
          case qc2 => exact mG _
          case qc3 => unfold maxLen;omega
          case qc4 => omega
          case qc5 => have := hN.size;(try simp);omega
          intro v' w1 hown' hgrow _
          have hcut : aQ frm (l.take (k + 1)) = aQ frm (l.take k) ++ [{ b with i := frm }] := by
           rw [HT.out, iC _ _ _ hout, fC, show max b.i frm = frm from by omega]
          have HR : Hid (w1.ownsRow w.heap.size 89 6 v' (aQ frm (l.take (k + 1))).length (fJ (aQ frm (l.take (k + 1))))) := by
           rw [hcut, jL, List.length_append];exact hown'
          have hN1 : Below w.heap.size w w1 := ((hN.alloc hN.size _).alloc (by have := hN.size;simp;omega) _).grown hgrow (by have := hN.size;simp;omega) (fun q hq => gV hown hq);clear hcut hown hown' hgrow hN;go_wp2
          go_roundw
          case rel => exact ⟨k + 1, by omega, by go_num, HR.out, hN1⟩
          case measure => simp [intOf];omega
        · go_wp2_with (at_builtin;refine wpList_append_own _ rfl (.tmp 29) (.tmp 31) 34 rfl w.heap.size 89 i0 _ 6 48 Tryz.underlying34 hi hz0 hz1 hz2 rfl (by decide) _ _ _ rfl ((hown.alloc _).alloc _) ⟨wr.heap.size + 1, 0, none⟩ 1 1 (aP b) rfl rfl ?qc1 ?qc2 ?qc3 ?qc4 ?qc5 ?_)
          case qc1 => first | exact fun _ _ h => h | exact qW _ _ (by simp) b
          case qc2 => exact mG _
          case qc3 => unfold maxLen;omega
          case qc4 => omega
          case qc5 => have := hN.size;(try simp);omega
          intro v' w1 hown' hgrow _
          have hcut : aQ frm (l.take (k + 1)) = aQ frm (l.take k) ++ [b] := by
           rw [HT.out, iC _ _ _ hout, fC, show max b.i frm = b.i from by omega]
          have HR : Hid (w1.ownsRow w.heap.size 89 6 v' (aQ frm (l.take (k + 1))).length (fJ (aQ frm (l.take (k + 1))))) := by
           rw [hcut, jL, List.length_append];exact hown'
          have hN1 : Below w.heap.size w w1 := ((hN.alloc hN.size _).alloc (by have := hN.size;simp;omega) _).grown hgrow (by have := hN.size;simp;omega) (fun q hq => gV hown hq);clear hcut hown hown' hgrow hN;go_wp2
          go_roundw
          case rel => exact ⟨k + 1, by omega, by go_num, HR.out, hN1⟩
          case measure => simp [intOf];omega
      · go_wp2
        go_roundw
        case rel => exact ⟨k + 1, by omega, by go_num, by rw [HT.out, lU _ _ _ hout];exact hown.alloc _, hN.alloc hN.size _⟩
        case measure => simp [intOf];omega
  · go_wp2
    go_ret;refine ⟨_, rfl, aG.of_owns ?_, hN⟩;rw [ltl (by omega)] at hown;exact hown
end Go.Proofs.YtiojdbffjdoniaaGreatDoor
