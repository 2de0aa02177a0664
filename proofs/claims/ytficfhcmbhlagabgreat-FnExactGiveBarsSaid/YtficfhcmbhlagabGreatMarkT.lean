import Derived.Test.YtficfhcmbhlagabGreatPlainB
import Derived.Test.YtficfhcmbhlagabGreatToB
import Derived.Laws.BytesArg
namespace Go.Proofs.YtficfhcmbhlagabGreat
open Go.RowKit
theorem strOne (x : Int) : (strOfNums [x]).size = 1 := rfl
def RetStr (e : Ending) : Prop := ∃ s : ByteArray, e = .returned (.string s)
set_option maxRecDepth 100000 in
set_option maxHeartbeats 1000000 in
theorem markText_any (k : Int) (w : World) (h0 : 0 ≤ k) (h1 : k ≤ 4611686018427387904) :
    Calls Tryz.prog 83 #[.int .i64 k] w fun e w' => RetStr e ∧ Below w.heap.size w w' := by
  by_cases hk : k ≤ 0
  · go_enter Tryz.func83, Tryz.ntmps83
    go_wp2
    go_ret
    exact ⟨⟨_, rfl⟩, Below.refl _ _⟩
  · go_enter Tryz.func83, Tryz.ntmps83
    go_wp2
    go_loopw [0, 3] (fun kv sv wr => ∃ (d : Int) (s : ByteArray), 0 ≤ d ∧ (s.size : Int) + d ≤ 4611686018427387904 ∧ kv = .int .i64 d ∧ sv = .string s ∧ Below w.heap.size w wr) (fun kv _ _ => (intOf kv).toNat)
    case atStart => exact ⟨k, ByteArray.empty, h0, by simpa using h1, rfl, rfl, Below.refl _ _⟩
    case round =>
      obtain ⟨d, s, d0, d1, rfl, rfl, hN⟩ := hrel
      by_cases hd : 0 < d
      · have hcv := run_convert_bytes_arg (P := Tryz.prog) (wr.alloc (.cells #[.int .u8 (48 + d % 10)] 5)) _ _ Tryz.underlying168 Tryz.underlying5 wr.heap.size 0 1 1 [48 + d % 10] rfl (fun i hi => by cases Nat.lt_one_iff.1 hi; simp) _ Tryz.underlying9
        have hs0 := strOne (48 + d % 10)
        have hs1 : ¬ ((strOfNums [48 + d % 10]).size + s.size > 9223372036854775807) := by omega
        have hsz : ((strOfNums [48 + d % 10] ++ s).size : Int) = 1 + s.size := by rw [ByteArray.size_append, hs0]; omega
        generalize strOfNums [48 + d % 10] = st at hcv hs1 hsz hs0
        go_wp2
        go_roundw
        case rel => exact ⟨d / 10, st ++ s, by omega, by omega, by go_num, rfl, hN.alloc hN.size _⟩
        case measure => simp [intOf]; omega
      · have hs3 : (ByteArray.mk #[109]).size = 1 := rfl
        have hs2 : ¬ ((ByteArray.mk #[109]).size + s.size > 9223372036854775807) := by omega
        go_wp2
        go_ret
        exact ⟨⟨_, rfl⟩, hN⟩
end Go.Proofs.YtficfhcmbhlagabGreat
