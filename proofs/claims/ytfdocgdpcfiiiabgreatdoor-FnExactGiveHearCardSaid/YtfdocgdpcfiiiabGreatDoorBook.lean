import Derived.Test.YtfdocgdpcfiiiabGreatDoorNamesH
import Derived.Test.YtfdocgdpcfiiiabGreatDoorNamesF
import Derived.Test.YtfdocgdpcfiiiabGreatDoorLeaf
import Derived.Deep.RegionWith
namespace Go.Proofs.YtfdocgdpcfiiiabGreatDoor
open Go.RowKit
def fromB (now : Int) (l : List Bx) : Bool := l.all fun b => decide (now ≤ b.i)
set_option maxRecDepth 100000 in
theorem fromB_no {now : Int} {l : List Bx} {k : Nat} (h : k < l.length) (hv : ¬ now ≤ l[k].i) : fromB now l = false := all_of_get _ l k h (decide_eq_false hv)
set_option maxRecDepth 100000 in
set_option maxHeartbeats 1000000 in
theorem l2From_any (l : List Bx) (ao : Option Addr) (cap : Nat) (now : Int) (w : World) (hl : Bxs w ao l) (hn : l.length ≤ 1048576) :
    Calls Tryz.prog 65 #[.slice ao l.length cap, .int .i64 now] w fun e w' => e = .returned (.bool (fromB now l)) ∧ w' = w := by
  go_enter Tryz.func65, Tryz.ntmps65
  go_wp2
  go_loop [5] (fun i => ∃ k : Nat, k ≤ l.length ∧ i = .int .i64 k ∧ Hid (fromB now (l.take k) = true)) (fun i => l.length - (intOf i).toNat)
  case atStart => exact ⟨0, Nat.zero_le _, rfl, by simp [Hid, fromB]⟩
  case round =>
    obtain ⟨k, hk, rfl, hno⟩ := hrel
    by_cases hlt : k < l.length
    · rcases hl with h | ⟨bl, off, rfl, hc⟩
      · subst h; simp at hlt
      · have hbx := hc k hlt
        obtain ⟨b, hbe⟩ : ∃ b, b = l[k] := ⟨_, rfl⟩
        rw [← hbe] at hbx
        have HB : Hid (b = l[k]) := hbe
        clear hbe hc
        obtain ⟨c0, c1, c2, c3, c4, c5⟩ := hbx
        by_cases hv : now ≤ b.i
        · have hv' : ¬ b.i < now := by omega
          go_wp2
          go_round
          case rel => exact ⟨k + 1, by omega, by go_num, by rw [Hid, fromB, take_all _ l k hlt]; rw [Hid, fromB] at hno; rw [hno, ← HB.out, decide_eq_true hv]; rfl⟩
          case measure => simp [intOf]; omega
        · have hv' : b.i < now := by omega
          go_wp2
          go_ret
          exact ⟨ret_bool (fromB_no hlt (by rw [← HB.out]; omega)).symm, rfl⟩
    · go_wp2
      go_ret
      rw [List.take_of_length_le (by omega)] at hno
      exact ⟨ret_bool hno.out.symm, rfl⟩
set_option maxRecDepth 100000 in
set_option maxHeartbeats 1000000 in
theorem startsFrom_any (l : List Bx) (ao : Option Addr) (cap : Nat) (now : Int) (w : World) (hl : Bxs w ao l) (hn : l.length ≤ 1048576) :
    Calls Tryz.prog 157 #[.slice ao l.length cap, .int .i64 now] w fun e w' => e = .returned (.bool (fromB now l)) ∧ Below w.heap.size w w' := by
  go_enter Tryz.func157, Tryz.ntmps157
  go_wp2
  go_loopw [9] (fun i wr => ∃ k : Nat, k ≤ l.length ∧ i = .int .i64 k ∧ Below w.heap.size w wr ∧ Hid (fromB now (l.take k) = true)) (fun i _ => l.length - (intOf i).toNat)
  case atStart => exact ⟨0, Nat.zero_le _, rfl, Below.refl _ _, by simp [Hid, fromB]⟩
  case round =>
    obtain ⟨k, hk, rfl, hN, hno⟩ := hrel
    by_cases hlt : k < l.length
    · rcases hl with h | ⟨bl, off, rfl, hc⟩
      · subst h; simp at hlt
      · have hbx := (hc k hlt).later hN
        obtain ⟨b, hbe⟩ : ∃ b, b = l[k] := ⟨_, rfl⟩
        rw [← hbe] at hbx
        have HB : Hid (b = l[k]) := hbe
        clear hbe hc
        obtain ⟨c0, c1, c2, c3, c4, c5⟩ := hbx
        by_cases hv : now ≤ b.i
        · have hv' : ¬ b.i < now := by omega
          go_wp2
          go_roundw
          case rel => exact ⟨k + 1, by omega, by go_num, hN.alloc hN.size _, by rw [Hid, fromB, take_all _ l k hlt]; rw [Hid, fromB] at hno; rw [hno, ← HB.out, decide_eq_true hv]; rfl⟩
          case measure => simp [intOf]; omega
        · have hv' : b.i < now := by omega
          go_wp2
          go_ret
          exact ⟨ret_bool (fromB_no hlt (by rw [← HB.out]; omega)).symm, hN.alloc hN.size _⟩
    · go_wp2
      go_ret
      rw [List.take_of_length_le (by omega)] at hno
      exact ⟨ret_bool hno.out.symm, hN⟩
structure Bk where
  now : Int
  fa : Option Addr
  fl : List Fx
  fc : Nat
  ha : Option Addr
  hl : List Hx
  hc : Nat
abbrev Bk.val (b : Bk) : Value := .agg #[.int .i64 b.now, .slice b.fa b.fl.length b.fc, .slice b.ha b.hl.length b.hc]
def nowB (n : Int) : Bool := decide (0 ≤ n ∧ n ≤ 10000)
set_option maxRecDepth 100000 in
set_option maxHeartbeats 400000 in
theorem nowOk_any (b : Bk) (w : World) :
    Calls Tryz.prog 122 #[b.val] w fun e w' => e = .returned (.bool (nowB b.now)) ∧ Below w.heap.size w w' := by
  go_enter Tryz.func122, Tryz.ntmps122
  go_wp2
  all_goals go_ret
  all_goals refine ⟨ret_bool ?_, (Below.refl _ _).alloc (Nat.le_refl _) _⟩
  all_goals (rw [Bool.eq_iff_iff]; simp only [nowB, decide_eq_true_eq, Bool.false_eq_true, false_iff]; omega)
set_option maxRecDepth 100000 in
set_option maxHeartbeats 400000 in
theorem book1_any (b : Bk) (w : World) (hf : Xs 3 Fx.cells w b.fa b.fl) (hn : b.fl.length ≤ 1048576) (hcap : b.fl.length ≤ b.fc) (hc2 : b.fc ≤ 1048576) (hs : ∀ f ∈ b.fl, f.n.size ≤ 9223372036854775807) :
    Calls Tryz.prog 123 #[b.val] w fun e w' => e = .returned (.bool (fieldsB b.fl)) ∧ Below w.heap.size w w' := by
  go_enter Tryz.func123, Tryz.ntmps123
  go_wp2_with (go_at_call 124; refine (implFields_any b.fl _ _ hcap hc2 _ (hf.later (balloc (Below.refl _ _) _)) hn hs).mono ?_; rintro e w1 ⟨rfl, hb1⟩)
  go_ret
  exact ⟨rfl, bstep (balloc (Below.refl _ _) _) hb1⟩
def sixteenB (n : Nat) : Bool := decide (n ≤ 16)
set_option maxRecDepth 100000 in
set_option maxHeartbeats 800000 in
theorem holders_any (b : Bk) (w : World) (hh : Xs 3 Hx.cells w b.ha b.hl) (hn : b.hl.length ≤ 1048576) (hs : ∀ h ∈ b.hl, h.n.size ≤ 9223372036854775807) :
    Calls Tryz.prog 125 #[b.val] w fun e w' => e = .returned (.bool (sixteenB b.hl.length && namesG Hx.n b.hl)) ∧ Below w.heap.size w w' := by
  obtain ⟨V, hV⟩ : ∃ V, V = (sixteenB b.hl.length && namesG Hx.n b.hl) := ⟨_, rfl⟩
  rw [← hV]
  have HV : Hid (V = (sixteenB b.hl.length && namesG Hx.n b.hl)) := hV
  clear hV
  by_cases h : b.hl.length ≤ 16
  · have e1 : decide ((b.hl.length : Int) ≤ 16) = true := by simp; omega
    go_enter Tryz.func125, Tryz.ntmps125
    go_wp2_with (go_at_call 168; refine (namesH_any _ _ b.hl hn hs _ (hh.later (balloc (Below.refl _ _) _))).mono ?_; rintro e w1 ⟨rfl, hb1⟩)
    all_goals first
      | (go_ret
         exact ⟨ret_bool (by rw [HV.out, sixteenB, decide_eq_true h]; rfl), bstep (balloc (Below.refl _ _) _) hb1⟩)
      | omega
  · have e1 : decide ((b.hl.length : Int) ≤ 16) = false := by simp; omega
    go_enter Tryz.func125, Tryz.ntmps125
    go_wp2
    go_ret
    exact ⟨ret_bool (by rw [HV.out, sixteenB, decide_eq_false h]; rfl), balloc (Below.refl _ _) _⟩
end Go.Proofs.YtfdocgdpcfiiiabGreatDoor
namespace Go.Proofs.YtfdocgdpcfiiiabGreatDoor
open Go.RowKit
set_option maxRecDepth 100000 in
set_option maxHeartbeats 1000000 in
theorem implNear_any (la lb : List Bx) (aa ab : Option Addr) (ca cb : Nat) (w : World) (hla : Bxs w aa la) (hlb : Bxs w ab lb) (hna : la.length ≤ 1048576) (hnb : lb.length ≤ 1048576) :
    Calls Tryz.prog 159 #[.slice aa la.length ca, .slice ab lb.length cb] w fun e w' => e = .returned (.bool (la.any fun a => lb.any (closeB a))) ∧ Below w.heap.size w w' := by
  go_enter Tryz.func159, Tryz.ntmps159
  go_wp2
  go_loopw [9] (fun i wr => ∃ k : Nat, k ≤ la.length ∧ i = .int .i64 k ∧ Below w.heap.size w wr ∧ Hid ((la.take k).any (fun a => lb.any (closeB a)) = false)) (fun i _ => la.length - (intOf i).toNat)
  case atStart => exact ⟨0, Nat.zero_le _, rfl, Below.refl _ _, by simp [Hid]⟩
  case round =>
    obtain ⟨k, hk, rfl, hN, hno⟩ := hrel
    by_cases hlt : k < la.length
    · rcases hla with h | ⟨bl, off, rfl, hc⟩
      · subst h; simp at hlt
      · have hbx := (hc k hlt).later hN
        obtain ⟨b, hbe⟩ : ∃ b, b = la[k] := ⟨_, rfl⟩
        rw [← hbe] at hbx
        have HB : Hid (b = la[k]) := hbe
        clear hbe hc
        obtain ⟨c0, c1, c2, c3, c4, c5⟩ := hbx
        rcases Bool.eq_false_or_eq_true (boxOkB b) with hb | hb
        · go_wp2_with (first
          | (go_at_call 196; refine (boxOk_any _ _).mono ?_; rintro e w1 ⟨rfl, hb1⟩; have hN : Below w.heap.size w w1 := bstepB (by repeat (first | exact hN | refine ballocB ?_ (Nat.le_refl _) _)) (Nat.le_refl _) hb1; obtain ⟨hc1, hf1⟩ := bcell hb1; have hz1 : wr.heap.size < w1.heap.size := (by have := hb1.size; (try simp at this); omega))
          | (go_at_call 197; refine (nearAny_any _ _ _ _ _ hb (hlb.later hN) hnb).mono ?_; rintro e w1 ⟨rfl, hb1⟩; have hN : Below w.heap.size w w1 := bstepB hN (Nat.le_refl _) hb1; obtain ⟨v, hv⟩ : ∃ v, v = lb.any (closeB b) := ⟨_, rfl⟩; rw [← hv]; have HV : Hid (v = lb.any (closeB b)) := hv; clear hv))
          · have hv : v = true := by assumption
            go_ret
            exact ⟨ret_bool (any_of_get _ la k hlt (by rw [← HB.out, ← HV.out]; exact hv)).symm, hN⟩
          · have hv : v = false := by assumption
            go_roundw
            case rel => exact ⟨k + 1, by omega, by go_num, hN, by rw [Hid, take_any _ la k hlt, hno.out, ← HB.out, ← HV.out, hv]; rfl⟩
            case measure => simp [intOf]; omega
        · go_wp2_with (first
          | (go_at_call 196; refine (boxOk_any _ _).mono ?_; rintro e w1 ⟨rfl, hb1⟩; have hN : Below w.heap.size w w1 := bstepB (by repeat (first | exact hN | refine ballocB ?_ (Nat.le_refl _) _)) (Nat.le_refl _) hb1; obtain ⟨hc1, hf1⟩ := bcell hb1; have hz1 : wr.heap.size < w1.heap.size := (by have := hb1.size; (try simp at this); omega)))
          go_roundw
          case rel => exact ⟨k + 1, by omega, by go_num, hN, by rw [Hid, take_any _ la k hlt, hno.out, ← HB.out, any_close_false _ hb]; rfl⟩
          case measure => simp [intOf]; omega
    · go_wp2
      go_ret
      refine ⟨ret_bool ?_, hN⟩
      rw [List.take_of_length_le (by omega)] at hno
      exact hno.out.symm
set_option maxRecDepth 100000 in
set_option maxHeartbeats 1000000 in
theorem specNear_any (la lb : List Bx) (aa ab : Option Addr) (ca cb : Nat) (w : World) (hla : Bxs w aa la) (hlb : Bxs w ab lb) (hna : la.length ≤ 1048576) (hnb : lb.length ≤ 1048576) :
    Calls Tryz.prog 110 #[.slice aa la.length ca, .slice ab lb.length cb] w fun e w' => e = .returned (.bool (la.any fun a => lb.any (closeB a))) ∧ Below w.heap.size w w' := by
  go_enter Tryz.func110, Tryz.ntmps110
  go_wp2
  go_loopw [5, 6] (fun i _ wr => ∃ k : Nat, k ≤ la.length ∧ i = .int .i64 k ∧ Below w.heap.size w wr ∧ Hid ((la.take k).any (fun a => lb.any (closeB a)) = false)) (fun i _ _ => la.length - (intOf i).toNat)
  case atStart => exact ⟨0, Nat.zero_le _, rfl, Below.refl _ _, by simp [Hid]⟩
  case round =>
    obtain ⟨k, hk, rfl, hN, hno⟩ := hrel
    by_cases hlt : k < la.length
    · rcases hla with h | ⟨bl, off, rfl, hc⟩
      · subst h; simp at hlt
      · have hbx := hc k hlt
        obtain ⟨a, hae⟩ : ∃ a, a = la[k] := ⟨_, rfl⟩
        rw [← hae] at hbx
        have HA : Hid (a = la[k]) := hae
        clear hae hc
        go_wp2
        go_loopw [6] (fun i ws => ∃ j : Nat, j ≤ lb.length ∧ i = .int .i64 j ∧ Below w.heap.size w ws ∧ Hid ((lb.take j).any (closeB a) = false)) (fun i _ => lb.length - (intOf i).toNat)
        case atStart => exact ⟨0, Nat.zero_le _, rfl, hN, by simp [Hid]⟩
        case round =>
          clear hN
          obtain ⟨j, hj, rfl, hN, hnj⟩ := hrel
          by_cases hlj : j < lb.length
          · rcases hlb with h | ⟨bl2, off2, rfl, hc2⟩
            · subst h; simp at hlj
            · have hby := (hc2 j hlj).later hN
              have hbz := hbx.later hN
              obtain ⟨b, hbe⟩ : ∃ b, b = lb[j] := ⟨_, rfl⟩
              rw [← hbe] at hby
              have HB : Hid (b = lb[j]) := hbe
              clear hbe hc2 hbx
              obtain ⟨c0, c1, c2, c3, c4, c5⟩ := hbz
              obtain ⟨d0, d1, d2, d3, d4, d5⟩ := hby
              go_wp2_with fail
              go_region_with (go_at_call 155; refine (l1Close_any _ _ _).mono ?_; rintro e w1 ⟨rfl, hb1⟩; have hN : Below w.heap.size w w1 := bstepB (by repeat (first | exact hN | refine Below.drew ?_)) (Nat.le_refl _) hb1)
              all_goals
                go_wp2
                · have hcl : closeB a b = true := by assumption
                  go_ret
                  exact ⟨ret_bool (any_of_get _ la k hlt (by rw [← HA.out]; exact any_of_get _ lb j hlj (by rw [← HB.out]; exact hcl))).symm, hN⟩
                · have hcl : closeB a b = false := by assumption
                  go_roundw
                  case rel => exact ⟨j + 1, by omega, by go_num, hN, by rw [Hid, take_any _ lb j hlj, hnj.out, ← HB.out, hcl]; rfl⟩
                  case measure => simp [intOf]; omega
          · rw [List.take_of_length_le (by omega)] at hnj
            go_wp2
            go_roundw
            case rel => exact ⟨k + 1, by omega, by go_num, hN, by rw [Hid, take_any _ la k hlt, hno.out, ← HA.out, hnj.out]; rfl⟩
            case measure => simp [intOf]; omega
    · go_wp2
      go_ret
      refine ⟨ret_bool ?_, hN⟩
      rw [List.take_of_length_le (by omega)] at hno
      exact hno.out.symm
set_option maxRecDepth 100000 in
set_option maxHeartbeats 400000 in
theorem szBox_ok (n cap : Nat) (left : Int) (ao : Option Addr) (w : World) (h : (n : Int) ≤ left) (hl : left ≤ 1048576) :
    Calls Tryz.prog 20 #[.slice ao n cap, .int .i64 left] w fun e w' => e = .returned (.int .i64 (left - n)) ∧ w' = w := by
  go_enter Tryz.func20, Tryz.ntmps20
  go_wp2
  go_ret
  exact ⟨ret_int rfl, rfl⟩
set_option maxRecDepth 100000 in
set_option maxHeartbeats 400000 in
theorem szBox_no (n cap : Nat) (left : Int) (ao : Option Addr) (w : World) (h : left < (n : Int)) (h0 : 0 ≤ left) (hn : n ≤ 9223372036854775807) :
    Calls Tryz.prog 20 #[.slice ao n cap, .int .i64 left] w fun e w' => e = .returned (.int .i64 (-1)) ∧ w' = w := by
  go_enter Tryz.func20, Tryz.ntmps20
  go_wp2
  go_ret
  exact ⟨ret_int rfl, rfl⟩
set_option maxRecDepth 100000 in
set_option maxHeartbeats 1000000 in
theorem eqBoxS_any (la lb : List Bx) (aa ab : Option Addr) (ca cb : Nat) (w : World) (hla : Bxs w aa la) (hlb : Bxs w ab lb) (hna : la.length ≤ 1048576) (hnb : lb.length ≤ 1048576) :
    Calls Tryz.prog 24 #[.slice aa la.length ca, .slice ab lb.length cb] w fun e w' => e = .returned (.bool (eqL la lb)) ∧ Below w.heap.size w w' := by
  by_cases hne : la.length = lb.length
  · have hbe : ((la.length : Int) != (lb.length : Int)) = false := by simp [hne]
    have HN : Hid (la.length = lb.length) := hne
    clear hne
    go_enter Tryz.func24, Tryz.ntmps24
    go_wp2
    go_loopw [5] (fun i wr => ∃ k : Nat, k ≤ la.length ∧ i = .int .i64 k ∧ Below w.heap.size w wr ∧ Hid (∀ j (h1 : j < la.length) (h2 : j < lb.length), j < k → eqB la[j] lb[j] = true)) (fun i _ => la.length - (intOf i).toNat)
    case atStart => exact ⟨0, Nat.zero_le _, rfl, Below.refl _ _, by simp [Hid]⟩
    case round =>
      obtain ⟨k, hk, rfl, hN, hno⟩ := hrel
      by_cases hlt : k < la.length
      · have hlb2 : k < lb.length := by have := HN.out; omega
        rcases hla with h | ⟨bl, off, rfl, hc⟩
        · subst h; simp at hlt
        rcases hlb with h | ⟨bl2, off2, rfl, hc2⟩
        · subst h; simp at hlb2
        have hbx := (hc k hlt).later hN
        have hby := (hc2 k hlb2).later hN
        obtain ⟨a, hae⟩ : ∃ a, a = la[k] := ⟨_, rfl⟩
        obtain ⟨b, hbe⟩ : ∃ b, b = lb[k] := ⟨_, rfl⟩
        rw [← hae] at hbx
        rw [← hbe] at hby
        have HA : Hid (a = la[k]) := hae
        have HB : Hid (b = lb[k]) := hbe
        clear hae hbe hc hc2
        obtain ⟨c0, c1, c2, c3, c4, c5⟩ := hbx
        obtain ⟨d0, d1, d2, d3, d4, d5⟩ := hby
        go_wp2_with fail
        go_region_with (go_at_call 71; refine (eqBox_any _ _ _).mono ?_; rintro e w1 ⟨rfl, hb1⟩; have hN : Below w.heap.size w w1 := bstepB (by repeat (first | exact hN | refine Below.drew ?_)) (Nat.le_refl _) hb1)
        all_goals
          go_wp2
          · have hcl : eqB a b = false := nf (by assumption)
            go_ret
            exact ⟨ret_bool (eqL_no hlt hlb2 (by rw [← HA.out, ← HB.out]; exact hcl)).symm, hN⟩
          · have hcl : eqB a b = true := nt (by assumption)
            go_roundw
            case rel => exact ⟨k + 1, by omega, by go_num, hN, eqL_step hno.out (by rw [← HA.out, ← HB.out]; exact hcl)⟩
            case measure => simp [intOf]; omega
      · go_wp2
        go_ret
        exact ⟨ret_bool (eqL_yes HN.out (fun j h1 h2 => hno.out j h1 h2 (by omega))).symm, hN⟩
  · have hbe : ((la.length : Int) != (lb.length : Int)) = true := by simp; omega
    go_enter Tryz.func24, Tryz.ntmps24
    go_wp2
    go_ret
    exact ⟨ret_bool (eqL_len hne).symm, Below.refl _ _⟩
end Go.Proofs.YtfdocgdpcfiiiabGreatDoor
