import Derived.Test.YtficfhcmbhlagabGreatNamesH
import Derived.Test.YtficfhcmbhlagabGreatNamesF
import Derived.Test.YtficfhcmbhlagabGreatPlain
namespace Go.Proofs.YtficfhcmbhlagabGreat
open Go.RowKit
def fromB (now : Int) (l : List Bx) : Bool := l.all fun b => decide (now ≤ b.i)
set_option maxRecDepth 100000 in
theorem fromB_no {now : Int} {l : List Bx} {k : Nat} (h : k < l.length) (hv : ¬ now ≤ l[k].i) : fromB now l = false := all_of_get _ l k h (decide_eq_false hv)
set_option maxRecDepth 100000 in
set_option maxHeartbeats 1000000 in
theorem l2From_any (l : List Bx) (ao : Option Addr) (cap : Nat) (now : Int) (w : World) (hl : Bxs w ao l) (hn : l.length ≤ 1048576) :
    Calls Tryz.prog 91 #[.slice ao l.length cap, .int .i64 now] w fun e w' => e = .returned (.bool (fromB now l)) ∧ w' = w := by
  go_enter Tryz.func91, Tryz.ntmps91
  go_wp2
  go_loop [5] (fun i => ∃ k : Nat, k ≤ l.length ∧ i = .int .i64 k ∧ Hid (fromB now (l.take k) = true)) (fun i => l.length - (intOf i).toNat)
  case atStart => exact ⟨0, Nat.zero_le _, rfl, by simp [Hid, fromB]⟩
  case round =>
    obtain ⟨k, hk, rfl, hno⟩ := hrel
    by_cases hlt : k < l.length
    · rcases hl with h | ⟨bl, off, rfl, hc⟩
      · subst h; simp at hlt
      · have hbx := hc k hlt
        obtain ⟨b, hbe⟩ : ∃ b, b = l[k] := ⟨_, rfl⟩
        rw [← hbe] at hbx
        have HB : Hid (b = l[k]) := hbe
        clear hbe hc
        obtain ⟨c0, c1, c2, c3, c4, c5⟩ := hbx
        by_cases hv : now ≤ b.i
        · have hv' : ¬ b.i < now := by omega
          go_wp2
          go_round
          case rel => exact ⟨k + 1, by omega, by go_num, by rw [Hid, fromB, take_all _ l k hlt]; rw [Hid, fromB] at hno; rw [hno, ← HB.out, decide_eq_true hv]; rfl⟩
          case measure => simp [intOf]; omega
        · have hv' : b.i < now := by omega
          go_wp2
          go_ret
          exact ⟨ret_bool (fromB_no hlt (by rw [← HB.out]; omega)).symm, rfl⟩
    · go_wp2
      go_ret
      rw [List.take_of_length_le (by omega)] at hno
      exact ⟨ret_bool hno.out.symm, rfl⟩
set_option maxRecDepth 100000 in
set_option maxHeartbeats 1000000 in
theorem startsFrom_any (l : List Bx) (ao : Option Addr) (cap : Nat) (now : Int) (w : World) (hl : Bxs w ao l) (hn : l.length ≤ 1048576) :
    Calls Tryz.prog 180 #[.slice ao l.length cap, .int .i64 now] w fun e w' => e = .returned (.bool (fromB now l)) ∧ Below w.heap.size w w' := by
  go_enter Tryz.func180, Tryz.ntmps180
  go_wp2
  go_loopw [9] (fun i wr => ∃ k : Nat, k ≤ l.length ∧ i = .int .i64 k ∧ Below w.heap.size w wr ∧ Hid (fromB now (l.take k) = true)) (fun i _ => l.length - (intOf i).toNat)
  case atStart => exact ⟨0, Nat.zero_le _, rfl, Below.refl _ _, by simp [Hid, fromB]⟩
  case round =>
    obtain ⟨k, hk, rfl, hN, hno⟩ := hrel
    by_cases hlt : k < l.length
    · rcases hl with h | ⟨bl, off, rfl, hc⟩
      · subst h; simp at hlt
      · have hbx := (hc k hlt).later hN
        obtain ⟨b, hbe⟩ : ∃ b, b = l[k] := ⟨_, rfl⟩
        rw [← hbe] at hbx
        have HB : Hid (b = l[k]) := hbe
        clear hbe hc
        obtain ⟨c0, c1, c2, c3, c4, c5⟩ := hbx
        by_cases hv : now ≤ b.i
        · have hv' : ¬ b.i < now := by omega
          go_wp2
          go_roundw
          case rel => exact ⟨k + 1, by omega, by go_num, hN.alloc hN.size _, by rw [Hid, fromB, take_all _ l k hlt]; rw [Hid, fromB] at hno; rw [hno, ← HB.out, decide_eq_true hv]; rfl⟩
          case measure => simp [intOf]; omega
        · have hv' : b.i < now := by omega
          go_wp2
          go_ret
          exact ⟨ret_bool (fromB_no hlt (by rw [← HB.out]; omega)).symm, hN.alloc hN.size _⟩
    · go_wp2
      go_ret
      rw [List.take_of_length_le (by omega)] at hno
      exact ⟨ret_bool hno.out.symm, hN⟩
structure Bk where
  now : Int
  fa : Option Addr
  fl : List Fx
  fc : Nat
  ha : Option Addr
  hl : List Hx
  hc : Nat
abbrev Bk.val (b : Bk) : Value := .agg #[.int .i64 b.now, .slice b.fa b.fl.length b.fc, .slice b.ha b.hl.length b.hc]
def nowB (n : Int) : Bool := decide (0 ≤ n ∧ n ≤ 10000)
set_option maxRecDepth 100000 in
set_option maxHeartbeats 400000 in
theorem nowOk_any (b : Bk) (w : World) :
    Calls Tryz.prog 106 #[b.val] w fun e w' => e = .returned (.bool (nowB b.now)) ∧ Below w.heap.size w w' := by
  go_enter Tryz.func106, Tryz.ntmps106
  go_wp2
  all_goals go_ret
  all_goals refine ⟨ret_bool ?_, (Below.refl _ _).alloc (Nat.le_refl _) _⟩
  all_goals (rw [Bool.eq_iff_iff]; simp only [nowB, decide_eq_true_eq, Bool.false_eq_true, false_iff]; omega)
set_option maxRecDepth 100000 in
set_option maxHeartbeats 400000 in
theorem book1_any (b : Bk) (w : World) (hf : Xs 3 Fx.cells w b.fa b.fl) (hn : b.fl.length ≤ 1048576) (hcap : b.fl.length ≤ b.fc) (hc2 : b.fc ≤ 9223372036854775807) (hs : ∀ f ∈ b.fl, f.n.size ≤ 9223372036854775807) :
    Calls Tryz.prog 107 #[b.val] w fun e w' => e = .returned (.bool (fieldsB b.fl)) ∧ Below w.heap.size w w' := by
  go_enter Tryz.func107, Tryz.ntmps107
  go_wp2_with (go_at_call 108; refine (implFields_any b.fl _ _ hcap hc2 _ (hf.later (balloc (Below.refl _ _) _)) hn hs).mono ?_; rintro e w1 ⟨rfl, hb1⟩)
  go_ret
  exact ⟨rfl, bstep (balloc (Below.refl _ _) _) hb1⟩
def sixteenB (n : Nat) : Bool := decide (n ≤ 16)
set_option maxRecDepth 100000 in
set_option maxHeartbeats 800000 in
theorem holders_any (b : Bk) (w : World) (hh : Xs 3 Hx.cells w b.ha b.hl) (hn : b.hl.length ≤ 1048576) (hs : ∀ h ∈ b.hl, h.n.size ≤ 9223372036854775807) :
    Calls Tryz.prog 109 #[b.val] w fun e w' => e = .returned (.bool (sixteenB b.hl.length && namesG Hx.n b.hl)) ∧ Below w.heap.size w w' := by
  obtain ⟨V, hV⟩ : ∃ V, V = (sixteenB b.hl.length && namesG Hx.n b.hl) := ⟨_, rfl⟩
  rw [← hV]
  have HV : Hid (V = (sixteenB b.hl.length && namesG Hx.n b.hl)) := hV
  clear hV
  by_cases h : b.hl.length ≤ 16
  · have e1 : decide ((b.hl.length : Int) ≤ 16) = true := by simp; omega
    go_enter Tryz.func109, Tryz.ntmps109
    go_wp2_with (go_at_call 158; refine (namesH_any _ _ b.hl hn hs _ (hh.later (balloc (Below.refl _ _) _))).mono ?_; rintro e w1 ⟨rfl, hb1⟩)
    all_goals first
      | (go_ret
         exact ⟨ret_bool (by rw [HV.out, sixteenB, decide_eq_true h]; rfl), bstep (balloc (Below.refl _ _) _) hb1⟩)
      | omega
  · have e1 : decide ((b.hl.length : Int) ≤ 16) = false := by simp; omega
    go_enter Tryz.func109, Tryz.ntmps109
    go_wp2
    go_ret
    exact ⟨ret_bool (by rw [HV.out, sixteenB, decide_eq_false h]; rfl), balloc (Below.refl _ _) _⟩
end Go.Proofs.YtficfhcmbhlagabGreat
namespace Go.Proofs.YtficfhcmbhlagabGreat
open Go.RowKit
theorem objc {w : World} {z j : Nat} {cs : Array Value} {t : TypeId} {v : Value} (h : w.heap[z]? = some (.cells cs t)) (hj : cs[j]? = some v) : w.cell? ⟨z, j, none⟩ = some v := by simp [World.cell?, h, hj]
theorem OwnBx.weak {w : World} {base base' : Nat} {v : Value} {l : List Bx} (h : OwnBx w base v l) (hb : base' ≤ base) : OwnBx w base' v l := by
  rcases h with h | ⟨g, cap, h1, h2, h3, h4⟩
  · exact .inl h
  · exact .inr ⟨g, cap, h1, by omega, h3, h4⟩
abbrev Bk.obj (b : Bk) : Obj := .cells #[.int .i64 b.now, .slice b.fa b.fl.length b.fc, .slice b.ha b.hl.length b.hc] 34
end Go.Proofs.YtficfhcmbhlagabGreat
