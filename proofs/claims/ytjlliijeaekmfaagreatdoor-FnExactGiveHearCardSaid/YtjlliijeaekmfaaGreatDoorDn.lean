import Derived.Test.YtjlliijeaekmfaaGreatDoorMkE
import Derived.Test.YtjlliijeaekmfaaGreatDoorPlain
import Derived.Test.YtjlliijeaekmfaaGreatDoorCan
namespace Go.Proofs.YtjlliijeaekmfaaGreatDoor
open Go.RowKit Go.Shelf
attribute [local go_sem] Oper.semAt_some
/-- A list in memory of its own. -/
def OwnX {α : Type} (t sz : Nat) (c : α → List Value) (w : World) (base : Nat) (v : Value) (l : List α) : Prop :=
  (v = .slice none 0 0 ∧ l = []) ∨ ∃ g cap, v = .slice (some ⟨g, 0, none⟩) l.length cap ∧ base ≤ g ∧ l.length ≤ cap ∧ RowX t sz c w g cap l l.length
theorem OwnX.later {α : Type} {t sz : Nat} {c : α → List Value} {w w' : World} {base : Nat} {v : Value} {l : List α} (h : OwnX t sz c w base v l) (hb : Below w.heap.size w w') : OwnX t sz c w' base v l := by
  rcases h with h | ⟨g, cap, h1, h2, h3, h4⟩
  · exact Or.inl h
  · exact Or.inr ⟨g, cap, h1, h2, h3, h4.later hb⟩
theorem OwnX.slice {α : Type} {t sz : Nat} {c : α → List Value} {w : World} {base : Nat} {v : Value} {l : List α} (h : OwnX t sz c w base v l) : ∃ ao cap, v = .slice ao l.length cap := by
  rcases h with ⟨h, rfl⟩ | ⟨g, cap, h1, h2, h3, h4⟩
  · exact ⟨none, 0, h⟩
  · exact ⟨_, _, h1⟩
theorem flatX_one' {α : Type} {c : α → List Value} (h : ∀ a, ∀ u ∈ c a, u.oneCell' = true) (l : List α) : ∀ u ∈ flatX c l, u.oneCell' = true := by
  intro u hu
  obtain ⟨a, _, ha⟩ := List.mem_flatMap.1 hu
  exact h a u ha
theorem fx_one (f : Fx) : ∀ u ∈ f.cells, u.oneCell' = true := by
  intro u hu
  simp [Fx.cells] at hu
  rcases hu with rfl | rfl | rfl <;> rfl
theorem hx_one (f : Hx) : ∀ u ∈ f.cells, u.oneCell' = true := by
  intro u hu
  simp [Hx.cells] at hu
  rcases hu with rfl | rfl | rfl <;> rfl
set_option maxRecDepth 100000 in
set_option maxHeartbeats 1000000 in
theorem freshB_any (l : List Bx) (ao : Option Addr) (cap : Nat) (w : World) (hX : Bxs w ao l) (hn : l.length ≤ 1048576) :
    Calls Tryz.prog 113 #[.slice ao l.length cap] w fun e w' => (∃ v, e = .returned v ∧ OwnBx w' w.heap.size v l) ∧ Below w.heap.size w w' := by
  obtain ⟨i0, hi, hz0, hz1, hz2⟩ := info_parts Tryz.info111
  cases ao with
  | none =>
    have hl : l = [] := by
      rcases hX with h | ⟨bl, off, e, _⟩
      · exact h
      · cases e
    subst hl
    go_enter Tryz.func113, Tryz.ntmps113
    go_wp2
    go_ret
    exact ⟨⟨_, rfl, .inl ⟨rfl, rfl⟩⟩, Below.refl _ _⟩
  | some ad =>
    have hnews : ∀ j u, (flat l)[j]? = some u → w.cell? (ad.add j) = some u := by
      rcases hX with h | ⟨bl, off, e, hc⟩
      · rw [h]; intro j u h; simp [flat] at h
      · cases e; exact bxs_flat hc
    have hown : w.ownsRow w.heap.size 111 6 (.slice none 0 0) 0 [] := World.ownsRow_nil w w.heap.size 111 6
    go_enter Tryz.func113, Tryz.ntmps113
    go_wp2_with (at_builtin; refine wpList_append_own _ rfl (.const (.slice none 0 0)) (.tmp 3) 55 rfl w.heap.size 111 i0 _ 6 48 Tryz.underlying55 hi hz0 hz1 hz2 rfl (by decide) _ _ _ rfl hown ad l.length cap (flat l) rfl (flat_length l) hnews (flat_one l) ?qc3 ?qc4 ?qc5 ?_)
    case qc3 => unfold maxLen; omega
    case qc4 => omega
    case qc5 => simp
    intro v' w1 hown' hgrow _
    have hN : Below w.heap.size w w1 := (Below.refl w.heap.size w).grown hgrow (Nat.le_refl _) (fun q hq => by simp [Value.ownBlock] at hq)
    have HO : Hid (OwnBx w1 w.heap.size v' l) := OwnBx.of_owns (by simpa using hown')
    clear hown' hgrow hown
    go_wp2
    go_ret
    exact ⟨⟨_, rfl, HO.out⟩, hN⟩
set_option maxRecDepth 100000 in
set_option maxHeartbeats 1000000 in
theorem freshF_any (l : List Fx) (ao : Option Addr) (cap : Nat) (w : World) (hX : Xs 3 Fx.cells w ao l) (hn : l.length ≤ 1048576) :
    Calls Tryz.prog 176 #[.slice ao l.length cap] w fun e w' => (∃ v, e = .returned v ∧ OwnX 150 3 Fx.cells w' w.heap.size v l) ∧ Below w.heap.size w w' := by
  obtain ⟨i0, hi, hz0, hz1, hz2⟩ := info_parts Tryz.info150
  cases ao with
  | none =>
    have hl : l = [] := by
      rcases hX with h | ⟨bl, off, e, _⟩
      · exact h
      · cases e
    subst hl
    go_enter Tryz.func176, Tryz.ntmps176
    go_wp2
    go_ret
    exact ⟨⟨_, rfl, .inl ⟨rfl, rfl⟩⟩, Below.refl _ _⟩
  | some ad =>
    have hnews : ∀ j u, (flatX Fx.cells l)[j]? = some u → w.cell? (ad.add j) = some u := by
      rcases hX with h | ⟨bl, off, e, hc⟩
      · rw [h]; intro j u h; simp [flatX] at h
      · cases e; exact xs_flat Fx.cells_length (by decide) hc
    have hown : w.ownsRow w.heap.size 150 3 (.slice none 0 0) 0 [] := World.ownsRow_nil w w.heap.size 150 3
    go_enter Tryz.func176, Tryz.ntmps176
    go_wp2_with (at_builtin; refine wpList_append_own _ rfl (.const (.slice none 0 0)) (.tmp 3) 32 rfl w.heap.size 150 i0 _ 3 32 Tryz.underlying32 hi hz0 hz1 hz2 rfl (by decide) _ _ _ rfl hown ad l.length cap (flatX Fx.cells l) rfl (flatX_length Fx.cells_length l) hnews (flatX_one' fx_one l) ?qc3 ?qc4 ?qc5 ?_)
    case qc3 => unfold maxLen; omega
    case qc4 => omega
    case qc5 => simp
    intro v' w1 hown' hgrow _
    have hN : Below w.heap.size w w1 := (Below.refl w.heap.size w).grown hgrow (Nat.le_refl _) (fun q hq => by simp [Value.ownBlock] at hq)
    have HO : Hid (OwnX 150 3 Fx.cells w1 w.heap.size v' l) := own_rowX Fx.cells_length (by simpa using hown')
    clear hown' hgrow hown
    go_wp2
    go_ret
    exact ⟨⟨_, rfl, HO.out⟩, hN⟩
set_option maxRecDepth 100000 in
set_option maxHeartbeats 1000000 in
theorem freshH_any (l : List Hx) (ao : Option Addr) (cap : Nat) (w : World) (hX : Xs 3 Hx.cells w ao l) (hn : l.length ≤ 1048576) :
    Calls Tryz.prog 177 #[.slice ao l.length cap] w fun e w' => (∃ v, e = .returned v ∧ OwnX 87 3 Hx.cells w' w.heap.size v l) ∧ Below w.heap.size w w' := by
  obtain ⟨i0, hi, hz0, hz1, hz2⟩ := info_parts Tryz.info87
  cases ao with
  | none =>
    have hl : l = [] := by
      rcases hX with h | ⟨bl, off, e, _⟩
      · exact h
      · cases e
    subst hl
    go_enter Tryz.func177, Tryz.ntmps177
    go_wp2
    go_ret
    exact ⟨⟨_, rfl, .inl ⟨rfl, rfl⟩⟩, Below.refl _ _⟩
  | some ad =>
    have hnews : ∀ j u, (flatX Hx.cells l)[j]? = some u → w.cell? (ad.add j) = some u := by
      rcases hX with h | ⟨bl, off, e, hc⟩
      · rw [h]; intro j u h; simp [flatX] at h
      · cases e; exact xs_flat Hx.cells_length (by decide) hc
    have hown : w.ownsRow w.heap.size 87 3 (.slice none 0 0) 0 [] := World.ownsRow_nil w w.heap.size 87 3
    go_enter Tryz.func177, Tryz.ntmps177
    go_wp2_with (at_builtin; refine wpList_append_own _ rfl (.const (.slice none 0 0)) (.tmp 3) 33 rfl w.heap.size 87 i0 _ 3 64 Tryz.underlying33 hi hz0 hz1 hz2 rfl (by decide) _ _ _ rfl hown ad l.length cap (flatX Hx.cells l) rfl (flatX_length Hx.cells_length l) hnews (flatX_one' hx_one l) ?qc3 ?qc4 ?qc5 ?_)
    case qc3 => unfold maxLen; omega
    case qc4 => omega
    case qc5 => simp
    intro v' w1 hown' hgrow _
    have hN : Below w.heap.size w w1 := (Below.refl w.heap.size w).grown hgrow (Nat.le_refl _) (fun q hq => by simp [Value.ownBlock] at hq)
    have HO : Hid (OwnX 87 3 Hx.cells w1 w.heap.size v' l) := own_rowX Hx.cells_length (by simpa using hown')
    clear hown' hgrow hown
    go_wp2
    go_ret
    exact ⟨⟨_, rfl, HO.out⟩, hN⟩
end Go.Proofs.YtjlliijeaekmfaaGreatDoor
