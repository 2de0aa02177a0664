import Derived.Test.YtjlliijeaekmfaaGreatDoorBarred
import Derived.Test.YtjlliijeaekmfaaGreatDoorPlain
import Derived.Test.YtjlliijeaekmfaaGreatDoorLeaf
namespace Go.Proofs.YtjlliijeaekmfaaGreatDoor
open Go.RowKit
theorem flat_one (l : List Bx) : ∀ u ∈ flat l, u.oneCell' = true := by
  induction l with
  | nil => simp [flat]
  | cons a r ih =>
    intro u hu
    rcases List.mem_append.1 hu with h | h
    · exact six_one a u h
    · exact ih u h
theorem box_get {w : World} {bl o : Nat} {b : Bx} (h : BoxAt w bl o b) (j : Nat) (u : Value) (hj : (boxCells b)[j]? = some u) : w.cell? ⟨bl, o + j, none⟩ = some u := by
  obtain ⟨h0, h1, h2, h3, h4, h5⟩ := h
  match j, hj with
  | 0, hj => simp [boxCells] at hj; subst hj; exact h0
  | 1, hj => simp [boxCells] at hj; subst hj; exact h1
  | 2, hj => simp [boxCells] at hj; subst hj; exact h2
  | 3, hj => simp [boxCells] at hj; subst hj; exact h3
  | 4, hj => simp [boxCells] at hj; subst hj; exact h4
  | 5, hj => simp [boxCells] at hj; subst hj; exact h5
  | n + 6, hj => simp [boxCells] at hj
theorem bxs_flat {w : World} {bl off : Nat} {t : List Bx} (hc : ∀ k (h : k < t.length), BoxAt w bl (off + k * 6) t[k]) : ∀ j u, (flat t)[j]? = some u → w.cell? ((⟨bl, off, none⟩ : Addr).add j) = some u := by
  intro j u hj
  have hl : j < (flat t).length := (List.getElem?_eq_some_iff.1 hj).1
  rw [flat_length] at hl
  have hk : j / 6 < t.length := by omega
  have e : j = j / 6 * 6 + j % 6 := by omega
  rw [e, flat_get t _ hk _ (by omega)] at hj
  rw [Addr.add_lit]
  have := box_get (hc _ hk) _ u hj
  rw [show off + j = off + j / 6 * 6 + j % 6 by omega]
  exact this
set_option maxRecDepth 100000 in
set_option maxHeartbeats 1000000 in
theorem l2Tube_any (t : List Bx) (bl off tc : Nat) (w : World) (hc : ∀ k (h : k < t.length), BoxAt w bl (off + k * 6) t[k]) (h1 : 1 ≤ t.length) (hn : t.length ≤ 1048576) :
    Calls Tryz.prog 67 #[.slice (some ⟨bl, off, none⟩) t.length tc] w fun e w' => (∃ g cap, e = .returned (.slice (some ⟨g, 0, none⟩) t.length cap) ∧ w.heap.size ≤ g ∧ t.length ≤ cap ∧ RowBx w' g cap t t.length) ∧ Below w.heap.size w w' := by
  obtain ⟨i0, hi, hz0, hz1, hz2⟩ := info_parts Tryz.info111
  go_enter Tryz.func67, Tryz.ntmps67
  have hown : (w.alloc (.cells #[] 111)).ownsRow w.heap.size 111 6 (.slice (some ⟨w.heap.size, 0, none⟩) 0 0) 0 [] := by simpa using World.ownsRow_lit (base := w.heap.size) (e := 111) (size := 6) w #[] 0 (Nat.le_refl _) (Nat.zero_le _) rfl
  have hbl : bl < w.heap.size := cell_lt (hc 0 (by omega)).1
  have hc' : ∀ k (h : k < t.length), BoxAt (w.alloc (.cells #[] 111)) bl (off + k * 6) t[k] := fun k h => (hc k h).later (balloc (Below.refl _ _) _)
  go_wp2_with (at_builtin; refine wpList_append_own_at _ rfl (.tmp 3) (.tmp 4) 55 rfl w.heap.size 111 i0 _ 6 48 Tryz.underlying55 hi hz0 hz1 hz2 rfl (by decide) _ _ _ rfl hown ⟨bl, off, none⟩ t.length tc (flat t) rfl (flat_length t) (bxs_flat hc') (flat_one t) ?qc3 ?qc4 ?qc5 ?_)
  case qc3 => unfold maxLen; omega
  case qc4 => omega
  case qc5 => simp
  intro v' w1 hown' hgrow _ _
  have hN : Below w.heap.size w w1 := (balloc (Below.refl _ _) _).grown hgrow (by simp) (fun q hq => by simp [Value.ownBlock] at hq; omega)
  rcases OwnBx.of_owns hown' with ⟨_, e⟩ | ⟨g, cap, rfl, hg, hcap, hR⟩
  · rw [e] at h1; simp at h1
  go_wp2
  go_ret
  exact ⟨⟨g, cap, rfl, hg, hcap, hR⟩, hN⟩
/-- The first k of t are later by d. -/
def mixL (d : Int) (t : List Bx) (k : Nat) (i : Nat) : Bx := if i < k then laterOne d (getB t i) else getB t i
theorem specL3_val (b : Bk) (nm : ByteArray) (t : List Bx) (v : Bool) (hv : freeL nm t b.hl = v) (ta : Option Addr) (tc : Nat) (w : World) (ha : Asks w b t ta) :
    Calls Tryz.prog 66 #[b.val, .string nm, .slice ta t.length tc] w fun e w' => e = .returned (.bool v) ∧ Below w.heap.size w w' := by
  subst hv; exact specL3_any b nm t ta tc w ha
/-- What the least delay is, or that there is none to be told. -/
def IsEarl (b : Bk) (nm : ByteArray) (t : List Bx) (most : Int) (o : Option Int) : Prop := (askedB b t most = true → Earl most (barP b nm t) o) ∧ (askedB b t most = false → o = none)
theorem IsEarl.no {b : Bk} {nm : ByteArray} {t : List Bx} {most : Int} (h : askedB b t most = false) : IsEarl b nm t most none := ⟨(fun g => by rw [h] at g; cases g), fun _ => rfl⟩
theorem IsEarl.yes {b : Bk} {nm : ByteArray} {t : List Bx} {most : Int} {o : Option Int} (h : askedB b t most = true) (he : Earl most (barP b nm t) o) : IsEarl b nm t most o := ⟨fun _ => he, fun g => by rw [h] at g; cases g⟩
theorem IsEarl.uniq {b : Bk} {nm : ByteArray} {t : List Bx} {most : Int} {o o' : Option Int} (h : IsEarl b nm t most o) (g : IsEarl b nm t most o') : o = o' := by
  cases e : askedB b t most with
  | true => exact earl_uniq (fun _ _ _ => Iff.rfl) (h.1 e) (g.1 e)
  | false => rw [h.2 e, g.2 e]
end Go.Proofs.YtjlliijeaekmfaaGreatDoor
