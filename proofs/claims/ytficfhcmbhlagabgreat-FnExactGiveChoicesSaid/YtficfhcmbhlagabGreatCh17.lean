import Derived.Test.YtficfhcmbhlagabGreatCh14
import Derived.Test.YtficfhcmbhlagabGreatCh16
import Derived.Test.YtficfhcmbhlagabGreatMarkT
import Derived.Test.YtficfhcmbhlagabGreatWf
import Derived.Deep.RegionWith
import Derived.Test.YtficfhcmbhlagabGreatBook
import Derived.Test.YtficfhcmbhlagabGreatAny
import Derived.Test.YtficfhcmbhlagabGreatCh13
import Derived.Test.YtficfhcmbhlagabGreatWh
namespace Go.Proofs.YtficfhcmbhlagabGreat
open Go.RowKit
/-- A list of choices in memory of its own. -/
def OwnCo (w : World) (base : Nat) (v : Value) (l : List Co) : Prop :=
  (v = .slice none 0 0 ∧ l = []) ∨ ∃ g cap, v = .slice (some ⟨g, 0, none⟩) l.length cap ∧ base ≤ g ∧ l.length ≤ cap ∧ RowX 64 3 Co.cells w g cap l l.length
theorem OwnCo.of_owns {w : World} {base : Nat} {v : Value} {l : List Co} (h : w.ownsRow base 64 3 v l.length (flat3 l)) : OwnCo w base v l := by
  obtain ⟨_, ⟨hv, hn⟩ | ⟨g, cap, cur, hv, hb, hg, hnc, _, hs, ht⟩⟩ := h
  · exact Or.inl ⟨hv, List.eq_nil_of_length_eq_zero hn⟩
  · refine Or.inr ⟨g, cap, hv, hb, hnc, fun i => cur.getD i undef, ⟨cur, hg, hs, fun i hi => by simp [hs, hi]⟩, fun i hi _ j u hj => ?_⟩
    have hj2 : j < 3 := (List.getElem?_eq_some_iff.1 hj).1
    rw [← flat3_get l i hi j hj2, ← ht, List.getElem?_take_of_lt (by omega), Array.getElem?_toList] at hj
    have hlt : i * 3 + j < cur.size := by rw [hs]; omega
    simp only [Array.getElem?_eq_getElem hlt, Option.some.injEq] at hj
    simp [hlt, hj]
theorem OwnCo.later {w w' : World} {base : Nat} {v : Value} {l : List Co} (h : OwnCo w base v l) (hb : Below w.heap.size w w') : OwnCo w' base v l := by
  rcases h with h | ⟨g, cap, h1, h2, h3, h4⟩
  · exact Or.inl h
  · exact Or.inr ⟨g, cap, h1, h2, h3, h4.later hb⟩
theorem OwnCo.weak {w : World} {base base' : Nat} {v : Value} {l : List Co} (h : OwnCo w base v l) (hb : base' ≤ base) : OwnCo w base' v l := by
  rcases h with h | ⟨g, cap, h1, h2, h3, h4⟩
  · exact Or.inl h
  · exact Or.inr ⟨g, cap, h1, Nat.le_trans hb h2, h3, h4⟩
theorem OwnCo.xs {w : World} {base : Nat} {v : Value} {l : List Co} (h : OwnCo w base v l) : ∃ ao cap, v = .slice ao l.length cap ∧ Xs 3 Co.cells w ao l := by
  rcases h with ⟨h, rfl⟩ | ⟨g, cap, h1, h2, h3, h4⟩
  · exact ⟨none, 0, h, Or.inl rfl⟩
  · exact ⟨_, cap, h1, h4.xs (fun _ => rfl) (Nat.le_refl _) h3⟩
set_option maxRecDepth 100000 in
set_option maxHeartbeats 1000000 in
theorem eqCoS_same (l : List Co) (aa ab : Option Addr) (ca cb : Nat) (w : World) (hla : Xs 3 Co.cells w aa l) (hlb : Xs 3 Co.cells w ab l) (hna : l.length ≤ 1048576) :
    Calls Tryz.prog 26 #[.slice aa l.length ca, .slice ab l.length cb] w fun e w' => e = .returned (.bool true) ∧ Below w.heap.size w w' := by
  go_enter Tryz.func26, Tryz.ntmps26
  go_wp2
  go_loopw [5] (fun i wr => ∃ k : Nat, k ≤ l.length ∧ i = .int .i64 k ∧ Below w.heap.size w wr) (fun i _ => l.length - (intOf i).toNat)
  case atStart => exact ⟨0, Nat.zero_le _, rfl, Below.refl _ _⟩
  case round =>
    obtain ⟨k, hk, rfl, hN⟩ := hrel
    by_cases hlt : k < l.length
    · rcases hla with h | ⟨bl, off, rfl, hc⟩
      · subst h; simp at hlt
      rcases hlb with h | ⟨bl2, off2, rfl, hc2⟩
      · subst h; simp at hlt
      have hbx := (hc k hlt).later hN
      have hby := (hc2 k hlt).later hN
      obtain ⟨a, hae⟩ : ∃ a, a = l[k] := ⟨_, rfl⟩
      rw [← hae] at hbx hby
      clear hae hc hc2
      obtain ⟨c0, c1, c2⟩ := co_at hbx
      obtain ⟨d0, d1, d2⟩ := co_at hby
      clear hbx hby
      go_wp2_with fail
      go_region_with (go_at_call 33; refine (eqChoice_same _ _ _ _).mono ?_; rintro e w1 ⟨rfl, hb1⟩; have hN : Below w.heap.size w w1 := bstepB (by repeat (first | exact hN | refine Below.drew ?_)) (Nat.le_refl _) hb1)
      all_goals
        go_wp2
        go_roundw
        case rel => exact ⟨k + 1, by omega, by go_num, hN⟩
        case measure => simp [intOf]; omega
    · go_wp2
      go_ret
      exact ⟨rfl, hN⟩
/-- Marks of choices. -/
def marks3 (k0 : Int) (n : Nat) : List Co := (List.range n).map (fun i : Nat => (⟨k0 + 3 * (i : Int), k0 + 3 * (i : Int) + 1, k0 + 3 * (i : Int) + 1 + 1⟩ : Co))
theorem marks3_length (k0 : Int) (n : Nat) : (marks3 k0 n).length = n := by simp [marks3]
theorem marks3_get (k0 : Int) (n i : Nat) (h : i < (marks3 k0 n).length) : (marks3 k0 n)[i] = ⟨k0 + 3 * (i : Int), k0 + 3 * (i : Int) + 1, k0 + 3 * (i : Int) + 1 + 1⟩ := by simp [marks3]
set_option maxRecDepth 100000 in
set_option maxHeartbeats 1000000 in
theorem markCo_any (n cap capv g : Nat) (l : List Co) (q : Nat) (w : World) (hR : RowX 64 3 Co.cells w g cap l q) (hnc : n ≤ cap) (hn : n ≤ 1048576) (k0 : Int) (h0 : 0 ≤ k0) (h1 : k0 ≤ 1000000000) :
    Calls Tryz.prog 29 #[.slice (some ⟨g, 0, none⟩) n capv, .int .i64 k0] w fun e w' => e = .returned (.int .i64 (k0 + 3 * n)) ∧ RowX 64 3 Co.cells w' g cap (marks3 k0 n) n ∧ OnlyB g w w' := by
  obtain ⟨f0, hrow0, _⟩ := hR
  go_enter Tryz.func29, Tryz.ntmps29
  go_wp2
  go_loopw [1, 5] (fun kv i wr => ∃ j : Nat, j ≤ n ∧ i = .int .i64 j ∧ kv = .int .i64 (k0 + 3 * (j : Int)) ∧ RowX 64 3 Co.cells wr g cap (marks3 k0 n) j ∧ OnlyB g w wr) (fun _ i _ => n - (intOf i).toNat)
  case atStart => exact ⟨0, Nat.zero_le _, rfl, by simp, ⟨f0, hrow0, fun i _ hi => absurd hi (by omega)⟩, OnlyB.refl _ _⟩
  case round =>
    obtain ⟨j, hj, rfl, rfl, hR, hO⟩ := hrel
    clear hrow0
    by_cases hlt : j < n
    · obtain ⟨f, hrow, hf⟩ := hR
      have HF : Hid (∀ i (h : i < (marks3 k0 n).length), i < j → ∀ a v, (Co.cells (marks3 k0 n)[i])[a]? = some v → f (i * 3 + a) = v) := hf
      clear hf
      have hlm : j < (marks3 k0 n).length := by rw [marks3_length]; exact hlt
      have HM : Hid (Co.cells (marks3 k0 n)[j] = [.int .i64 (k0 + 3 * (j : Int)), .int .i64 (k0 + 3 * (j : Int) + 1), .int .i64 (k0 + 3 * (j : Int) + 1 + 1)]) := by rw [Hid, marks3_get k0 n j hlm]; rfl
      have hfr := fun i => hrow.frozen i
      have e0 := hrow.cell (i := j * 3) (by omega)
      have e1 := hrow.cell (i := j * 3 + 1) (by omega)
      have e2 := hrow.cell (i := j * 3 + 2) (by omega)
      go_wp2
      go_roundw
      case rel => exact ⟨j + 1, by omega, by go_num, by go_num, RowX.store3 (hk := hlm) hrow HF.out (fun _ => rfl) HM.out, ((hO.setCell _ _).setCell _ _).setCell _ _⟩
      case measure => simp [intOf]; omega
    · have hjn : j = n := by omega
      go_wp2
      go_ret
      subst hjn
      exact ⟨rfl, hR, hO⟩
set_option maxRecDepth 100000 in
set_option maxHeartbeats 400000 in
theorem markCo_nil (w : World) (k0 : Int) :
    Calls Tryz.prog 29 #[.slice none 0 0, .int .i64 k0] w fun e w' => e = .returned (.int .i64 k0) ∧ w' = w := by
  go_enter Tryz.func29, Tryz.ntmps29
  go_wp2
  go_loopw [1, 5] (fun kv i wr => kv = .int .i64 k0 ∧ i = .int .i64 0 ∧ wr = w) (fun _ _ _ => 0)
  case atStart => exact ⟨rfl, rfl, rfl⟩
  case round =>
    obtain ⟨rfl, rfl, rfl⟩ := hrel
    go_wp2
    go_ret
    exact ⟨rfl, rfl⟩
set_option maxRecDepth 100000 in
set_option maxHeartbeats 1000000 in
theorem heldCo_any (n capv : Nat) (ao : Option Addr) (w : World) (k0 : Int) (hl : Xs 3 Co.cells w ao (marks3 k0 n)) (hn : n ≤ 1048576) (h0 : 0 ≤ k0) (h1 : k0 ≤ 1000000000) :
    Calls Tryz.prog 30 #[.slice ao n capv, .int .i64 k0] w fun e w' => e = .returned (.int .i64 (k0 + 3 * n)) ∧ w' = w := by
  go_enter Tryz.func30, Tryz.ntmps30
  go_wp2
  go_loop [1, 5] (fun kv i => ∃ j : Nat, j ≤ n ∧ i = .int .i64 j ∧ kv = .int .i64 (k0 + 3 * (j : Int))) (fun _ i => n - (intOf i).toNat)
  case atStart => exact ⟨0, Nat.zero_le _, rfl, by simp⟩
  case round =>
    obtain ⟨j, hj, rfl, rfl⟩ := hrel
    by_cases hlt : j < n
    · have hlm : j < (marks3 k0 n).length := by rw [marks3_length]; exact hlt
      rcases hl with h | ⟨bl, off, rfl, hc⟩
      · rw [h] at hlm; simp at hlm
      · have hb := hc j hlm
        rw [marks3_get] at hb
        obtain ⟨c0, c1, c2⟩ := co_at hb
        simp only at c0 c1 c2
        clear hc
        go_wp2
        go_round
        case rel => exact ⟨j + 1, by omega, by go_num, by go_num⟩
        case measure => simp [intOf]; omega
    · have hjn : j = n := by omega
      go_wp2
      go_ret
      subst hjn
      exact ⟨rfl, rfl⟩
theorem eqCo_own {w : World} {b1 : Nat} {v1 : Value} {l : List Co} {ao : Option Addr} {c : Nat} (h : OwnCo w b1 v1 l) (hX : Xs 3 Co.cells w ao l) (hn : l.length ≤ 1048576) : Calls Tryz.prog 26 #[v1, .slice ao l.length c] w fun e w' => e = .returned (.bool true) ∧ Below w.heap.size w w' := by
  obtain ⟨a1, c1, rfl, hX1⟩ := h.xs
  exact eqCoS_same l a1 ao c1 c w hX1 hX hn
theorem OwnCo.but {S : Nat → Prop} {w w' : World} {base : Nat} {v : Value} {l : List Co} (h : OwnCo w base v l) (hb : ∀ k, k < w.heap.size → ¬ S k → w'.heap[k]? = w.heap[k]?) (hs : ∀ k, S k → k < base) : OwnCo w' base v l := by
  rcases h with h | ⟨g, cap, h1, h2, h3, f, hr, hv⟩
  · exact .inl h
  · exact .inr ⟨g, cap, h1, h2, h3, f, hr.of_block (hb g hr.lt (fun e => by have := hs g e; omega)), hv⟩
theorem xs3_but {S : Nat → Prop} {B : Nat} {w w' : World} {ao : Option Addr} {l : List Co} (h : Xs 3 Co.cells w ao l) (hB : ∀ p, ao = some p → l ≠ [] → p.block < B) (hb : ∀ {p : Addr} {v : Value}, ¬ S p.block → w.cell? p = some v → w'.cell? p = some v) (hs : ∀ k, S k → B ≤ k) : Xs 3 Co.cells w' ao l := by
  rcases h with h | ⟨bl, off, e, hc⟩
  · exact .inl h
  · by_cases hl : l = []
    · exact .inl hl
    · have hlt := hB _ e hl
      exact .inr ⟨bl, off, e, fun k hk j v hj => hb (p := ⟨bl, _, none⟩) (fun g => by have := hs bl g; simp only at hlt; omega) (hc k hk j v hj)⟩
theorem xs3_lt {w : World} {ao : Option Addr} {l : List Co} (h : Xs 3 Co.cells w ao l) : ∀ p, ao = some p → l ≠ [] → p.block < w.heap.size := by
  intro p e hl
  rcases h with h | ⟨bl, off, e2, hc⟩
  · exact absurd h hl
  · rw [e] at e2; cases e2
    have h0 : 0 < l.length := by rcases l with _ | ⟨x, r⟩; exact absurd rfl hl; simp
    exact cell_lt (co_at (hc 0 h0)).1
theorem markCo_own {w : World} {base : Nat} {v : Value} {l : List Co} (h : OwnCo w base v l) (hn : l.length ≤ 1048576) : Calls Tryz.prog 29 #[v, .int .i64 1] w fun e w' => e = .returned (.int .i64 (1 + 3 * l.length)) ∧ (∃ ao cap, v = .slice ao l.length cap ∧ Xs 3 Co.cells w' ao (marks3 1 l.length)) ∧ But (fun k => base ≤ k) w w' := by
  rcases h with ⟨rfl, rfl⟩ | ⟨g, cap, rfl, hg, hc, hR⟩
  · refine (markCo_nil w 1).mono ?_
    rintro e w' ⟨rfl, rfl⟩
    exact ⟨rfl, ⟨none, 0, rfl, .inl rfl⟩, But.refl _ _⟩
  · refine (markCo_any l.length cap cap g l l.length w hR hc hn 1 (by omega) (by omega)).mono ?_
    rintro e w' ⟨rfl, hR', hO⟩
    exact ⟨rfl, ⟨_, cap, rfl, hR'.xs (fun _ => rfl) (by rw [marks3_length]; exact Nat.le_refl _) (by rw [marks3_length]; exact hc)⟩, But.only hO hg⟩
theorem chL_len (b : Bk) (x : Wx) : (chL b x).length ≤ 5418 := by
  rw [← seqL_map, List.length_map]
  unfold seqL
  split
  · rename_i h
    simp only [Bool.and_eq_true] at h
    have := nC_le b x
    rw [NC, if_pos h.2] at this
    exact Nat.le_trans (List.length_filter_le _ _) this
  · simp
set_option maxRecDepth 100000 in
set_option maxHeartbeats 2000000 in
theorem implChoices_any (b : Bk) (x : Wx) (w : World) (hb : AsksB w b) (hx : AsksW w x) :
    Calls Tryz.prog 25 #[b.val, x.val] w fun e w' => (∃ v, e = .returned v ∧ OwnCo w' w.heap.size v (chL b x)) ∧ Below w.heap.size w w' := by
  have hB0 : Below w.heap.size w ((w.alloc b.obj).alloc x.obj) := balloc (balloc (Below.refl _ _) _) _
  go_enter Tryz.func25, Tryz.ntmps25
  go_wp2_with fail
  obtain ⟨W0, hW0⟩ : ∃ W0, (w.alloc b.obj).alloc x.obj = W0 := ⟨_, rfl⟩
  rw [hW0] at hB0 ⊢
  clear hW0
  refine (freeChoices_any b x W0).mono ?_
  rintro e W1 ⟨rfl, hb1, hBb, hBx⟩
  have N1 := bstep hB0 hb1
  clear hB0
  go_wp2_with fail
  refine (collect_any b x W0.heap.size (W0.heap.size + 1) W1 hBb hBx (hb.later N1) (hx.later N1)).mono ?_
  rintro e W2 ⟨⟨v, rfl, ho⟩, hb2⟩
  have N2 := bstep N1 hb2
  have HO : Hid (OwnCo W2 w.heap.size v (chL b x)) := (OwnCo.of_owns ho).weak (base' := w.heap.size) (by have := N1.size; omega)
  obtain ⟨ao, cap, rfl, _⟩ := OwnCo.xs HO.out
  clear ho
  go_wp2
  go_ret
  exact ⟨⟨_, rfl, HO.out⟩, N2⟩
end Go.Proofs.YtficfhcmbhlagabGreat
namespace Go.Proofs.YtficfhcmbhlagabGreat
open Go.RowKit
abbrev Bk.objL (b : Bk) : Obj := .cells #[.int .i64 b.now, .slice b.fa b.fl.length b.fc, .slice b.ha b.hl.length b.hc] 25
/-- What holds of the operations that hold a copy of a book against another one. -/
def E8 (b b2 : Bk) (j : Nat) (v : Value) (w : World) : Prop :=
  match j with
  | 0 => v = b2.val
  | 1 => v = b.val
  | 2 => ∃ b3 : Bk, v = b3.val ∧ Copied w b b3
  | 3 => v = .bool true
  | _ => True
theorem E8.later {b b2 : Bk} (j : Nat) (v : Value) (w w' : World) (h : E8 b b2 j v w) (hb : Below w.heap.size w w') : E8 b b2 j v w' := by
  unfold E8 at h ⊢
  split
  all_goals first
    | exact h
    | (obtain ⟨b1, e, hc⟩ := h; exact ⟨b1, e, Copied.later hc hb⟩)
    | trivial
theorem blk {w w' : World} {k : Nat} {o : Obj} (h : w.heap[k]? = some o) (hb : Below w.heap.size w w') : w'.heap[k]? = some o := (hb.block _ (Array.getElem?_eq_some_iff.1 h).1).trans h
theorem blk_but {S : Nat → Prop} {w w' : World} {k : Nat} {o : Obj} (h : w.heap[k]? = some o) (hb : But S w w') (hs : ¬ S k) : w'.heap[k]? = some o := (hb.block _ (Array.getElem?_eq_some_iff.1 h).1 hs).trans h
end Go.Proofs.YtficfhcmbhlagabGreat
namespace Go.Proofs.YtficfhcmbhlagabGreat
open Go.RowKit
abbrev Wx.objC (x : Wx) : Obj := .cells #[.string x.n, .int .i64 x.q, .int .i64 x.s, .int .i64 x.f, .int .i64 x.b, .int .i64 x.l, .slice x.wa x.wl.length x.wc, .slice x.la x.ll.length x.lc] 50
theorem CopyW.keep {z : Nat} {w w' : World} {x x' : Wx} (h : CopyW z w x x') (hk : ∀ k, z ≤ k → k < w.heap.size → w'.heap[k]? = w.heap[k]?) : CopyW z w' x x' := by
  obtain ⟨h1, h2, h3, h4, h5, h6, h7, h8, h9, p, r, e1, e2, hz, hpr, ⟨f1, R1, v1⟩, M, hlt, ⟨f2, R2, v2⟩⟩ := h
  refine ⟨h1, h2, h3, h4, h5, h6, h7, h8, h9, p, r, e1, e2, hz, hpr, ⟨f1, R1.of_block (hk p hz R1.lt), v1⟩, ⟨M.1, fun j hj hjk => ?_⟩, hlt, ⟨f2, R2.of_block (hk r (by omega) R2.lt), v2⟩⟩
  obtain ⟨a, b, g, e, hg, f3, R3, v3⟩ := M.2 j hj hjk
  exact ⟨a, b, g, e, hg, f3, R3.of_block (hk g (by omega) R3.lt), v3⟩
theorem CopyW.laEnd {z : Nat} {w : World} {x x' : Wx} (h : CopyW z w x x') : ∀ p, x'.la = some ⟨p, 0, none⟩ → p < w.heap.size := by
  obtain ⟨h1, h2, h3, h4, h5, h6, h7, h8, h9, p, r, e1, e2, hz, hpr, R1, M, hlt, R2⟩ := h
  intro q e
  rw [e2] at e
  cases e
  exact R2.lt
/-- What holds of the operations that ask for an answer to copies of a book and a wish. -/
def Q8 (b : Bk) (x : Wx) (R : Value → World → Prop) (j : Nat) (v : Value) (w : World) : Prop :=
  match j with
  | 0 => v = b.val
  | 1 => ∃ b1 : Bk, v = b1.val ∧ Copied w b b1
  | 2 => v = x.val
  | 3 => ∃ (x1 : Wx) (z : Nat), v = x1.val ∧ CopyW z w x x1
  | 4 => R v w
  | _ => True
theorem Q8.later {b : Bk} {x : Wx} {R : Value → World → Prop} (hR : ∀ v w w', R v w → Below w.heap.size w w' → R v w') (j : Nat) (v : Value) (w w' : World) (h : Q8 b x R j v w) (hb : Below w.heap.size w w') : Q8 b x R j v w' := by
  unfold Q8 at h ⊢
  split
  all_goals first
    | exact h
    | (obtain ⟨b1, e, hc⟩ := h; exact ⟨b1, e, Copied.later hc hb⟩)
    | (obtain ⟨x1, z, e, hc⟩ := h; exact ⟨x1, z, e, CopyW.later hc hb⟩)
    | exact hR _ _ _ h hb
    | trivial
def Y8 (x x2 : Wx) (j : Nat) (v : Value) (w : World) : Prop :=
  match j with
  | 0 => v = x2.val
  | 1 => v = x.val
  | 2 => ∃ (x3 : Wx) (z : Nat), v = x3.val ∧ CopyW z w x x3
  | 3 => v = .bool true
  | _ => True
theorem Y8.later {x x2 : Wx} (j : Nat) (v : Value) (w w' : World) (h : Y8 x x2 j v w) (hb : Below w.heap.size w w') : Y8 x x2 j v w' := by
  unfold Y8 at h ⊢
  split
  all_goals first
    | exact h
    | (obtain ⟨x1, z, e, hc⟩ := h; exact ⟨x1, z, e, CopyW.later hc hb⟩)
    | trivial
theorem blk_mrk {S : Nat → Prop} {w w' : World} {k : Nat} {o : Obj} (h : w.heap[k]? = some o) (hb : Mrk S w w') (hs : ¬ S k) : w'.heap[k]? = some o := (hb.block _ (Array.getElem?_eq_some_iff.1 h).1 hs).trans h
end Go.Proofs.YtficfhcmbhlagabGreat
