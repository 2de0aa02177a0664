import Derived.Test.YtficfhcmbhlagabGreatMarkB
namespace Go.Proofs.YtficfhcmbhlagabGreat
open Go.RowKit
/-- The slice's row may be written; it is one of S, and not q. -/
def TRow (S : Nat → Prop) (q : Nat) (w : World) (a : Option Addr) (n : Nat) : Prop := ∃ p, a = some ⟨p, 0, none⟩ ∧ S p ∧ q ≠ p ∧ ∃ f, w.rowIs p 77 (n * 6) f
theorem TRow.later {S : Nat → Prop} {q n : Nat} {w w' : World} {a : Option Addr} (h : TRow S q w a n) (hb : Below w.heap.size w w') : TRow S q w' a n := by
  obtain ⟨p, e, hs, hq, f, hr⟩ := h
  exact ⟨p, e, hs, hq, f, hr.of_block (hb.block _ hr.lt)⟩
theorem TRow.set {S : Nat → Prop} {q n : Nat} {w : World} {a : Option Addr} (h : TRow S q w a n) (o : Nat) (u : Value) : TRow S q (w.setCell ⟨q, o, none⟩ u) a n := by
  obtain ⟨p, e, hs, hq, f, hr⟩ := h
  exact ⟨p, e, hs, hq, f, hr.setOther (a := ⟨q, o, none⟩) (fun g => hq g.symm) u⟩
theorem TRow.mark {S : Nat → Prop} {q n g m : Nat} {w w' : World} {a : Option Addr} (h : TRow S q w a n) (hO : OnlyB g w w') (h1 : ∃ f, w.rowIs g 77 (m * 6) f) (h2 : ∃ f, w'.rowIs g 77 (m * 6) f) : TRow S q w' a n := by
  obtain ⟨p, e, hs, hq, f, hr⟩ := h
  by_cases hp : p = g
  · subst hp
    obtain ⟨f1, c1, x1, y1, z1⟩ := h1
    obtain ⟨c2, x2, y2, z2⟩ := hr
    rw [x1] at x2
    cases x2
    have hnm : n * 6 = m * 6 := by omega
    obtain ⟨f2, hr2⟩ := h2
    exact ⟨p, e, hs, hq, f2, by rw [hnm]; exact hr2⟩
  · exact ⟨p, e, hs, hq, f, hr.of_block (hO.block p hp)⟩
/-- A row of held, of which the tubes are as m's. -/
def HRow (w : World) (q : Nat) (m : List Hx) : Prop := ∃ f, w.rowIs q 119 (m.length * 3) f ∧ ∀ i (h : i < m.length), f (i * 3 + 1) = .slice m[i].ta m[i].tl.length m[i].tc ∧ f (i * 3 + 2) = .slice m[i].na m[i].nl.length m[i].nc
set_option maxRecDepth 100000 in
set_option maxHeartbeats 4000000 in
theorem markH_any (S : Nat → Prop) (m : List Hx) (q capv : Nat) (k0 : Int) (w : World) (hS : S q) (hR : HRow w q m) (hT : ∀ h ∈ m, TRow S q w h.ta h.tl.length ∧ TRow S q w h.na h.nl.length) (hF : ∀ h ∈ m, h.Fit) (hn : m.length ≤ 1048576) (h0 : 0 ≤ k0) (h1 : k0 ≤ 1152921504606846976) :
    Calls Tryz.prog 48 #[.slice (some ⟨q, 0, none⟩) m.length capv, .int .i64 k0] w fun e w' => (∃ r, e = .returned (.int .i64 r) ∧ 0 ≤ r ∧ r ≤ k0 + 12582913 * m.length) ∧ But S w w' := by
  go_enter Tryz.func48, Tryz.ntmps48
  go_wp2
  go_loopw [1, 5] (fun kv i wr => ∃ (j : Nat) (r : Int), j ≤ m.length ∧ i = .int .i64 j ∧ kv = .int .i64 r ∧ 0 ≤ r ∧ r ≤ k0 + 12582913 * (j : Int) ∧ HRow wr q m ∧ (∀ h ∈ m, TRow S q wr h.ta h.tl.length ∧ TRow S q wr h.na h.nl.length) ∧ But S w wr) (fun _ i _ => m.length - (intOf i).toNat)
  case atStart => exact ⟨0, k0, Nat.zero_le _, rfl, rfl, h0, by simp, hR, hT, But.refl _ _⟩
  case round =>
    clear hR hT
    obtain ⟨j, r, hj, rfl, rfl, hr0, hr1, ⟨f, hrow, hf⟩, hT, hO⟩ := hrel
    by_cases hlt : j < m.length
    · have hjb : (12582913 : Int) * (j : Int) ≤ 12582913 * 1048576 := by omega
      obtain ⟨x, hxe⟩ : ∃ x, x = m[j] := ⟨_, rfl⟩
      have hxm : x ∈ m := by rw [hxe]; exact List.getElem_mem hlt
      have hfj := hf j hlt
      rw [← hxe] at hfj
      have hxf := hF x hxm
      have HF : Hid (∀ i (h : i < m.length), f (i * 3 + 1) = .slice m[i].ta m[i].tl.length m[i].tc ∧ f (i * 3 + 2) = .slice m[i].na m[i].nl.length m[i].nc) := hf
      clear hf hxe
      go_wp2_with fail
      refine (markText_any _ _ (by omega) (by omega)).mono ?_
      rintro e w1 ⟨⟨s, rfl⟩, hb1⟩
      have hrow1 := hrow.of_block (hb1.block _ hrow.lt)
      have hO1 := hO.trans (But.below hb1)
      have hT1 : ∀ h ∈ m, TRow S q w1 h.ta h.tl.length ∧ TRow S q w1 h.na h.nl.length := fun h hm => ⟨(hT h hm).1.later hb1, (hT h hm).2.later hb1⟩
      clear hrow hO hb1 hT
      have hfr := fun i => hrow1.frozen i
      have e0 := hrow1.cell (i := j * 3) (by omega)
      have hT2 : ∀ h ∈ m, TRow S q (w1.setCell ⟨q, j * 3, none⟩ (.string s)) h.ta h.tl.length ∧ TRow S q (w1.setCell ⟨q, j * 3, none⟩ (.string s)) h.na h.nl.length := fun h hm => ⟨(hT1 h hm).1.set _ _, (hT1 h hm).2.set _ _⟩
      have hO2 := hO1.set hS (j * 3) (.string s)
      have hrow2 := hrow1.set (j * 3) (.string s)
      have e1 := hrow2.cell (i := j * 3 + 1) (by omega)
      rw [if_neg (by omega), hfj.1] at e1
      go_wp2_with fail
      obtain ⟨W2, hW2⟩ : ∃ W2, w1.setCell ⟨q, j * 3, none⟩ (.string s) = W2 := ⟨_, rfl⟩
      rw [hW2] at hT2 hO2 hrow2 ⊢
      clear hW2 e0 e1 hfr hT1 hO1 hrow1
      have hxt := hxf.tn
      have hxn := hxf.nn
      obtain ⟨p, ep, hSp, hqp, hRp⟩ := (hT2 x hxm).1
      rw [ep]
      refine (markB_any _ _ p _ _ hRp hxt (by omega) (by omega)).mono ?_
      rintro e w3 ⟨rfl, hR3, hO3⟩
      have hrow3 := hrow2.of_block (hO3.block q hqp)
      have hT3 : ∀ h ∈ m, TRow S q w3 h.ta h.tl.length ∧ TRow S q w3 h.na h.nl.length := fun h hm => ⟨(hT2 h hm).1.mark hO3 hRp hR3, (hT2 h hm).2.mark hO3 hRp hR3⟩
      have hO4 := hO2.trans (But.only hO3 hSp)
      clear hrow2 hT2 hO2 hO3 hR3 hRp ep
      have e2 := hrow3.cell (i := j * 3 + 2) (by omega)
      rw [if_neg (by omega), hfj.2] at e2
      go_wp2_with fail
      obtain ⟨p2, ep2, hSp2, hqp2, hRp2⟩ := (hT3 x hxm).2
      rw [ep2]
      refine (markB_any _ _ p2 _ _ hRp2 hxn (by omega) (by omega)).mono ?_
      rintro e w5 ⟨rfl, hR5, hO5⟩
      have hrow5 := hrow3.of_block (hO5.block q hqp2)
      have hT5 : ∀ h ∈ m, TRow S q w5 h.ta h.tl.length ∧ TRow S q w5 h.na h.nl.length := fun h hm => ⟨(hT3 h hm).1.mark hO5 hRp2 hR5, (hT3 h hm).2.mark hO5 hRp2 hR5⟩
      have hO6 := hO4.trans (But.only hO5 hSp2)
      clear e2 hrow3 hT3 hO4 hO5 hR5 hRp2 ep2
      go_wp2
      go_roundw
      case rel => exact ⟨j + 1, r + 1 + 6 * x.tl.length + 6 * x.nl.length, by omega, by go_num, by go_num, by omega, by omega, ⟨_, hrow5, fun i hi => by
        have := HF.out i hi
        refine ⟨?_, ?_⟩
        · rw [if_neg (by omega)]; exact this.1
        · rw [if_neg (by omega)]; exact this.2⟩, hT5, hO6⟩
      case measure => simp [intOf]; omega
    · have hjn : j = m.length := by omega
      go_wp2
      go_ret
      subst hjn
      exact ⟨⟨r, rfl, hr0, hr1⟩, hO⟩
/-- The book's memory may be written, and lies in S. -/
structure OwnBk (S : Nat → Prop) (w : World) (b : Bk) : Prop where
  rf : ∃ p, b.fa = some ⟨p, 0, none⟩ ∧ S p ∧ ∃ f, w.rowIs p 116 (b.fl.length * 3) f
  rh : ∃ q, b.ha = some ⟨q, 0, none⟩ ∧ S q ∧ HRow w q b.hl ∧ (∀ h ∈ b.hl, TRow S q w h.ta h.tl.length ∧ TRow S q w h.na h.nl.length) ∧ ∀ p, b.fa = some ⟨p, 0, none⟩ → q ≠ p
  rt : ∀ p, b.fa = some ⟨p, 0, none⟩ → ∀ h ∈ b.hl, (∀ a, h.ta = some a → a.block ≠ p) ∧ (∀ a, h.na = some a → a.block ≠ p)
theorem trow_keep {S : Nat → Prop} {q n p : Nat} {w w' : World} {a : Option Addr} (h : TRow S q w a n) (hB : ∀ k, k < w.heap.size → k ≠ p → w'.heap[k]? = w.heap[k]?) (hp : ∀ x, a = some x → x.block ≠ p) : TRow S q w' a n := by
  obtain ⟨g, e, hs, hq, f, hr⟩ := h
  exact ⟨g, e, hs, hq, f, hr.of_block (hB g hr.lt (hp _ e))⟩
end Go.Proofs.YtficfhcmbhlagabGreat
