import Derived.Test.YtficfhcmbhlagabGreatCan
namespace Go.Proofs.YtficfhcmbhlagabGreat
open Go.RowKit
theorem Tryz.info73 : (Tryz.prog.info? 73).map (fun i => (i.zero, i.size, i.bytes)) = some (some (.agg #[.int .i64 0, .int .i64 0]), 2, 16) := by kernel_rfl
/-- What a slice of spans that the call made holds. -/
def OwnSp (w : World) (base : Nat) (v : Value) (l : List Sp) : Prop :=
  (v = .slice none 0 0 ∧ l = []) ∨ ∃ g cap, v = .slice (some ⟨g, 0, none⟩) l.length cap ∧ base ≤ g ∧ l.length ≤ cap ∧ RowX 73 2 Sp.cells w g cap l l.length
theorem OwnSp.of_owns {w : World} {base : Nat} {v : Value} {l : List Sp} (h : w.ownsRow base 73 2 v l.length (flat2 l)) : OwnSp w base v l := by
  obtain ⟨_, ⟨hv, hn⟩ | ⟨g, cap, cur, hv, hb, hg, hnc, _, hs, ht⟩⟩ := h
  · exact Or.inl ⟨hv, List.eq_nil_of_length_eq_zero hn⟩
  · refine Or.inr ⟨g, cap, hv, hb, hnc, fun i => cur.getD i undef, ⟨cur, hg, hs, fun i hi => by simp [hs, hi]⟩, fun i hi _ j u hj => ?_⟩
    have hj2 : j < 2 := (List.getElem?_eq_some_iff.1 hj).1
    rw [← flat2_get l i hi j hj2, ← ht, List.getElem?_take_of_lt (by omega), Array.getElem?_toList] at hj
    have hlt : i * 2 + j < cur.size := by rw [hs]; omega
    simp only [Array.getElem?_eq_getElem hlt, Option.some.injEq] at hj
    simp [hlt, hj]
theorem OwnSp.later {w w' : World} {base : Nat} {v : Value} {l : List Sp} (h : OwnSp w base v l) (hb : Below w.heap.size w w') : OwnSp w' base v l := by
  rcases h with h | ⟨g, cap, h1, h2, h3, h4⟩
  · exact Or.inl h
  · exact Or.inr ⟨g, cap, h1, h2, h3, h4.later hb⟩
theorem OwnSp.weak {w : World} {base base' : Nat} {v : Value} {l : List Sp} (h : OwnSp w base v l) (hb : base' ≤ base) : OwnSp w base' v l := by
  rcases h with h | ⟨g, cap, h1, h2, h3, h4⟩
  · exact Or.inl h
  · exact Or.inr ⟨g, cap, h1, Nat.le_trans hb h2, h3, h4⟩
theorem OwnSp.xs {w : World} {base : Nat} {v : Value} {l : List Sp} (h : OwnSp w base v l) : ∃ ao cap, v = .slice ao l.length cap ∧ Xs 2 Sp.cells w ao l := by
  rcases h with ⟨h, rfl⟩ | ⟨g, cap, h1, h2, h3, h4⟩
  · exact ⟨none, 0, h, Or.inl rfl⟩
  · exact ⟨_, cap, h1, h4.xs (fun _ => rfl) (Nat.le_refl _) h3⟩
/-- What the bars are, or that there are none to be told. -/
def IsBars (b : Bk) (nm : ByteArray) (t : List Bx) (most : Int) (l : List Sp) : Prop := (askedB b t most = true → Bars most l ∧ ∀ d, 0 ≤ d → d ≤ most → (memS l d ↔ barP b nm t d)) ∧ (askedB b t most = false → l = [])
theorem IsBars.uniq {b : Bk} {nm : ByteArray} {t : List Bx} {most : Int} {l l' : List Sp} (h : IsBars b nm t most l) (g : IsBars b nm t most l') : l = l' := by
  cases e : askedB b t most with
  | false => rw [h.2 e, g.2 e]
  | true =>
    obtain ⟨h1, h2⟩ := h.1 e
    obtain ⟨g1, g2⟩ := g.1 e
    refine canon_uniq l l' h1.c g1.c fun d => ?_
    by_cases hd : 0 ≤ d ∧ d ≤ most
    · rw [h2 d hd.1 hd.2, g2 d hd.1 hd.2]
    · constructor
      · rintro ⟨s, hs, k⟩; have := h1.b s hs; omega
      · rintro ⟨s, hs, k⟩; have := g1.b s hs; omega
theorem IsBars.no {b : Bk} {nm : ByteArray} {t : List Bx} {most : Int} (h : askedB b t most = false) : IsBars b nm t most [] := ⟨(fun g => by rw [h] at g; cases g), fun _ => rfl⟩
theorem IsBars.yes {b : Bk} {nm : ByteArray} {t : List Bx} {most : Int} {l : List Sp} (h : askedB b t most = true) (hb : Bars most l) (hm : ∀ d, 0 ≤ d → d ≤ most → (memS l d ↔ barP b nm t d)) : IsBars b nm t most l := ⟨fun _ => ⟨hb, hm⟩, fun g => by rw [h] at g; cases g⟩
theorem IsBars.len {b : Bk} {nm : ByteArray} {t : List Bx} {most : Int} {l : List Sp} (h : IsBars b nm t most l) : l.length ≤ 301 := by
  cases e : askedB b t most with
  | false => rw [h.2 e]; simp
  | true =>
    have := (h.1 e).1
    simp only [askedB, Bool.and_eq_true, decide_eq_true_eq] at e
    exact this.len e.1.2
abbrev Sp.obj2 (s : Sp) : Obj := .cells #[.int .i64 s.lo, .int .i64 s.hi] 73
theorem sp_new2 (W : World) (g : Nat) (hg : g = W.heap.size) (s : Sp) : ∀ j u, (s.cells)[j]? = some u → (W.alloc s.obj2).cell? ((⟨g, 0, none⟩ : Addr).add j) = some u := by
  subst hg
  intro j u hj
  match j, hj with
  | 0, hj => simp [Sp.cells] at hj; subst hj; simp [Addr.add]
  | 1, hj => simp [Sp.cells] at hj; subst hj; simp [Addr.add]
  | n + 2, hj => simp [Sp.cells] at hj
theorem own_ge2 {w : World} {base : Nat} {e : TypeId} {size : Nat} {v : Value} {n : Nat} {xs : List Value} (h : w.ownsRow base e size v n xs) : ∀ k, v.ownBlock = some k → base ≤ k := fun k hk => (h.lt k hk).1
set_option maxRecDepth 100000 in
set_option maxHeartbeats 2000000 in
theorem implBars_any (b : Bk) (nm : ByteArray) (t : List Bx) (ta : Option Addr) (tc : Nat) (most : Int) (w : World) (ha : Asks w b t ta) :
    Calls Tryz.prog 12 #[b.val, .string nm, .slice ta t.length tc, .int .i64 most] w fun e w' => (∃ v l, e = .returned v ∧ OwnSp w' w.heap.size v l ∧ IsBars b nm t most l) ∧ Below w.heap.size w w' := by
  obtain ⟨i0, hi, hz0, hz1, hz2⟩ := info_parts Tryz.info73
  have hB0 : Below w.heap.size w (w.alloc (.cells #[.int .i64 b.now, .slice b.fa b.fl.length b.fc, .slice b.ha b.hl.length b.hc] 34)) := balloc (Below.refl _ _) _
  have A0 := World.alloc_heap_new w (.cells #[.int .i64 b.now, .slice b.fa b.fl.length b.fc, .slice b.ha b.hl.length b.hc] 34)
  obtain ⟨v1, h1⟩ : ∃ v, askedB b t most = v := ⟨_, rfl⟩
  go_enter Tryz.func12, Tryz.ntmps12
  go_wp2_with fail
  refine (implAsked_any b t ta tc most _ (ha.later hB0)).mono ?_
  rintro e w1 ⟨rfl, hb1⟩
  rw [h1]
  have N1 := bstep hB0 hb1
  have A1 := (hb1.block _ (Array.getElem?_eq_some_iff.1 A0).1).trans A0
  clear A0 hB0 hb1
  cases v1 with
  | false =>
    go_wp2
    go_ret
    exact ⟨⟨_, [], rfl, .inl ⟨rfl, rfl⟩, IsBars.no h1⟩, N1⟩
  | true =>
  have HA : Hid (askedB b t most = true) := h1
  simp only [askedB, Bool.and_eq_true, decide_eq_true_eq] at h1
  obtain ⟨⟨m0, m1⟩, hbk, htk⟩ := h1
  have k0 : w1.cell? ⟨w.heap.size, 0, none⟩ = some (.int .i64 b.now) := obj_cell A1 rfl
  have k1 : w1.cell? ⟨w.heap.size, 1, none⟩ = some (.slice b.fa b.fl.length b.fc) := obj_cell A1 rfl
  have k2 : w1.cell? ⟨w.heap.size, 2, none⟩ = some (.slice b.ha b.hl.length b.hc) := obj_cell A1 rfl
  go_wp2_with fail
  refine (barred_any b nm t ta tc most m0 m1 _ (ha.later N1) hbk htk).mono ?_
  rintro e w2 ⟨⟨v, rfl, ao, cap, l, rfl, hX, hBr, hP⟩, hb2⟩
  have hX := hX.1
  have N2 := bstep N1 hb2
  have hln : l.length ≤ 301 := hBr.len m1
  clear k0 k1 k2 A1
  go_wp2
  go_loopw [9, 23] (fun v i wr => ∃ k : Nat, k ≤ l.length ∧ i = .int .i64 k ∧ wr.ownsRow w2.heap.size 73 2 v (l.take k).length (flat2 (l.take k)) ∧ Below w2.heap.size w2 wr) (fun _ i _ => l.length - (intOf i).toNat)
  case atStart => exact ⟨0, Nat.zero_le _, rfl, World.ownsRow_nil _ _ _ _, Below.refl _ _⟩
  case round =>
    obtain ⟨k, hk, rfl, hown, hA⟩ := hrel
    by_cases hlt : k < l.length
    · rcases hX with h | ⟨bl, off, rfl, hc⟩
      · subst h; simp at hlt
      have hcx := (hc k hlt).later hA
      have hlk : (l.take k).length = k := by simp; omega
      obtain ⟨s, hse⟩ : ∃ s, s = l[k] := ⟨_, rfl⟩
      rw [← hse] at hcx
      have HT : Hid (l.take (k + 1) = l.take k ++ [s]) := by rw [Hid, List.take_succ_eq_append_getElem hlt, hse]
      clear hse hc
      obtain ⟨c0, c1⟩ := sp_at hcx
      have hbz : bl < wr.heap.size := cell_lt c0
      have hwz := hA.size
      have hA1 : Below w2.heap.size w2 ((wr.alloc s.obj).alloc s.obj2) := balloc (balloc hA _) _
      go_wp2_with (at_builtin; refine wpList_append_own_at _ rfl (.tmp 27) (.tmp 29) 29 rfl w2.heap.size 73 i0 _ 2 16 Tryz.underlying29 hi hz0 hz1 hz2 rfl (by decide) _ _ _ rfl ((hown.alloc _).alloc _) ⟨wr.heap.size + 1, 0, none⟩ 1 1 s.cells rfl rfl ?qc1 ?qc2 ?qc3 ?qc4 ?qc5 ?_)
      case qc1 => first | exact fun _ _ h => h | exact sp_new2 _ _ (by simp) s
      case qc2 => intro u hu; simp [Sp.cells] at hu; rcases hu with rfl | rfl <;> rfl
      case qc3 => unfold maxLen; omega
      case qc4 => omega
      case qc5 => simp; omega
      intro v' w3 hown' hgrow _ hat
      have hA3 : Below w2.heap.size w2 w3 := hA1.grown hgrow (by simp; omega) (own_ge2 hown)
      have hown3 : w3.ownsRow w2.heap.size 73 2 v' (l.take (k + 1)).length (flat2 (l.take (k + 1))) := by rw [HT.out, flat2_append, List.length_append, hlk]; simpa [flat2] using hown'
      clear hown hown' hgrow hat hA hA1
      go_wp2
      go_roundw
      case rel => exact ⟨k + 1, by omega, by go_num, hown3, hA3⟩
      case measure => simp [intOf]; omega
    · have hke : l.take k = l := List.take_of_length_le (by omega)
      rw [hke] at hown
      go_wp2
      go_ret
      exact ⟨⟨_, l, rfl, (OwnSp.of_owns hown).weak N2.size, IsBars.yes HA.out hBr hP⟩, bstep N2 hA⟩
/-- The runs of the delays below d that are barred. -/
structure Runs (P : Int → Prop) (l : List Sp) (d : Int) : Prop where
  c : Canon l
  b : ∀ s ∈ l, 0 ≤ s.lo ∧ s.hi < d
  m : ∀ e, 0 ≤ e → e < d → (memS l e ↔ P e)
theorem runs_nil (P : Int → Prop) : Runs P [] 0 := ⟨canon_nil, by simp, fun e h1 h2 => by omega⟩
theorem Runs.pass {P : Int → Prop} {l : List Sp} {d : Int} (h : Runs P l d) (hd : ¬ P d) : Runs P l (d + 1) :=
  ⟨h.c, fun s hs => by have := h.b s hs; omega, fun e h1 h2 => by
    by_cases he : e = d
    · subst he
      exact ⟨fun ⟨s, hs, g⟩ => by have := h.b s hs; omega, fun g => absurd g hd⟩
    · exact h.m e h1 (by omega)⟩
theorem Runs.new {P : Int → Prop} {l : List Sp} {d : Int} (h : Runs P l d) (h0 : 0 ≤ d) (hd : P d) (hl : ∀ s ∈ l, s.hi + 1 < d) : Runs P (l ++ [⟨d, d⟩]) (d + 1) := by
  refine ⟨h.c.add (Int.le_refl _) hl, fun s hs => ?_, fun e h1 h2 => ?_⟩
  · rcases List.mem_append.1 hs with g | g
    · have := h.b s g; omega
    · simp at g; subst g; exact ⟨h0, by show d < d + 1; omega⟩
  · rw [memS_append, memS_one]
    by_cases he : e = d
    · subst he; exact ⟨fun _ => hd, fun _ => .inr ⟨Int.le_refl _, Int.le_refl _⟩⟩
    · rw [h.m e h1 (by omega)]
      constructor
      · rintro (g | g)
        · exact g
        · have g1 : d ≤ e := g.1; omega
      · exact .inl
theorem Runs.grow {P : Int → Prop} {l : List Sp} {s : Sp} {d : Int} (h : Runs P (l ++ [s]) d) (hs : s.hi = d - 1) (hd : P d) : Runs P (l ++ [⟨s.lo, d⟩]) (d + 1) := by
  obtain ⟨hc, hn, ha⟩ := h.c.snoc
  have hsb := h.b s (by simp)
  refine ⟨hc.add (by show s.lo ≤ d; omega) (fun a m => by have := ha a m; unfold Apart at *; exact this), fun x hx => ?_, fun e h1 h2 => ?_⟩
  · rcases List.mem_append.1 hx with g | g
    · have := h.b x (by simp [g]); omega
    · simp at g; subst g; exact ⟨hsb.1, by show d < d + 1; omega⟩
  · rw [memS_append, memS_one]
    by_cases he : e = d
    · subst he; exact ⟨fun _ => hd, fun _ => .inr ⟨by show s.lo ≤ e; omega, Int.le_refl _⟩⟩
    · have := h.m e h1 (by omega)
      rw [memS_append, memS_one] at this
      rw [← this]
      show (memS l e ∨ (s.lo ≤ e ∧ e ≤ d)) ↔ _
      have e1 : (s.lo ≤ e ∧ e ≤ d) ↔ (s.lo ≤ e ∧ e ≤ s.hi) := by omega
      rw [e1]
theorem Runs.len {P : Int → Prop} {l : List Sp} {d : Int} (h : Runs P l d) (hd : d ≤ 301) : l.length ≤ 301 := by
  have := canon_length l 0 300 h.c (fun s hs => by have := h.b s hs; omega)
  omega
end Go.Proofs.YtficfhcmbhlagabGreat
