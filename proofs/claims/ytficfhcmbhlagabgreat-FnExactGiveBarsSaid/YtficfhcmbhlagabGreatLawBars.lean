import Derived.Test.YtficfhcmbhlagabGreatBarsL
import Derived.Test.YtficfhcmbhlagabGreatLawEarl
namespace Go.Proofs.YtficfhcmbhlagabGreat
open Go.RowKit
theorem isBars_like {b b' : Bk} {w : World} (h : Copied w b b') {nm : ByteArray} {t : List Bx} {most : Int} {l : List Sp} (g : IsBars b' nm t most l) : IsBars b nm t most l := by
  unfold IsBars at g ⊢
  rw [asked_like h, bar_like h] at g
  exact g
theorem specBars_copy {b b' : Bk} {w : World} {nm : ByteArray} {t : List Bx} {g : Nat} {most : Int} (h : Copied w b b') (hnf : b.fl.length ≤ 1048576) (hs : ∀ f ∈ b.fl, f.n.size ≤ 9223372036854775807) (hnh : b.hl.length ≤ 1048576) (hfit : ∀ h ∈ b.hl, h.Fit) (hR : RowBx w g t.length t t.length) (hnt : t.length ≤ 1048576) :
    Calls Tryz.prog 9 #[b'.val, .string nm, .slice (some ⟨g, 0, none⟩) t.length t.length, .int .i64 most] w fun e w' => (∃ v l, e = .returned v ∧ OwnSp w' w.heap.size v l ∧ IsBars b nm t most l) ∧ Below w.heap.size w w' :=
  (specBars_any b' nm t _ _ most w (asks_of h hnf hs hnh hfit hR hnt)).mono fun _ _ ⟨⟨v, l, e, ho, g⟩, hb⟩ => ⟨⟨v, l, e, ho, isBars_like h g⟩, hb⟩
theorem implBars_copy {b b' : Bk} {w : World} {nm : ByteArray} {t : List Bx} {g : Nat} {most : Int} (h : Copied w b b') (hnf : b.fl.length ≤ 1048576) (hs : ∀ f ∈ b.fl, f.n.size ≤ 9223372036854775807) (hnh : b.hl.length ≤ 1048576) (hfit : ∀ h ∈ b.hl, h.Fit) (hR : RowBx w g t.length t t.length) (hnt : t.length ≤ 1048576) :
    Calls Tryz.prog 12 #[b'.val, .string nm, .slice (some ⟨g, 0, none⟩) t.length t.length, .int .i64 most] w fun e w' => (∃ v l, e = .returned v ∧ OwnSp w' w.heap.size v l ∧ IsBars b nm t most l) ∧ Below w.heap.size w w' :=
  (implBars_any b' nm t _ _ most w (asks_of h hnf hs hnh hfit hR hnt)).mono fun _ _ ⟨⟨v, l, e, ho, g⟩, hb⟩ => ⟨⟨v, l, e, ho, isBars_like h g⟩, hb⟩
theorem eqSp_own {w : World} {b1 : Nat} {v1 : Value} {l : List Sp} {ao : Option Addr} {c : Nat} (h : OwnSp w b1 v1 l) (hX : Xs 2 Sp.cells w ao l) (hn : l.length ≤ 1048576) : Calls Tryz.prog 13 #[v1, .slice ao l.length c] w fun e w' => e = .returned (.bool true) ∧ Below w.heap.size w w' := by
  obtain ⟨a1, c1, rfl, hX1⟩ := h.xs
  exact eqSpS_same l a1 ao c1 c w hX1 hX hn
theorem OwnSp.but {S : Nat → Prop} {w w' : World} {base : Nat} {v : Value} {l : List Sp} (h : OwnSp w base v l) (hb : But S w w') (hs : ∀ k, S k → k < base) : OwnSp w' base v l := by
  rcases h with h | ⟨g, cap, h1, h2, h3, f, hr, hv⟩
  · exact .inl h
  · exact .inr ⟨g, cap, h1, h2, h3, f, hr.of_block (hb.block g hr.lt (fun e => by have := hs g e; omega)), hv⟩
theorem xs_but {S : Nat → Prop} {B : Nat} {w w' : World} {ao : Option Addr} {l : List Sp} (h : Xs 2 Sp.cells w ao l) (hB : ∀ p, ao = some p → l ≠ [] → p.block < B) (hb : But S w w') (hs : ∀ k, S k → B ≤ k) : Xs 2 Sp.cells w' ao l := by
  rcases h with h | ⟨bl, off, e, hc⟩
  · exact .inl h
  · by_cases hl : l = []
    · exact .inl hl
    · have hlt := hB _ e hl
      exact .inr ⟨bl, off, e, fun k hk j v hj => hb.cell (p := ⟨bl, _, none⟩) (fun g => by have := hs bl g; simp only at hlt; omega) (hc k hk j v hj)⟩
theorem xs_lt {w : World} {ao : Option Addr} {l : List Sp} (h : Xs 2 Sp.cells w ao l) : ∀ p, ao = some p → l ≠ [] → p.block < w.heap.size := by
  intro p e hl
  rcases h with h | ⟨bl, off, e2, hc⟩
  · exact absurd h hl
  · rw [e] at e2; cases e2
    have h0 : 0 < l.length := by rcases l with _ | ⟨x, r⟩; exact absurd rfl hl; simp
    exact cell_lt (sp_at (hc 0 h0)).1
theorem markSp_own {w : World} {base : Nat} {v : Value} {l : List Sp} (h : OwnSp w base v l) (hn : l.length ≤ 301) : Calls Tryz.prog 18 #[v, .int .i64 1] w fun e w' => e = .returned (.int .i64 (1 + 2 * l.length)) ∧ (∃ ao cap, v = .slice ao l.length cap ∧ Xs 2 Sp.cells w' ao (marks2 1 l.length)) ∧ But (fun k => base ≤ k) w w' := by
  rcases h with ⟨rfl, rfl⟩ | ⟨g, cap, rfl, hg, hc, hR⟩
  · refine (markSp_nil w 1).mono ?_
    rintro e w' ⟨rfl, rfl⟩
    exact ⟨rfl, ⟨none, 0, rfl, .inl rfl⟩, But.refl _ _⟩
  · refine (markSp_any l.length cap cap g l l.length w hR hc (by omega) 1 (by omega) (by omega)).mono ?_
    rintro e w' ⟨rfl, hR', hO⟩
    exact ⟨rfl, ⟨_, cap, rfl, hR'.xs (fun _ => rfl) (by rw [marks2_length]; exact Nat.le_refl _) (by rw [marks2_length]; exact hc)⟩, But.only hO hg⟩
set_option maxRecDepth 100000 in
set_option maxHeartbeats 4000000 in
theorem lawBars_any (b : Bk) (nm : ByteArray) (t : List Bx) (ta : Option Addr) (tc : Nat) (most : Int) (w : World) (hf : Xs 3 Fx.cells w b.fa b.fl) (hnf : b.fl.length ≤ 9223372036854775807) (hsf : ∀ f ∈ b.fl, f.n.size ≤ 9223372036854775807) (hh : Xs 3 Hx.cells w b.ha b.hl) (hn : b.hl.length ≤ 9223372036854775807) (hs : ∀ h ∈ b.hl, h.Wide) (hin : ∀ h ∈ b.hl, h.In w)
    (hnm : nm.size ≤ 9223372036854775807) (ht : Bxs w ta t) (hnt : t.length ≤ 9223372036854775807) :
    Calls Tryz.prog 3 #[b.val, .string nm, .slice ta t.length tc, .int .i64 most] w fun e w' => e = .returned (.bool true) ∧ Below w.heap.size w w' := by
  by_cases hsm : nm.size ≤ 1048576
  · have e16 : decide ((1048576 : Int) < (nm.size : Int)) = false := by simp; omega
    go_enter Tryz.func3, Tryz.ntmps3
    go_wp2_with fail
    have hB0 : Below w.heap.size w (w.alloc (.cells #[.int .i64 b.now, .slice b.fa b.fl.length b.fc, .slice b.ha b.hl.length b.hc] 25)) := balloc (Below.refl _ _) _
    have A0 := World.alloc_heap_new w (.cells #[.int .i64 b.now, .slice b.fa b.fl.length b.fc, .slice b.ha b.hl.length b.hc] 25)
    refine (szBook_any b _ (hf.later hB0) hnf hsf (hh.later hB0) hn hs 1048576 (by omega) (by omega)).mono ?_
    rintro e w1 ⟨⟨r, rfl, hr0, hr1⟩, hb1⟩
    have N1 : Below w.heap.size w w1 := bstep hB0 hb1
    have A1 := (hb1.block _ (Array.getElem?_eq_some_iff.1 A0).1).trans A0
    clear hB0 hb1 A0
    by_cases hr : 0 ≤ r
    · obtain ⟨hrl, hfl, hhl, hft⟩ := hr1 hr
      have hfl : b.fl.length ≤ 1048576 := by omega
      have hhl : b.hl.length ≤ 1048576 := by omega
      go_wp2_with fail
      refine (szBox_any _ _ _ _ _ hr (by omega) hnt).mono ?_
      rintro e w1 ⟨⟨r2, rfl, hq0, hq1⟩, rfl⟩
      by_cases hq : 0 ≤ r2
      · have hnt : t.length ≤ 1048576 := by have := hq1 hq; omega
        have k0 : w1.cell? ⟨w.heap.size, 0, none⟩ = some (.int .i64 b.now) := obj_cell A1 rfl
        have k1 : w1.cell? ⟨w.heap.size, 1, none⟩ = some (.slice b.fa b.fl.length b.fc) := obj_cell A1 rfl
        have k2 : w1.cell? ⟨w.heap.size, 2, none⟩ = some (.slice b.ha b.hl.length b.hc) := obj_cell A1 rfl
        go_wp2_with fail
        refine (toBook_any b _ (hf.later N1) hfl (hh.later N1) hhl (fun h m => ⟨(hin h m).later N1, hft h m⟩)).mono ?_
        rintro e w2 ⟨⟨b1, rfl, hc1⟩, hb2⟩
        have N2 : Below w.heap.size w w2 := bstep N1 hb2
        have A2 := (hb2.block _ (Array.getElem?_eq_some_iff.1 A1).1).trans A1
        clear k0 k1 k2 hb2 N1 A1
        go_wp2_with fail
        refine (toBoxS_any t _ _ _ (ht.later N2) hnt).mono ?_
        rintro e w3 ⟨rfl, hR3, hb3⟩
        have N3 : Below w.heap.size w w3 := bstep N2 hb3
        have A3 := (hb3.block _ (Array.getElem?_eq_some_iff.1 A2).1).trans A2
        have hc1 := hc1.later hb3
        clear hb3 N2 A2
        go_wp2_with fail
        refine (specBars_copy hc1 hfl hsf hhl hft hR3 hnt).mono ?_
        rintro e w4 ⟨⟨v0, l, rfl, hv0, ho⟩, hb4⟩
        obtain ⟨ao0, cap0, rfl, hX0⟩ := hv0.xs
        have hl301 := ho.len
        have hlB := xs_lt hX0
        have N4 : Below w.heap.size w w4 := bstep N3 hb4
        have A4 := (hb4.block _ (Array.getElem?_eq_some_iff.1 A3).1).trans A3
        have HO : Hid (IsBars b nm t most l) := ho
        clear ho hv0 hc1 hb4 hR3 A3 N3
        have k0 : w4.cell? ⟨w.heap.size, 0, none⟩ = some (.int .i64 b.now) := obj_cell A4 rfl
        have k1 : w4.cell? ⟨w.heap.size, 1, none⟩ = some (.slice b.fa b.fl.length b.fc) := obj_cell A4 rfl
        have k2 : w4.cell? ⟨w.heap.size, 2, none⟩ = some (.slice b.ha b.hl.length b.hc) := obj_cell A4 rfl
        go_wp2_with fail
        refine (toBook_own b _ (hf.later N4) hfl (hh.later N4) hhl (fun h m => ⟨(hin h m).later N4, hft h m⟩)).mono ?_
        rintro e w5 ⟨⟨b2, rfl, hc2, hOb⟩, hb5⟩
        have hX5 := hX0.later hb5
        have hs45 := hb5.size
        have N5 : Below w.heap.size w w5 := bstep N4 hb5
        have A5 := (hb5.block _ (Array.getElem?_eq_some_iff.1 A4).1).trans A4
        have N4' : w.heap.size < w4.heap.size := (Array.getElem?_eq_some_iff.1 A4).1
        clear k0 k1 k2 hb5 A4 N4
        go_wp2_with fail
        have hbx : Below w5.heap.size w5 (w5.alloc (.cells #[.int .i64 b2.now, .slice b2.fa b2.fl.length b2.fc, .slice b2.ha b2.hl.length b2.hc] 34)) := balloc (Below.refl _ _) _
        have X5 := World.alloc_heap_new w5 (.cells #[.int .i64 b2.now, .slice b2.fa b2.fl.length b2.fc, .slice b2.ha b2.hl.length b2.hc] 34)
        have A6 := (hbx.block _ (Array.getElem?_eq_some_iff.1 A5).1).trans A5
        have N6 : Below w.heap.size w (w5.alloc (.cells #[.int .i64 b2.now, .slice b2.fa b2.fl.length b2.fc, .slice b2.ha b2.hl.length b2.hc] 34)) := bstep N5 hbx
        have hc2 := hc2.later hbx
        have hOb := hOb.later hbx
        have hX6 := hX5.later hbx
        have hs56 := hbx.size
        obtain ⟨w6, hw6⟩ : ∃ w6, w6 = w5.alloc (.cells #[.int .i64 b2.now, .slice b2.fa b2.fl.length b2.fc, .slice b2.ha b2.hl.length b2.hc] 34) := ⟨_, rfl⟩
        rw [← hw6] at X5 A6 N6 hc2 hOb hX6 hs56 ⊢
        clear hw6 hbx A5 N5
        refine (toBoxS_any t _ _ _ (ht.later N6) hnt).mono ?_
        rintro e w7 ⟨rfl, hR7, hb7⟩
        have N7 : Below w.heap.size w w7 := bstep N6 hb7
        have A7 := (hb7.block _ (Array.getElem?_eq_some_iff.1 A6).1).trans A6
        have X7 := (hb7.block _ (Array.getElem?_eq_some_iff.1 X5).1).trans X5
        have hc2 := hc2.later hb7
        have hOb := hOb.later hb7
        have hX7 := hX6.later hb7
        have hs67 := hb7.size
        have hz7 : w6.heap.size < w7.heap.size := by obtain ⟨f, hr, _⟩ := hR7; exact hr.lt
        have hz6 : w5.heap.size < w6.heap.size := (Array.getElem?_eq_some_iff.1 X5).1
        clear hb7 A6 X5 N6
        have x0 : w7.cell? ⟨w5.heap.size, 0, none⟩ = some (.int .i64 b2.now) := obj_cell X7 rfl
        have x1 : w7.cell? ⟨w5.heap.size, 1, none⟩ = some (.slice b2.fa b2.fl.length b2.fc) := obj_cell X7 rfl
        have x2 : w7.cell? ⟨w5.heap.size, 2, none⟩ = some (.slice b2.ha b2.hl.length b2.hc) := obj_cell X7 rfl
        go_wp2_with fail
        refine (implBars_copy hc2 hfl hsf hhl hft hR7 hnt).mono ?_
        rintro e w8 ⟨⟨vg, lg, rfl, hvg, hog⟩, hb8⟩
        have hll := hog.uniq HO.out
        subst hll
        clear hog
        have hOb := hOb.later hb8
        have hX8 := hX7.later hb8
        have N8 : Below w.heap.size w w8 := bstep N7 hb8
        have A8 := (hb8.block _ (Array.getElem?_eq_some_iff.1 A7).1).trans A7
        have X8 := (hb8.block _ (Array.getElem?_eq_some_iff.1 X7).1).trans X7
        have hc2 := hc2.later hb8
        have hR8 := hR7.later hb8
        clear x0 x1 x2 hb8 A7 X7 N7 hR7
        obtain ⟨ag, cg, rfl, _⟩ := hvg.xs
        go_wp2_with fail
        refine (eqSp_own hvg hX8 (by omega)).mono ?_
        rintro e w9 ⟨rfl, hb9⟩
        have N9 : Below w.heap.size w w9 := bstep N8 hb9
        have A9 := (hb9.block _ (Array.getElem?_eq_some_iff.1 A8).1).trans A8
        have X9 := (hb9.block _ (Array.getElem?_eq_some_iff.1 X8).1).trans X8
        have hc2 := hc2.later hb9
        have hOb := hOb.later hb9
        have hR9 := hR8.later hb9
        have hX9 := hX8.later hb9
        have hvg := hvg.later hb9
        clear hb9 N8 A8 X8 hR8 hX8 hX7 hX6 hX5 hX0
        have k0 : w9.cell? ⟨w.heap.size, 0, none⟩ = some (.int .i64 b.now) := obj_cell A9 rfl
        have k1 : w9.cell? ⟨w.heap.size, 1, none⟩ = some (.slice b.fa b.fl.length b.fc) := obj_cell A9 rfl
        have k2 : w9.cell? ⟨w.heap.size, 2, none⟩ = some (.slice b.ha b.hl.length b.hc) := obj_cell A9 rfl
        have x0 : w9.cell? ⟨w5.heap.size, 0, none⟩ = some (.int .i64 b2.now) := obj_cell X9 rfl
        have x1 : w9.cell? ⟨w5.heap.size, 1, none⟩ = some (.slice b2.fa b2.fl.length b2.fc) := obj_cell X9 rfl
        have x2 : w9.cell? ⟨w5.heap.size, 2, none⟩ = some (.slice b2.ha b2.hl.length b2.hc) := obj_cell X9 rfl
        go_wp2_with fail
        have hB9 : ∀ X, Below w9.heap.size w9 X → Below w.heap.size w X := fun X h => bstep N9 h
        go_region_with (first
          | (go_at_call 10; refine (toBook_any b _ (hf.later (hB9 _ (by repeat (first | exact Below.refl _ _ | refine Below.drew ?_)))) hfl (hh.later (hB9 _ (by repeat (first | exact Below.refl _ _ | refine Below.drew ?_)))) hhl (fun h m => ⟨(hin h m).later (hB9 _ (by repeat (first | exact Below.refl _ _ | refine Below.drew ?_))), hft h m⟩)).mono ?_; rintro e wt ⟨⟨b3, rfl, hc3⟩, hbt⟩; have hbt : Below w9.heap.size w9 wt := bstep (by repeat (first | exact Below.refl _ _ | refine Below.drew ?_)) hbt; have hc2 := hc2.later hbt; have Xt := (hbt.block _ (Array.getElem?_eq_some_iff.1 X9).1).trans X9; have x0 : wt.cell? ⟨w5.heap.size, 0, none⟩ = some (.int .i64 b2.now) := obj_cell Xt rfl; have x1 : wt.cell? ⟨w5.heap.size, 1, none⟩ = some (.slice b2.fa b2.fl.length b2.fc) := obj_cell Xt rfl; have x2 : wt.cell? ⟨w5.heap.size, 2, none⟩ = some (.slice b2.ha b2.hl.length b2.hc) := obj_cell Xt rfl)
          | (go_at_call 14; refine (eqBook_copy hc2 hc3 hfl hhl hft).mono ?_; rintro e wa ⟨rfl, hba⟩; have hba : Below w9.heap.size w9 wa := bstep hbt hba))
        all_goals
          clear x0 x1 x2 k0 k1 k2
          have Na := bstep N9 hba
          have Aa := (hba.block _ (Array.getElem?_eq_some_iff.1 A9).1).trans A9
          have Xa := (hba.block _ (Array.getElem?_eq_some_iff.1 X9).1).trans X9
          have hOba := hOb.later hba
          have hRa := hR9.later hba
          have hXa := hX9.later hba
          have hvga := hvg.later hba
          go_wp2_with fail
          refine (toBoxS_any t _ _ _ (ht.later Na) hnt).mono ?_
          rintro e wb ⟨rfl, hRb, hbb⟩
          have hRa' := hRa.later hbb
          go_wp2_with fail
          refine (eqBoxS_any t t _ _ _ _ _ (hRa'.bxs (Nat.le_refl _) (Nat.le_refl _)) (hRb.bxs (Nat.le_refl _) (Nat.le_refl _)) hnt hnt).mono ?_
          rintro e wc ⟨rfl, hbc⟩
          rw [eqL_refl]
          have hbc := bstep hbb hbc
          have Nc := bstep Na hbc
          have Ac := (hbc.block _ (Array.getElem?_eq_some_iff.1 Aa).1).trans Aa
          have Xc := (hbc.block _ (Array.getElem?_eq_some_iff.1 Xa).1).trans Xa
          have hObc := hOba.later hbc
          have hRc := hRa.later hbc
          have hXc := hXa.later hbc
          have hvgc := hvga.later hbc
          clear hbb hbc hRb hRa' Na Aa Xa hOba hRa hXa hvga hba
          have x0 : wc.cell? ⟨w5.heap.size, 0, none⟩ = some (.int .i64 b2.now) := obj_cell Xc rfl
          have x1 : wc.cell? ⟨w5.heap.size, 1, none⟩ = some (.slice b2.fa b2.fl.length b2.fc) := obj_cell Xc rfl
          have x2 : wc.cell? ⟨w5.heap.size, 2, none⟩ = some (.slice b2.ha b2.hl.length b2.hc) := obj_cell Xc rfl
          go_wp2_with fail
          refine (markBk_any _ b2 1 _ hObc (hc2.likes.fit hft) (by rw [hc2.fl]; exact hfl) (by rw [hc2.likes.len]; exact hhl) (by omega) (by omega)).mono ?_
          rintro e wd ⟨⟨r3, rfl, r30, r31⟩, hbd⟩
          have hw4 : w.heap.size < w4.heap.size := N4'
          have Nd := hbd.under Nc (Nat.le_refl _) (fun k hk => by omega)
          have Ad := (hbd.block _ (Array.getElem?_eq_some_iff.1 Ac).1 (fun hk => by omega)).trans Ac
          have hXd := xs_but hXc hlB hbd (fun k hk => hk.1)
          have hvgd := hvgc.but hbd (fun k hk => by omega)
          obtain ⟨fR, hRr, _⟩ := hRc
          have hRd := hRr.of_block (hbd.block _ hRr.lt (fun hk => by omega))
          clear x0 x1 x2 Nc Ac hXc hvgc hRr hbd Xc hObc
          go_wp2_with fail
          refine (markB_any _ _ w6.heap.size _ _ ⟨_, hRd⟩ hnt (by omega) (by omega)).mono ?_
          rintro e we ⟨rfl, _, hOe⟩
          have hbe : But (fun k => k = w6.heap.size) wd we := But.only hOe rfl
          have Ne := hbe.under Nd (Nat.le_refl _) (fun k hk => by have hk' : k = w6.heap.size := hk; omega)
          have Ae := (hbe.block _ (Array.getElem?_eq_some_iff.1 Ad).1 (fun hk => by have hk' : w.heap.size = w6.heap.size := hk; omega)).trans Ad
          have hXe := xs_but hXd hlB hbe (fun k hk => by have hk' : k = w6.heap.size := hk; omega)
          have hvge2 := hvgd.but hbe (fun k hk => by rw [hk]; exact hz7)
          clear Nd Ad hXd hvgd hRd hbe hOe
          have hdec : decide (r3 + 6 * (t.length : Int) < 0) = false := by simp; omega
          have hdec2 : decide ((1 : Int) + 2 * (lg.length : Int) < 0) = false := by simp; omega
          go_wp2_with fail
          refine (eqSp_own hvge2 hXe (by omega)).mono ?_
          rintro e wf ⟨rfl, hbf⟩
          have Nf := bstep Ne hbf
          have Af := (hbf.block _ (Array.getElem?_eq_some_iff.1 Ae).1).trans Ae
          have hXf := hXe.later hbf
          have hvgf := hvge2.later hbf
          clear Ne Ae hXe hvge2 hbf
          go_wp2_with fail
          refine (markSp_own hvgf (by omega)).mono ?_
          rintro e wg ⟨rfl, ⟨ao2, cap2, ev, hM⟩, hbg⟩
          cases ev
          have Ng := hbg.under Nf (Nat.le_refl _) (fun k hk => by have hk' : w7.heap.size ≤ k := hk; omega)
          have Ag := (hbg.block _ (Array.getElem?_eq_some_iff.1 Af).1 (fun hk => by have hk' : w7.heap.size ≤ w.heap.size := hk; omega)).trans Af
          have hXg := xs_but hXf hlB hbg (fun k hk => by have hk' : w7.heap.size ≤ k := hk; omega)
          clear Nf Af hXf hvgf hbg
          go_wp2_with fail
          refine (heldSp_any lg.length cg ag wg 1 hM (by omega) (by omega) (by omega)).mono ?_
          rintro e wg' ⟨rfl, hwg⟩
          subst hwg
          have k0 : wg'.cell? ⟨w.heap.size, 0, none⟩ = some (.int .i64 b.now) := obj_cell Ag rfl
          have k1 : wg'.cell? ⟨w.heap.size, 1, none⟩ = some (.slice b.fa b.fl.length b.fc) := obj_cell Ag rfl
          have k2 : wg'.cell? ⟨w.heap.size, 2, none⟩ = some (.slice b.ha b.hl.length b.hc) := obj_cell Ag rfl
          go_wp2_with fail
          refine (toBook_any b _ (hf.later Ng) hfl (hh.later Ng) hhl (fun h m => ⟨(hin h m).later Ng, hft h m⟩)).mono ?_
          rintro e wh ⟨⟨b4, rfl, hc4⟩, hbh⟩
          have Nh := bstep Ng hbh
          have hXh := hXg.later hbh
          have hMh := hM.later hbh
          clear k0 k1 k2 Ag Ng hXg hM hbh
          go_wp2_with fail
          refine (toBoxS_any t _ _ _ (ht.later Nh) hnt).mono ?_
          rintro e wi ⟨rfl, hRi, hbi⟩
          have Ni := bstep Nh hbi
          have hXi := hXh.later hbi
          have hMi := hMh.later hbi
          have hc4 := hc4.later hbi
          clear Nh hXh hMh hbi
          go_wp2_with fail
          refine (implBars_copy hc4 hfl hsf hhl hft hRi hnt).mono ?_
          rintro e wj ⟨⟨vh, lh, rfl, hvh, hoh⟩, hbj⟩
          have hll := hoh.uniq HO.out
          rw [hll] at hvh
          clear hoh hll
          obtain ⟨ah, ch, rfl, _⟩ := hvh.xs
          have Nj := bstep Ni hbj
          have hXj := hXi.later hbj
          have hMj := hMi.later hbj
          clear Ni hXi hMi hbj hRi hc4
          go_wp2_with fail
          refine (eqSp_own hvh hXj (by omega)).mono ?_
          rintro e wk ⟨rfl, hbk⟩
          have Nk := bstep Nj hbk
          have hMk := hMj.later hbk
          clear Nj hXj hMj hbk hvh
          go_wp2_with fail
          refine (heldSp_any lg.length cg ag wk 1 hMk (by omega) (by omega) (by omega)).mono ?_
          rintro e wk' ⟨rfl, hwk⟩
          subst hwk
          go_wp2_with fail
          go_ret
          exact ⟨rfl, Nk⟩
      · go_wp2_with fail
        go_ret
        exact ⟨rfl, N1⟩
    · go_wp2_with fail
      go_ret
      exact ⟨rfl, N1⟩
  · have e16 : decide ((1048576 : Int) < (nm.size : Int)) = true := by simp; omega
    go_enter Tryz.func3, Tryz.ntmps3
    go_wp2
    go_ret
    exact ⟨rfl, balloc (Below.refl _ _) _⟩
end Go.Proofs.YtficfhcmbhlagabGreat
