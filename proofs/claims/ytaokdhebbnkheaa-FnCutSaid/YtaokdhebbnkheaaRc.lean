import Derived.Test.YtaokdhebbnkheaaRs
import Derived.Test.YtaokdhebbnkheaaRu
namespace Go.Proofs.Ytaokdhebbnkheaa
open Go.RowKit Go.BigFrame Go.Shelf
attribute [local go_sem] Oper.semAt_some
theorem flatF_eq : ∀ l : List Fx, flatF l = flatX Fx.cells l
  | [] => rfl
  | f :: r => by rw [flatF, flatF_eq r]; rfl
theorem own_bxs {w : World} {base : Nat} {v : Value} {l : List Bx} (h : OwnBx w base v l) : ∃ ta tc, v = .slice ta l.length tc ∧ Bxs w ta l := by
  rcases h with ⟨rfl, rfl⟩ | ⟨g, cap, rfl, _, h3, h4⟩
  · exact ⟨none, 0, rfl, .inl rfl⟩
  · exact ⟨_, cap, rfl, h4.bxs (Nat.le_refl _) h3⟩
theorem OwnBx.but {w w' : World} {R base : Nat} {v : Value} {l : List Bx} (h : OwnBx w base v l) (hb : ButR R w w') (hR : R < base) : OwnBx w' base v l := by
  rcases h with h | ⟨g, cap, h1, h2, h3, f, hr, hf⟩
  · exact .inl h
  · exact .inr ⟨g, cap, h1, h2, h3, f, hr.of_block (hb.block _ hr.lt (by omega)), hf⟩
/-- Runways that were drawn. -/
structure FldsD (w : World) (base : Nat) (v : Value) (fl : List Fx) : Prop where
  own : w.ownsRow base 56 3 v fl.length (flatF fl)
  l2 : 2 ≤ fl.length
  l3 : fl.length ≤ 3
  near : ∀ f ∈ fl, cellN ⟨f.x, f.y⟩
theorem FldsD.but {w w' : World} {R base : Nat} {v : Value} {fl : List Fx} (h : FldsD w base v fl) (hb : ButR R w w') (hR : R < base) : FldsD w' base v fl := ⟨own_but h.own hb hR, h.l2, h.l3, h.near⟩
theorem FldsD.form {w : World} {base R : Nat} {v : Value} {fl : List Fx} (h : FldsD w base v fl) (hR : R < base) : ∃ fa fc, v = .slice fa fl.length fc ∧ Xs 3 Fx.cells w fa fl ∧ ∀ bl off, fa = some ⟨bl, off, none⟩ → bl ≠ R := by
  have ho := h.own
  rw [flatF_eq] at ho
  obtain ⟨fa, fc, rfl⟩ := own_slice ho
  refine ⟨fa, fc, rfl, own_xs Fx.cells_length ho, fun bl off e => ?_⟩
  subst e
  obtain ⟨_, ⟨hv, _⟩ | ⟨g, c', cur, hv, hb, _⟩⟩ := ho
  · cases hv
  · cases hv; omega
theorem fields_near (R n cap : Nat) (ao : Option Addr) (p : Int) (w : World) (h : Rd w R ao n cap p) (hp : p ≤ 999000) :
    Calls Try.prog 14 #[.pointer (some ⟨R, 0, none⟩)] w fun e w' => (∃ v fl, e = .returned v ∧ FldsD w' w.heap.size v fl) ∧ (∃ p', p' ≤ p + 6 ∧ Rd w' R ao n cap p') ∧ ButR R w w' :=
  (fields_any R n cap ao p w h hp).mono fun _ _ ⟨⟨v, l, he, ho, h2, h3, hf⟩, hr, hb⟩ => ⟨⟨v, l, he, ho, h2, h3, fun f hfm => by
    obtain ⟨_, a, b, c, d⟩ := hf f hfm
    show -100 ≤ f.x ∧ f.x ≤ 100 ∧ -100 ≤ f.y ∧ f.y ≤ 100
    omega⟩, hr, hb⟩
set_option maxRecDepth 100000 in
set_option maxHeartbeats 4000000 in
theorem drawTube_any (n cap : Nat) (ao : Option Addr) (w : World) (h : Bytes w ao n) (hn : n ≤ 1048576) (hc : n ≤ cap) (hc2 : cap ≤ 9223372036854775807) :
    Calls Try.prog 4 #[.slice ao n cap] w fun e w' => (∃ fa fl fc ta l tc, e = .returned (.tuple #[.slice fa fl.length fc, .slice ta l.length tc]) ∧ Xs 3 Fx.cells w' fa fl ∧ fl.length ≤ 3 ∧ Bxs w' ta l ∧ l.length ≤ 1100) ∧ Below w.heap.size w w' := by
  go_enter Try.func4, Try.ntmps4
  go_wp2_with fail
  refine (open_any n cap ao w h hn hc hc2).mono ?_
  rintro e w1 ⟨rfl, hb1, m, hr1⟩
  obtain ⟨R, hR⟩ : ∃ R, R = w.heap.size := ⟨_, rfl⟩
  rw [← hR] at hr1 ⊢
  have hR1 := hr1.lt
  have hfin : ∀ W, ButR R w1 W → Below w.heap.size w W := fun W hW => by rw [← hR]; exact hW.under (by rw [hR]; exact hb1) (by omega) (Nat.le_refl _)
  have HFin : Hid (∀ W, ButR R w1 W → Below w.heap.size w W) := hfin
  clear hfin hR hb1
  go_wp2_with fail
  refine (fields_near R m cap ao 0 w1 hr1 (by omega)).mono ?_
  rintro e w2 ⟨⟨v, fl, rfl, hF⟩, ⟨p2, hp2, hr2⟩, T2⟩
  obtain ⟨fa, fc, rfl, hX, hne⟩ := hF.form hR1
  have hl2 := hF.l2
  have hl3 := hF.l3
  have hnear := hF.near
  have hb3 : Below w2.heap.size w2 (w2.alloc (.cells #[.int .i64 0, .slice fa fl.length fc, .slice none 0 0] 38)) := balloc (Below.refl _ _) _
  have hs2 := T2.size
  have hr3 := hr2.later (hb3.mono (by omega))
  have hX3 := hX.later hb3
  have HT3 : Hid (ButR R w1 (w2.alloc (.cells #[.int .i64 0, .slice fa fl.length fc, .slice none 0 0] 38))) := T2.trans (ButR.below hb3)
  have HF3 : Hid (FldsD (w2.alloc (.cells #[.int .i64 0, .slice fa fl.length fc, .slice none 0 0] 38)) w1.heap.size (.slice fa fl.length fc) fl) := hF.but (ButR.below (R := R) hb3) hR1
  have HC3 : Hid ((w2.alloc (.cells #[.int .i64 0, .slice fa fl.length fc, .slice none 0 0] 38)).cell? ⟨w2.heap.size, 1, none⟩ = some (.slice fa fl.length fc)) := objR (World.alloc_heap_new w2 _) rfl
  have HN : Hid (∀ f ∈ fl, cellN ⟨f.x, f.y⟩) := hnear
  clear hF hX T2 hr2 hb3 hnear
  go_wp2_with fail
  refine (tube2_nil R m cap ao p2 0 fl fa fc _ hr3 (by omega) (by omega) (by omega) hX3 (by omega) (by omega) hne HN.out).mono ?_
  rintro e w4 ⟨⟨tv, l, rfl, hO, hl⟩, ⟨p4, hp4, hr4⟩, T4⟩
  have HF4 : Hid _ := HF3.out.but T4 hR1
  have hc4 := T4.cell (p := ⟨w2.heap.size, 1, none⟩) (by show w2.heap.size ≠ R; omega) HC3.out
  have T14 : ButR R w1 w4 := HT3.out.trans T4
  clear HF3 HC3 HT3 T4 hr3 hX3
  go_wp2_with fail
  refine (pick_rd R m cap ao p4 _ _ hr4 (by omega) (by omega)).mono ?_
  rintro e w5 ⟨⟨r, rfl, r0, r1, -⟩, hr5, T5⟩
  have hc5 := T5.cell (p := ⟨w2.heap.size, 1, none⟩) (by show w2.heap.size ≠ R; omega) hc4
  have HF5 : Hid _ := HF4.out.but T5 hR1
  have hO5 := (hO.weak' (base' := R + 1) (by simp; omega)).but T5 (Nat.lt_succ_self R)
  have T15 : ButR R w1 w5 := T14.trans T5
  obtain ⟨ta, tc, rfl, hB5⟩ := own_bxs hO5
  clear HF4 hO T14 T5 hr4 hc4 hO5
  by_cases hz : r = 0
  · subst hz
    go_wp2_with fail
    refine (spoil_any R m cap ao _ l ta tc w5 hr5 (by omega) hB5 (by omega)).mono ?_
    rintro e w6 ⟨⟨tv, l', rfl, hO6, hl6⟩, -, T6⟩
    obtain ⟨ta', tc', rfl, hB6⟩ := own_bxs hO6
    have hc6 := T6.cell (p := ⟨w2.heap.size, 1, none⟩) (by show w2.heap.size ≠ R; omega) hc5
    have HF6 : Hid _ := HF5.out.but T6 hR1
    have HT : Hid _ := T15.trans T6
    have HB6 : Hid _ := hB6
    clear hB6 T6 T15 HF5 hO6 hB5 hr5 hc5
    go_wp2
    obtain ⟨fa', fc', he, hX6, -⟩ := HF6.out.form hR1
    cases he
    exact bodyPost_ret (v := .tuple #[.slice fa fl.length fc, .slice ta' l'.length tc']) (by simp [results, Try.results4, go_sem]) rfl ⟨⟨fa, fl, fc, ta', l', tc', rfl, hX6, hl3, HB6.out, hl6⟩, HFin.out _ HT.out⟩
  · have hzb : (r == 0) = false := by simp [hz]
    have HB5 : Hid _ := hB5
    have HT : Hid _ := T15
    clear hB5 T15 hr5
    go_wp2
    obtain ⟨fa', fc', he, hX6, -⟩ := HF5.out.form hR1
    cases he
    exact bodyPost_ret (v := .tuple #[.slice fa fl.length fc, .slice ta l.length tc]) (by simp [results, Try.results4, go_sem]) rfl ⟨⟨fa, fl, fc, ta, l, tc, rfl, hX6, hl3, HB5.out, by omega⟩, HFin.out _ HT.out⟩
end Go.Proofs.Ytaokdhebbnkheaa
