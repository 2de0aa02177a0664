import Derived.Test.YtaokdhebbnkheaaRc
namespace Go.Proofs.Ytaokdhebbnkheaa
open Go.RowKit Go.BigFrame Go.Shelf
attribute [local go_sem] Oper.semAt_some
/-- What holds behind the first of those that turn the world, in DrawGiveCut's one statement. -/
structure DcS (w : World) (R n cap : Nat) (ao : Option Addr) (k : Nat) (vs : Nat → Value) (wx : World) : Prop where
  rd : ∃ p', p' ≤ 2000 * (k : Int) ∧ Rd wx R ao n cap p'
  but : ButR R w wx
  f2 : k = 1 → ∃ fl, FldsD wx w.heap.size (vs 2) fl
  f3 : k = 2 → ∃ fa fl fc, vs 3 = .agg #[.int .i64 0, .slice fa fl.length fc, .slice none 0 0] ∧ FldsD wx w.heap.size (.slice fa fl.length fc) fl
  f4 : 3 ≤ k → ∃ l, OwnBx wx w.heap.size (vs 4) l ∧ l.length ≤ 40
  f6 : 4 ≤ k → ∃ r, vs 6 = .int .i64 r
  f8 : 5 ≤ k → ∃ r, vs 8 = .int .i64 r
  f11 : k = 6 → ∃ r, vs 11 = .int .i64 r ∧ 0 ≤ r ∧ r < 4
  f12 : k = 7 → ∃ bl o z, vs 12 = .pointer (some ⟨bl, o, none⟩) ∧ wx.cell? ⟨bl, o, none⟩ = some (.int .i64 z)
  f13 : k = 8 → ∃ z, vs 13 = .int .i64 z
  f15 : k = 9 → (∃ z, vs 15 = .int .i64 z) ∧ ∃ l, OwnBx wx w.heap.size (vs 14) l ∧ l.length ≤ 40
theorem DcS.slot {w wx : World} {R n cap : Nat} {ao : Option Addr} {k j : Nat} {v : Value} {vs : Nat → Value} (h : DcS w R n cap ao k vs wx) (hj : j ∉ [2, 3, 4, 6, 8, 11, 12, 13, 15, 14]) : DcS w R n cap ao k (upd vs j v) wx := by
  have e : ∀ i ∈ [2, 3, 4, 6, 8, 11, 12, 13, 15, 14], upd vs j v i = vs i := fun i hi => by
    have : i ≠ j := fun e => hj (e ▸ hi)
    simp [upd, this]
  refine ⟨h.rd, h.but, ?_, ?_, ?_, ?_, ?_, ?_, ?_, ?_, ?_⟩
  · rw [e 2 (by simp)]; exact h.f2
  · rw [e 3 (by simp)]; exact h.f3
  · rw [e 4 (by simp)]; exact h.f4
  · rw [e 6 (by simp)]; exact h.f6
  · rw [e 8 (by simp)]; exact h.f8
  · rw [e 11 (by simp)]; exact h.f11
  · rw [e 12 (by simp)]; exact h.f12
  · rw [e 13 (by simp)]; exact h.f13
  · rw [e 15 (by simp), e 14 (by simp)]; exact h.f15
theorem DcS.upd14 {w wx : World} {R n cap : Nat} {ao : Option Addr} {k : Nat} {v : Value} {vs : Nat → Value} (h : DcS w R n cap ao k vs wx) (hk : k < 9) : DcS w R n cap ao k (upd vs 14 v) wx :=
  ⟨h.rd, h.but, h.f2, h.f3, h.f4, h.f6, h.f8, h.f11, h.f12, h.f13, fun e => by omega⟩
theorem DcS.alloc {w wx : World} {R n cap : Nat} {ao : Option Addr} {k : Nat} {vs : Nat → Value} (h : DcS w R n cap ao k vs wx) (hR : R < w.heap.size) (o : Obj) : DcS w R n cap ao k vs (wx.alloc o) := by
  have hb : Below wx.heap.size wx (wx.alloc o) := balloc (Below.refl _ _) _
  have hB : ButR R wx (wx.alloc o) := ButR.below hb
  obtain ⟨p, hp, hr⟩ := h.rd
  refine ⟨⟨p, hp, hr.later (hb.mono (by have := h.but.size; omega))⟩, h.but.trans hB, fun e => ?_, fun e => ?_, fun e => ?_, h.f6, h.f8, h.f11, fun e => ?_, h.f13, fun e => ?_⟩
  · obtain ⟨fl, hf⟩ := h.f2 e; exact ⟨fl, hf.but hB hR⟩
  · obtain ⟨fa, fl, fc, h1, hf⟩ := h.f3 e; exact ⟨fa, fl, fc, h1, hf.but hB hR⟩
  · obtain ⟨l, h1, h2⟩ := h.f4 e; exact ⟨l, h1.but hB hR, h2⟩
  · obtain ⟨bl, o', z, h1, h2⟩ := h.f12 e; exact ⟨bl, o', z, h1, (hb.cell (cell_lt h2)).trans h2⟩
  · obtain ⟨h0, l, h1, h2⟩ := h.f15 e; exact ⟨h0, l, h1.but hB hR, h2⟩
/-- The state behind a pick. -/
theorem DcS.pick {w wx w1 : World} {R n cap : Nat} {ao : Option Addr} {k i : Nat} {v : Value} {p1 : Int} {vs : Nat → Value} (h : DcS w R n cap ao k vs wx) (hR : R < w.heap.size) (hb : ButR R wx w1) (hr : Rd w1 R ao n cap p1) (hp : p1 ≤ 2000 * ((k : Int) + 1)) (h3 : 3 ≤ k)
    (h6 : k + 1 = 4 → i = 6 ∧ ∃ r, v = .int .i64 r) (h8 : k + 1 = 5 → i = 8 ∧ ∃ r, v = .int .i64 r) (h11 : k + 1 = 6 → i = 11 ∧ ∃ r, v = .int .i64 r ∧ 0 ≤ r ∧ r < 4) (hk : k + 1 ≤ 6) : DcS w R n cap ao (k + 1) (upd vs i v) w1 := by
  have hi : i = 6 ∨ i = 8 ∨ i = 11 := by
    rcases Nat.lt_or_ge k 4 with h | h
    · exact .inl (h6 (by omega)).1
    · rcases Nat.lt_or_ge k 5 with h' | h'
      · exact .inr (.inl (h8 (by omega)).1)
      · exact .inr (.inr (h11 (by omega)).1)
  refine ⟨⟨p1, by push_cast; omega, hr⟩, h.but.trans hb, fun e => by omega, fun e => by omega, fun _ => ?_, fun _ => ?_, fun _ => ?_, fun e => ?_, fun e => by omega, fun e => by omega, fun e => by omega⟩
  · obtain ⟨l, h1, h2⟩ := h.f4 h3
    refine ⟨l, ?_, h2⟩
    have : upd vs i v 4 = vs 4 := by rcases hi with rfl | rfl | rfl <;> simp [upd]
    rw [this]; exact h1.but hb hR
  · by_cases e : k + 1 = 4
    · obtain ⟨rfl, r, hr⟩ := h6 e; exact ⟨r, by simp [upd, hr]⟩
    · obtain ⟨r, hr⟩ := h.f6 (by omega)
      have : i ≠ 6 := by
        rcases Nat.lt_or_ge k 5 with h' | h'
        · rw [(h8 (by omega)).1]; decide
        · rw [(h11 (by omega)).1]; decide
      exact ⟨r, by simp [upd, Ne.symm this, hr]⟩
  · by_cases e : k + 1 = 5
    · obtain ⟨rfl, r, hr⟩ := h8 e; exact ⟨r, by simp [upd, hr]⟩
    · obtain ⟨r, hr⟩ := h.f8 (by omega)
      have : i ≠ 8 := by rw [(h11 (by omega)).1]; decide
      exact ⟨r, by simp [upd, Ne.symm this, hr]⟩
  · obtain ⟨rfl, r, hr, h0, h1⟩ := h11 e
    exact ⟨r, by simp [upd, hr], h0, h1⟩
def Pc (R : Nat) : Nat → Value → Prop
  | 0, v => v = .pointer (some ⟨R, 0, none⟩)
  | 1, v => v = .pointer (some ⟨R, 0, none⟩)
  | 5, v => v = .pointer (some ⟨R, 0, none⟩)
  | 7, v => v = .pointer (some ⟨R, 0, none⟩)
  | 10, v => v = .pointer (some ⟨R, 0, none⟩)
  | _, _ => True
structure PcW (R base : Nat) (j : Nat) (v : Value) (w : World) : Prop where
  p : Pc R j v
  a : j = 9 → Arr 4 R v w
  t : j = 14 → ∃ l, OwnBx w base v l ∧ l.length ≤ 40
set_option maxRecDepth 100000 in
set_option maxHeartbeats 4000000 in
theorem drawCut_any (n cap : Nat) (ao : Option Addr) (w : World) (h : Bytes w ao n) (hn : n ≤ 1048576) (hc : n ≤ cap) (hc2 : cap ≤ 9223372036854775807) :
    Calls Try.prog 7 #[.slice ao n cap] w fun e w' => (∃ ta l tc z, e = .returned (.tuple #[.slice ta l.length tc, .int .i64 z]) ∧ Bxs w' ta l ∧ l.length ≤ 40) ∧ Below w.heap.size w w' := by
  go_enter Try.func7, Try.ntmps7
  go_wp2_with fail
  refine (open_any n cap ao w h hn hc hc2).mono ?_
  rintro e w1 ⟨rfl, hb1, m, hr1⟩
  obtain ⟨R, hR0⟩ : ∃ R, R = w.heap.size := ⟨_, rfl⟩
  rw [← hR0] at hr1 ⊢
  have hR := hr1.lt
  have HFin : Hid (∀ W, ButR R w1 W → Below w.heap.size w W) := fun W hW => by rw [← hR0]; exact hW.under (by rw [hR0]; exact hb1) (by omega) (Nat.le_refl _)
  clear hR0 hb1
  have HR1 : Hid _ := hr1
  clear hr1
  go_upto_region 2 with fail
  refine wpIn_wide.1 (wpIn_region_chain2 (F := Fence.wide) (n := 0) (by kernel_rfl) [some 7, some 8, some 9, some 10, some 11, some 12, some 13, some 14, some 15, some 16, some 17, some 18, some 19, some 20, some 2, some 3] 18 [2, 3, 4, 6, 8, 11, 12, 13, 15] (DcS w1 R m cap ao) (PcW R w1.heap.size) (ButR R) (fun j v w1 w2 h hb => ⟨h.p, fun e => (h.a e).later hb, fun e => by obtain ⟨l, h1, h2⟩ := h.t e; exact ⟨l, h1.but hb hR, h2⟩⟩) (by kernel_rfl) (by kernel_rfl) (by decide) (by decide) ?h0 ?read ?eff ?fin ?last (by decide))
  case last => kernel_rfl
  case h0 =>
    refine ⟨⟨0, by omega, HR1.out.later (Below.refl _ _).drew⟩, (ButR.refl R w1).drew 1, fun e => by omega, fun e => by omega, fun e => by omega, fun e => by omega, fun e => by omega, fun e => by omega, fun e => by omega, fun e => by omega, fun e => by omega⟩
  case read =>
    intro j o kk vs w' ho hc' hk hnw hS hde
    have hj : j < 16 := (List.getElem?_eq_some_iff.1 ho).1
    have HSS : Hid (DcS w1 R m cap ao kk vs w') := hS
    clear hS hnw
    match j, hj with
    | 0, _ =>
      simp at ho
      subst ho
      clear hde
      simp only [putD, Act.put]
      gi_wp2
      exact ⟨.pointer (some ⟨R, 0, none⟩), by simp [upd], HSS.out.slot (by decide), ButR.refl _ _, rfl, fun e => absurd e (by decide), fun e => absurd e (by decide)⟩
    | 1, _ =>
      simp at ho
      subst ho
      clear hde
      simp only [putD, Act.put]
      gi_wp2
      exact ⟨.pointer (some ⟨R, 0, none⟩), by simp [upd], HSS.out.slot (by decide), ButR.refl _ _, rfl, fun e => absurd e (by decide), fun e => absurd e (by decide)⟩
    | 2, _ => exact absurd hc' (by decide)
    | 3, _ => exact absurd hc' (by decide)
    | 4, _ => exact absurd hc' (by decide)
    | 5, _ =>
      simp at ho
      subst ho
      clear hde
      simp only [putD, Act.put]
      gi_wp2
      exact ⟨.pointer (some ⟨R, 0, none⟩), by simp [upd], HSS.out.slot (by decide), ButR.refl _ _, rfl, fun e => absurd e (by decide), fun e => absurd e (by decide)⟩
    | 6, _ => exact absurd hc' (by decide)
    | 7, _ =>
      simp at ho
      subst ho
      clear hde
      simp only [putD, Act.put]
      gi_wp2
      exact ⟨.pointer (some ⟨R, 0, none⟩), by simp [upd], HSS.out.slot (by decide), ButR.refl _ _, rfl, fun e => absurd e (by decide), fun e => absurd e (by decide)⟩
    | 8, _ => exact absurd hc' (by decide)
    | 9, _ =>
      simp at ho
      subst ho
      have hk5 : 5 ≤ kk := by
        have h8 := (hde { on := 8, ground := Ground.data } (by simp) rfl).2 (by decide)
        rcases Nat.lt_or_ge kk 5 with h' | h'
        · exfalso
          match kk, h' with
          | 0, _ => simp at h8
          | 1, _ => simp at h8
          | 2, _ => simp at h8
          | 3, _ => simp at h8
          | 4, _ => simp at h8
        · exact h'
      obtain ⟨r6, e6⟩ := HSS.out.f6 (by omega)
      obtain ⟨r8, e8⟩ := HSS.out.f8 (by omega)
      have hsz := HSS.out.but.size
      clear hde
      simp only [putD, Act.put]
      rw [e6, e8]
      gi_wp2
      exact ⟨.slice (some ⟨w'.heap.size, 0, none⟩) 4 4, by simp [upd, e6, e8], (HSS.out.alloc hR _).slot (by decide), ButR.below (balloc (Below.refl _ _) _), trivial, fun _ => arr4 w' R (by omega) r6 r8 (-5) 10000 _, fun e => absurd e (by decide)⟩
    | 10, _ =>
      simp at ho
      subst ho
      clear hde
      simp only [putD, Act.put]
      gi_wp2
      exact ⟨.pointer (some ⟨R, 0, none⟩), by simp [upd], HSS.out.slot (by decide), ButR.refl _ _, rfl, fun e => absurd e (by decide), fun e => absurd e (by decide)⟩
    | 11, _ => exact absurd hc' (by decide)
    | 12, _ => exact absurd hc' (by decide)
    | 13, _ => exact absurd hc' (by decide)
    | 14, _ =>
      simp at ho
      subst ho
      have hk3 : 3 ≤ kk := by
        have h8 := (hde { on := 4, ground := Ground.data } (by simp) rfl).2 (by decide)
        rcases Nat.lt_or_ge kk 3 with h' | h'
        · exfalso
          match kk, h' with
          | 0, _ => simp at h8
          | 1, _ => simp at h8
          | 2, _ => simp at h8
        · exact h'
      have H4 : Hid _ := HSS.out.f4 hk3
      clear hde
      simp only [putD, Act.put]
      gi_wp2
      exact ⟨vs 4, by simp [upd], HSS.out.upd14 hk, ButR.refl _ _, trivial, fun e => absurd e (by decide), fun _ => H4.out⟩
    | 15, _ => exact absurd hc' (by decide)
    | q + 16, h => exact absurd h (by omega)
  case eff =>
    intro kk i o vs w' hi ho hS hde
    match kk with
    | 0 =>
      simp at hi
      subst hi
      simp at ho
      subst ho
      have d1 : vs 1 = _ := (hde { on := 1, ground := Ground.data } (by simp) rfl (by decide)).p
      obtain ⟨p1, hp1, hr1⟩ := hS.rd
      have hB0 := hS.but
      clear hde hS
      simp only [putD, Act.put]
      rw [d1]
      gi_wp2_with fail
      refine ⟨trivial, rfl, ?_⟩
      refine (callsIn_wide.2 (fields_near R m cap ao p1 w' hr1 (by omega))).mono ?_
      rintro e w2 ⟨⟨v, fl, rfl, hF⟩, ⟨p2, hp2, hr2⟩, T2⟩
      have HF : Hid (FldsD w2 w1.heap.size v fl) := ⟨own_weak hF.own hB0.size, hF.l2, hF.l3, hF.near⟩
      clear hF
      gi_wp2
      exact ⟨v, by simp [upd, d1], ⟨⟨p2, by omega, hr2⟩, hB0.trans T2, fun _ => ⟨fl, by simp [upd]; exact HF.out⟩, fun e => by omega, fun e => by omega, fun e => by omega, fun e => by omega, fun e => by omega, fun e => by omega, fun e => by omega, fun e => by omega⟩, fun _ => T2⟩
    | 1 =>
      simp at hi
      subst hi
      simp at ho
      subst ho
      obtain ⟨fl, hF⟩ := hS.f2 rfl
      obtain ⟨fa, fc, e2, -, -⟩ := hF.form hR
      rw [e2] at hF
      have HF : Hid _ := hF
      have HS : Hid _ := hS
      clear hS hde hF
      simp only [putD, Act.put]
      rw [e2]
      gi_wp2
      refine ⟨.agg #[.int .i64 0, .slice fa fl.length fc, .slice none 0 0], by simp [upd, e2], ⟨?_, HS.out.but, fun e => by omega, fun _ => ⟨fa, fl, fc, by simp [upd], HF.out⟩, fun e => by omega, fun e => by omega, fun e => by omega, fun e => by omega, fun e => by omega, fun e => by omega, fun e => by omega⟩, by first | exact ButR.refl _ _ | exact fun _ => ButR.refl _ _⟩
      obtain ⟨p1, hp1, hr1⟩ := HS.out.rd
      exact ⟨p1, by omega, hr1⟩
    | 2 =>
      simp at hi
      subst hi
      simp at ho
      subst ho
      have d0 : vs 0 = _ := (hde { on := 0, ground := Ground.data } (by simp) rfl (by decide)).p
      obtain ⟨fa, fl, fc, e3, hF⟩ := hS.f3 rfl
      obtain ⟨fa', fc', e', hX, hne⟩ := hF.form hR
      cases e'
      obtain ⟨p1, hp1, hr1⟩ := hS.rd
      have hB0 := hS.but
      have hl2 := hF.l2
      have hl3 := hF.l3
      have HN : Hid _ := hF.near
      clear hde hS hF
      simp only [putD, Act.put]
      rw [d0, e3]
      gi_wp2_with fail
      refine ⟨trivial, rfl, ?_⟩
      refine (callsIn_wide.2 (tube2_nil R m cap ao p1 0 fl fa fc w' hr1 (by omega) (by omega) (by omega) hX (by omega) (by omega) hne HN.out)).mono ?_
      rintro e w2 ⟨⟨v, l, rfl, hO, hl⟩, ⟨p2, hp2, hr2⟩, T2⟩
      have HO : Hid _ := hO.weak' hB0.size
      clear hO hX
      gi_wp2
      exact ⟨v, by simp [upd, d0, e3], ⟨⟨p2, by omega, hr2⟩, hB0.trans T2, fun e => by omega, fun e => by omega, fun _ => ⟨l, by simp [upd]; exact HO.out, hl⟩, fun e => by omega, fun e => by omega, fun e => by omega, fun e => by omega, fun e => by omega, fun e => by omega⟩, fun _ => T2⟩
    | 3 =>
      simp at hi
      subst hi
      simp at ho
      subst ho
      have dm : vs 5 = _ := (hde { on := 5, ground := Ground.data } (by simp) rfl (by decide)).p
      obtain ⟨p1, hp1, hr1⟩ := hS.rd
      have HS : Hid (DcS w1 R m cap ao 3 vs w') := hS
      clear hS hde
      simp only [putD, Act.put]
      rw [dm]
      gi_wp2_with fail
      refine ⟨trivial, rfl, ?_⟩
      refine (callsIn_wide.2 (pick_rd R m cap ao p1 60 w' hr1 (by omega) (by omega))).mono ?_
      rintro e w2 ⟨⟨r, rfl, r0, r1, -⟩, hr2, T2⟩
      replace r1 := r1 (by omega)
      have HN : Hid _ := HS.out.pick (i := 6) (v := .int .i64 r) hR T2 hr2 (by omega) (by omega) (fun _ => ⟨rfl, r, rfl⟩) (fun e => by omega) (fun e => by omega) (by omega)
      clear HS hr1
      gi_wp2
      exact ⟨.int .i64 r, by simp [upd, dm], HN.out, fun _ => T2⟩
    | 4 =>
      simp at hi
      subst hi
      simp at ho
      subst ho
      have dm : vs 7 = _ := (hde { on := 7, ground := Ground.data } (by simp) rfl (by decide)).p
      obtain ⟨p1, hp1, hr1⟩ := hS.rd
      have HS : Hid (DcS w1 R m cap ao 4 vs w') := hS
      clear hS hde
      simp only [putD, Act.put]
      rw [dm]
      gi_wp2_with fail
      refine ⟨trivial, rfl, ?_⟩
      refine (callsIn_wide.2 (pick_rd R m cap ao p1 60 w' hr1 (by omega) (by omega))).mono ?_
      rintro e w2 ⟨⟨r, rfl, r0, r1, -⟩, hr2, T2⟩
      replace r1 := r1 (by omega)
      have HN : Hid _ := HS.out.pick (i := 8) (v := .int .i64 r) hR T2 hr2 (by omega) (by omega) (fun e => by omega) (fun _ => ⟨rfl, r, rfl⟩) (fun e => by omega) (by omega)
      clear HS hr1
      gi_wp2
      exact ⟨.int .i64 r, by simp [upd, dm], HN.out, fun _ => T2⟩
    | 5 =>
      simp at hi
      subst hi
      simp at ho
      subst ho
      have dm : vs 10 = _ := (hde { on := 10, ground := Ground.data } (by simp) rfl (by decide)).p
      obtain ⟨p1, hp1, hr1⟩ := hS.rd
      have HS : Hid (DcS w1 R m cap ao 5 vs w') := hS
      clear hS hde
      simp only [putD, Act.put]
      rw [dm]
      gi_wp2_with fail
      refine ⟨trivial, rfl, ?_⟩
      refine (callsIn_wide.2 (pick_rd R m cap ao p1 4 w' hr1 (by omega) (by omega))).mono ?_
      rintro e w2 ⟨⟨r, rfl, r0, r1, -⟩, hr2, T2⟩
      replace r1 := r1 (by omega)
      have HN : Hid _ := HS.out.pick (i := 11) (v := .int .i64 r) hR T2 hr2 (by omega) (by omega) (fun e => by omega) (fun e => by omega) (fun _ => ⟨rfl, r, rfl, r0, r1⟩) (by omega)
      clear HS hr1
      gi_wp2
      exact ⟨.int .i64 r, by simp [upd, dm], HN.out, fun _ => T2⟩
    | 6 =>
      simp at hi
      subst hi
      simp at ho
      subst ho
      have dA := (hde { on := 9, ground := Ground.data } (by simp) rfl (by decide)).a rfl
      obtain ⟨r, dr, r0, r1⟩ := hS.f11 rfl
      obtain ⟨b, eb, hbR, hbc⟩ := dA
      obtain ⟨i, rfl⟩ := Int.eq_ofNat_of_zero_le r0
      obtain ⟨z, hz⟩ := hbc i (by omega)
      have HS : Hid (DcS w1 R m cap ao 6 vs w') := hS
      clear hS hde hbc
      simp only [putD, Act.put]
      rw [eb, dr]
      gi_wp2
      refine ⟨.pointer (some ⟨b, i, none⟩), by simp [upd, eb, dr], ⟨?_, HS.out.but, fun e => by omega, fun e => by omega, fun _ => by simpa [upd] using HS.out.f4 (by omega), fun _ => by simpa [upd] using HS.out.f6 (by omega), fun _ => by simpa [upd] using HS.out.f8 (by omega), fun e => by omega, fun _ => ⟨b, i, z, by simp [upd], hz⟩, fun e => by omega, fun e => by omega⟩, by first | exact ButR.refl _ _ | exact fun _ => ButR.refl _ _⟩
      obtain ⟨p1, hp1, hr1⟩ := HS.out.rd
      exact ⟨p1, by omega, hr1⟩
    | 7 =>
      simp at hi
      subst hi
      simp at ho
      subst ho
      obtain ⟨b, o', z, dp, hz⟩ := hS.f12 rfl
      have HS : Hid (DcS w1 R m cap ao 7 vs w') := hS
      clear hS hde
      simp only [putD, Act.put]
      rw [dp]
      gi_wp2
      refine ⟨.int .i64 z, by simp [upd, dp], ⟨?_, HS.out.but, fun e => by omega, fun e => by omega, fun _ => by simpa [upd] using HS.out.f4 (by omega), fun _ => by simpa [upd] using HS.out.f6 (by omega), fun _ => by simpa [upd] using HS.out.f8 (by omega), fun e => by omega, fun e => by omega, fun _ => ⟨z, by simp [upd]⟩, fun e => by omega⟩, by first | exact ButR.refl _ _ | exact fun _ => ButR.refl _ _⟩
      obtain ⟨p1, hp1, hr1⟩ := HS.out.rd
      exact ⟨p1, by omega, hr1⟩
    | 8 =>
      simp at hi
      subst hi
      simp at ho
      subst ho
      have dT := (hde { on := 14, ground := Ground.chain } (by simp) rfl (by decide)).t rfl
      obtain ⟨z, dz⟩ := hS.f13 rfl
      have HS : Hid (DcS w1 R m cap ao 8 vs w') := hS
      have HT : Hid _ := dT
      clear hS hde dT
      simp only [putD, Act.put]
      rw [dz]
      gi_wp2
      refine ⟨.int .i64 z, by simp [upd, dz], ⟨?_, HS.out.but, fun e => by omega, fun e => by omega, fun _ => by simpa [upd] using HS.out.f4 (by omega), fun _ => by simpa [upd] using HS.out.f6 (by omega), fun _ => by simpa [upd] using HS.out.f8 (by omega), fun e => by omega, fun e => by omega, fun e => by omega, fun _ => ⟨⟨z, by simp [upd]⟩, by simpa [upd] using HT.out⟩⟩⟩
      obtain ⟨p1, hp1, hr1⟩ := HS.out.rd
      exact ⟨p1, by omega, hr1⟩
    | kk + 9 => simp at hi
  case fin =>
    intro vs w' hS
    obtain ⟨⟨z, ez⟩, l, hO, hl⟩ := hS.f15 rfl
    have HB : Hid _ := HFin.out _ hS.but
    clear hS
    obtain ⟨ta, tc, et, hB⟩ := own_bxs hO
    clear hO
    simp only [putD, Act.put]
    rw [ez, et]
    generalize vs 0 = u0v
    generalize vs 1 = u1v
    generalize vs 2 = u2v
    generalize vs 3 = u3v
    generalize vs 4 = u4v
    generalize vs 5 = u5v
    generalize vs 6 = u6v
    generalize vs 7 = u7v
    generalize vs 8 = u8v
    generalize vs 9 = u9v
    generalize vs 10 = u10v
    generalize vs 11 = u11v
    generalize vs 12 = u12v
    generalize vs 13 = u13v
    have HBx : Hid _ := hB
    clear hB ez et
    go_wp2
    exact bodyPost_ret (v := .tuple #[.slice ta l.length tc, .int .i64 z]) (by simp [results, Try.results7, go_sem]) rfl ⟨⟨ta, l, tc, z, rfl, HBx.out, hl⟩, HB.out⟩
end Go.Proofs.Ytaokdhebbnkheaa
