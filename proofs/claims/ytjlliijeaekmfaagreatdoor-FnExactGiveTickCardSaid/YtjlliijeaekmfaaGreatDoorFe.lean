import Derived.Test.YtjlliijeaekmfaaGreatDoorDq
import Derived.Test.YtjlliijeaekmfaaGreatDoorFb
import Derived.Test.YtjlliijeaekmfaaGreatDoorEb
namespace Go.Proofs.YtjlliijeaekmfaaGreatDoor
open Go.RowKit Go.Shelf
attribute [local go_sem] Oper.semAt_some
/-- What is told: a book and a code. -/
def Told (b : Bk) (C nw : Int) (L : List Hx) (z : Nat) (v : Value) (w' : World) : Prop :=
  (bookB b = false ∧ v = .tuple #[Bk.val ⟨0, none, [], 0, none, [], 0⟩, .int .i64 1]) ∨ (bookB b = true ∧ ∃ b'' : Bk, v = .tuple #[b''.val, .int .i64 C] ∧ b''.now = nw ∧ b''.fl = b.fl ∧ Likes L b''.hl ∧ PgBk z w' b'')
def ToldB (b : Bk) (nw : Int) (L : List Hx) (z : Nat) (v : Value) (w' : World) : Prop :=
  (bookB b = false ∧ v = Bk.val ⟨0, none, [], 0, none, [], 0⟩) ∨ (bookB b = true ∧ ∃ b'' : Bk, v = b''.val ∧ b''.now = nw ∧ b''.fl = b.fl ∧ Likes L b''.hl ∧ PgBk z w' b'')
theorem Told.later {b : Bk} {C nw : Int} {L : List Hx} {z : Nat} {v : Value} {w w' : World} (h : Told b C nw L z v w) (hb : Below w.heap.size w w') : Told b C nw L z v w' := by
  rcases h with h | ⟨h1, b'', h2, h3, h4, h5, h6⟩
  · exact .inl h
  · exact .inr ⟨h1, b'', h2, h3, h4, h5, h6.later hb⟩
theorem Told.weak {b : Bk} {C nw : Int} {L : List Hx} {z z' : Nat} {v : Value} {w : World} (h : Told b C nw L z v w) (hz : z' ≤ z) : Told b C nw L z' v w := by
  rcases h with h | ⟨h1, b'', h2, h3, h4, h5, h6⟩
  · exact .inl h
  · exact .inr ⟨h1, b'', h2, h3, h4, h5, h6.weak hz⟩
theorem ToldB.later {b : Bk} {nw : Int} {L : List Hx} {z : Nat} {v : Value} {w w' : World} (h : ToldB b nw L z v w) (hb : Below w.heap.size w w') : ToldB b nw L z v w' := by
  rcases h with h | ⟨h1, b'', h2, h3, h4, h5, h6⟩
  · exact .inl h
  · exact .inr ⟨h1, b'', h2, h3, h4, h5, h6.later hb⟩
theorem told_of {b : Bk} {nm : ByteArray} {R : Bk → Nat → Bool → Bk → Int → Prop} {C nw : Int} {L : List Hx} {z : Nat} {e : Ending} {w' : World} (hR : ∀ b' i f b'' c, bookB b = true → PageOf b nm b' i f → R b' i f b'' c → c = C ∧ b''.now = nw ∧ b''.fl = b.fl ∧ Likes L b''.hl) (h : Changed b nm R z e w') : ∃ v, e = .returned v ∧ Told b C nw L z v w' := by
  rcases h with ⟨hbk, e⟩ | ⟨hbk, b', i, f, b'', c, h1, h2, e, h3⟩
  · exact ⟨_, e, .inl ⟨hbk, rfl⟩⟩
  · obtain ⟨rfl, q1, q2, q3⟩ := hR b' i f b'' c hbk h1 h2
    exact ⟨_, e, .inr ⟨hbk, b'', rfl, q1, q2, q3, h3⟩⟩
def LH (b : Bk) (nm : ByteArray) (ev : Value) (T : Nat) (C nw : Int) (L : List Hx) (Z : Nat) (j : Nat) (v : Value) (w : World) : Prop :=
  match j with
  | 0 => v = b.val
  | 1 => v = ev
  | 2 => v = .string nm
  | 3 => v = .func (.func 115) #[] #[.pointer (some ⟨T, 0, none⟩)]
  | 4 => Told b C nw L Z v w
  | 5 => ToldB b nw L Z v w
  | 6 => v = .int .i64 (if bookB b then C else 1)
  | _ => True
theorem LH.later {b : Bk} {nm : ByteArray} {ev : Value} {T : Nat} {C nw : Int} {L : List Hx} {Z : Nat} (j : Nat) (v : Value) (w w' : World) (h : LH b nm ev T C nw L Z j v w) (hb : Below w.heap.size w w') : LH b nm ev T C nw L Z j v w' := by
  unfold LH at h ⊢
  split
  all_goals first
    | exact h
    | exact Told.later h hb
    | exact ToldB.later h hb
    | trivial
set_option maxRecDepth 100000 in
set_option maxHeartbeats 4000000 in
theorem letHappen_any (et : TypeId) (eu : Value) (b : Bk) (nm : ByteArray) (R : Bk → Nat → Bool → Bk → Int → Prop) (C nw : Int) (L : List Hx) (w : World) (hL : Laid w) (hf : Xs 3 Fx.cells w b.fa b.fl) (hnf : b.fl.length ≤ 1048576) (hcf : b.fl.length ≤ b.fc) (hcf2 : b.fc ≤ 1048576) (hsf : ∀ f ∈ b.fl, f.n.size ≤ 9223372036854775807) (hh : Xs 3 Hx.cells w b.ha b.hl) (hnh : b.hl.length ≤ 1048576) (hg : ∀ h ∈ b.hl, h.In w ∧ h.Fit)
    (hNm : ∀ W, Below w.heap.size w W → Calls Tryz.prog 114 #[.iface et eu] W fun e w' => e = .returned (.string nm) ∧ Below W.heap.size W w')
    (hCh : ∀ T W, Below w.heap.size w W → W.cell? ⟨T, 0, none⟩ = some (.iface et eu) → Changes 115 #[.pointer (some ⟨T, 0, none⟩)] b nm R W)
    (hR : ∀ b' i f b'' c, bookB b = true → PageOf b nm b' i f → R b' i f b'' c → c = C ∧ b''.now = nw ∧ b''.fl = b.fl ∧ Likes L b''.hl) :
    Calls Tryz.prog 75 #[b.val, .iface et eu] w fun e w' => (∃ v, e = .returned v ∧ Told b C nw L w.heap.size v w') ∧ Below w.heap.size w w' := by
  have N0 : Below w.heap.size w (((w.alloc b.obj).alloc (.cells #[.iface et eu] 122)).alloc (.cells #[.int .i64 0, .slice none 0 0, .slice none 0 0] 35)) := balloc (balloc (balloc (Below.refl _ _) _) _) _
  have A0 := (Below.heap_alloc ((w.alloc b.obj).alloc (.cells #[.iface et eu] 122)) (.cells #[.int .i64 0, .slice none 0 0, .slice none 0 0] 35) w.heap.size (by simp; omega)).trans ((Below.heap_alloc (w.alloc b.obj) (.cells #[.iface et eu] 122) w.heap.size (by simp)).trans (World.alloc_heap_new w b.obj))
  have T0 := (Below.heap_alloc ((w.alloc b.obj).alloc (.cells #[.iface et eu] 122)) (.cells #[.int .i64 0, .slice none 0 0, .slice none 0 0] 35) (w.alloc b.obj).heap.size (by simp)).trans (World.alloc_heap_new (w.alloc b.obj) (.cells #[.iface et eu] 122))
  have R0 := World.alloc_heap_new ((w.alloc b.obj).alloc (.cells #[.iface et eu] 122)) (.cells #[.int .i64 0, .slice none 0 0, .slice none 0 0] 35)
  simp only [World.size_alloc] at T0 R0
  go_enter Tryz.func75, Tryz.ntmps75
  go_wp2_with fail
  obtain ⟨W0, hW0⟩ : ∃ W0, ((w.alloc b.obj).alloc (.cells #[.iface et eu] 122)).alloc (.cells #[.int .i64 0, .slice none 0 0, .slice none 0 0] 35) = W0 := ⟨_, rfl⟩
  rw [hW0] at N0 A0 T0 R0 ⊢
  have hz1 : w.heap.size + 1 + 1 < W0.heap.size := (Array.getElem?_eq_some_iff.1 R0).1
  have k0 : W0.cell? ⟨w.heap.size, 0, none⟩ = some (.int .i64 b.now) := objc A0 rfl
  have k1 : W0.cell? ⟨w.heap.size, 1, none⟩ = some (.slice b.fa b.fl.length b.fc) := objc A0 rfl
  have k2 : W0.cell? ⟨w.heap.size, 2, none⟩ = some (.slice b.ha b.hl.length b.hc) := objc A0 rfl
  have t0 : W0.cell? ⟨w.heap.size + 1, 0, none⟩ = some (.iface et eu) := objc T0 rfl
  have HR0 : Hid _ := R0
  clear hW0 A0 T0 R0
  refine wpIn_wide.1 (wpIn_region_valsB (F := Fence.wide) (n := 0) (by kernel_rfl) 7 [some 6, some 7, some 8, some 9, some 10, some 11, some 12] (by decide) (LH b nm (.iface et eu) (w.heap.size + 1) C nw L W0.heap.size) LH.later (by kernel_rfl) (by kernel_rfl) (by kernel_rfl) ?step ?fin)
  case step =>
    intro ii o vs w' hi' ho hB hd
    match ii, hi' with
    | 0, _ =>
      simp at ho
      subst ho
      have k0' := (hB.cell (cell_lt k0)).trans k0
      have k1' := (hB.cell (cell_lt k1)).trans k1
      have k2' := (hB.cell (cell_lt k2)).trans k2
      simp only [putD, Act.put]
      gi_wp2
      exact ⟨_, by simp [upd], rfl, Below.refl _ _⟩
    | 1, _ =>
      simp at ho
      subst ho
      have t0' := (hB.cell (cell_lt t0)).trans t0
      simp only [putD, Act.put]
      gi_wp2
      exact ⟨_, by simp [upd], rfl, Below.refl _ _⟩
    | 2, _ =>
      simp at ho
      subst ho
      have d1 : vs 1 = _ := hd { on := 1, ground := Ground.data } (by simp) rfl
      simp only [putD, Act.put]
      rw [d1]
      gi_wp2_with fail
      refine ⟨trivial, rfl, ?_⟩
      refine (callsIn_wide.2 (hNm w' (bstep N0 hB))).mono ?_
      rintro e w5 ⟨rfl, hb5⟩
      gi_wp2
      exact ⟨_, by simp [upd, d1], rfl, hb5⟩
    | 3, _ =>
      simp at ho
      subst ho
      simp only [putD, Act.put]
      gi_wp2
      exact ⟨_, by simp [upd], rfl, Below.refl _ _⟩
    | 4, _ =>
      simp at ho
      subst ho
      have d0 : vs 0 = _ := hd { on := 0, ground := Ground.data } (by simp) rfl
      have d2 : vs 2 = _ := hd { on := 2, ground := Ground.data } (by simp) rfl
      have d3 : vs 3 = _ := hd { on := 3, ground := Ground.data } (by simp) rfl
      simp only [putD, Act.put]
      rw [d0, d2, d3]
      gi_wp2_with fail
      refine ⟨trivial, rfl, ?_⟩
      refine (callsIn_wide.2 (changed_let (.pointer (some ⟨w.heap.size + 1, 0, none⟩)) b nm R w' (hCh _ w' (bstep N0 hB) ((hB.cell (cell_lt t0)).trans t0)) (hL.later (bstep N0 hB)) (hf.later (bstep N0 hB)) hnf hcf hcf2 hsf (hh.later (bstep N0 hB)) hnh (fun h m => ⟨(hg h m).1.later (bstep N0 hB), (hg h m).2⟩))).mono ?_
      rintro e w5 ⟨hC5, hb5⟩
      obtain ⟨v5, rfl, hT5⟩ := told_of (C := C) (nw := nw) (L := L) (fun b' i f b'' c h1 h2 h3 => hR b' i f b'' c h1 h2 h3) hC5
      have HT5 : Hid _ := hT5.weak (z' := W0.heap.size) hB.size
      clear hT5 hC5
      gi_wp2
      exact ⟨_, by simp [upd, d0, d2, d3], HT5.out, hb5⟩
    | 5, _ =>
      simp at ho
      subst ho
      have hT4 : Told b C nw L W0.heap.size (vs 4) w' := hd { on := 4, ground := Ground.data } (by simp) rfl
      rcases hT4 with ⟨hbk, d4⟩ | ⟨hbk, b'', d4, e1, e2, e3, e4⟩
      · have HB : Hid _ := hbk
        clear hbk
        simp only [putD, Act.put]
        rw [d4]
        gi_wp2
        exact ⟨_, by simp [upd, d4], .inl ⟨HB.out, rfl⟩, Below.refl _ _⟩
      have HB : Hid _ := hbk
      have HP : Hid (b''.now = nw ∧ b''.fl = b.fl ∧ Likes L b''.hl ∧ PgBk W0.heap.size w' b'') := ⟨e1, e2, e3, e4⟩
      clear hbk e1 e2 e3 e4
      simp only [putD, Act.put]
      rw [d4]
      gi_wp2
      exact ⟨_, by simp [upd, d4], .inr ⟨HB.out, b'', rfl, HP.out⟩, Below.refl _ _⟩
    | 6, _ =>
      simp at ho
      subst ho
      have hT4 : Told b C nw L W0.heap.size (vs 4) w' := hd { on := 4, ground := Ground.data } (by simp) rfl
      rcases hT4 with ⟨hbk, d4⟩ | ⟨hbk, b'', d4, e1, e2, e3, e4⟩
      · have HB : Hid _ := hbk
        clear hbk
        simp only [putD, Act.put]
        rw [d4]
        gi_wp2
        exact ⟨.int .i64 1, by simp [upd, d4], by unfold LH; rw [HB.out]; rfl, Below.refl _ _⟩
      have HB : Hid _ := hbk
      clear hbk e1 e2 e3 e4
      simp only [putD, Act.put]
      rw [d4]
      gi_wp2
      exact ⟨.int .i64 C, by simp [upd, d4], by unfold LH; rw [HB.out]; rfl, Below.refl _ _⟩
    | q + 7, h => exact absurd h (by omega)
  case fin =>
    intro vs w1 hB hp
    have d5 : ToldB b nw L W0.heap.size (vs 5) w1 := hp 5 (by decide)
    have d6 : vs 6 = .int .i64 (if bookB b then C else 1) := hp 6 (by decide)
    have N1 := bstep N0 hB
    have R1 := blk HR0.out hB
    have hs1 := hB.size
    have r0 : w1.cell? ⟨w.heap.size + 1 + 1, 0, none⟩ = some (.int .i64 0) := objc R1 rfl
    have r1 : w1.cell? ⟨w.heap.size + 1 + 1, 1, none⟩ = some (.slice none 0 0) := objc R1 rfl
    have r2 : w1.cell? ⟨w.heap.size + 1 + 1, 2, none⟩ = some (.slice none 0 0) := objc R1 rfl
    have rf : ∀ i, w1.frozen? ⟨w.heap.size + 1 + 1, i, none⟩ = false := fun i => by simp [World.frozen?, R1]
    have hS : ∀ u v x : Value, But (fun k => k = w.heap.size + 1 + 1) w1 (((w1.setCell ⟨w.heap.size + 1 + 1, 0, none⟩ u).setCell ⟨w.heap.size + 1 + 1, 1, none⟩ v).setCell ⟨w.heap.size + 1 + 1, 2, none⟩ x) := fun u v x => (((But.refl (fun k => k = w.heap.size + 1 + 1) w1).set (g := w.heap.size + 1 + 1) rfl _ _).set (g := w.heap.size + 1 + 1) rfl _ _).set (g := w.heap.size + 1 + 1) rfl _ _
    have hN6 := fun u v x => (hS u v x).under N1 (Nat.le_refl _) (fun k hk => by rw [hk]; omega)
    clear hp hB R1 k0 k1 k2 t0 hNm hCh hR
    simp only [List.drop_succ_cons, List.drop_zero, putD, Act.put]
    rw [d6]
    clear d6
    generalize vs 0 = v0
    generalize vs 1 = v1
    generalize vs 2 = v2
    generalize vs 3 = v3
    generalize vs 4 = v4
    rcases d5 with ⟨hbk, d5⟩ | ⟨hbk, b'', d5, e1, e2, e3, e4⟩
    · have HB : Hid _ := hbk
      rw [d5, hbk]
      clear d5 hbk
      gi_wp2_with fail
      go_wp2_with fail
      exact bodyPost_ret (v := .tuple #[Bk.val ⟨0, none, [], 0, none, [], 0⟩, .int .i64 1]) (by simp [results, Tryz.results75, go_sem, r0, r1, r2]) rfl ⟨⟨_, rfl, .inl ⟨HB.out, rfl⟩⟩, hN6 _ _ _⟩
    · have HB : Hid _ := hbk
      have HP : Hid (b''.now = nw ∧ b''.fl = b.fl ∧ Likes L b''.hl) := ⟨e1, e2, e3⟩
      rw [d5, hbk]
      clear d5 hbk e1 e2 e3
      gi_wp2_with fail
      go_wp2_with fail
      exact bodyPost_ret (v := .tuple #[b''.val, .int .i64 C]) (by simp [results, Tryz.results75, go_sem, r0, r1, r2]) rfl ⟨⟨_, rfl, .inr ⟨HB.out, b'', rfl, HP.out.1, HP.out.2.1, HP.out.2.2, (e4.but (hS _ _ _) (fun k hk => by rw [hk]; omega)).weak (by omega)⟩⟩, hN6 _ _ _⟩

def TickR (n : Int) (b' : Bk) (_ : Nat) (_ : Bool) (b'' : Bk) (c : Int) : Prop := c = tickC b' n ∧ b''.now = tickN b' n ∧ b''.fl = b'.fl ∧ Likes (tickL b' n) b''.hl
theorem book_now {b : Bk} (h : bookB b = true) : 0 ≤ b.now ∧ b.now ≤ 10000 := by
  simp only [bookB, Bool.and_eq_true] at h
  have h1 := h.1
  simp only [nowB, decide_eq_true_eq] at h1
  exact h1
set_option maxRecDepth 100000 in
theorem let1_pass (n : Int) (T : Nat) (b : Bk) (nm : ByteArray) (w : World) (hT : w.cell? ⟨T, 0, none⟩ = some (.iface 120 (.agg #[.int .i64 n]))) (hft : ∀ h ∈ b.hl, h.Fit) :
    Changes 115 #[.pointer (some ⟨T, 0, none⟩)] b nm (TickR n) w := by
  intro b' i f P z W hbk hpg hz hzW hI hN
  have c0 : W.cell? ⟨T, 0, none⟩ = some (.iface 120 (.agg #[.int .i64 n])) := (hN.cell (cell_lt hT)).trans hT
  have h16 := book_len hbk
  have hnow := book_now hbk
  have HBK : Hid _ := hbk
  clear hbk
  show Calls Tryz.prog 115 #[.pointer (some ⟨P, 0, none⟩), .pointer (some ⟨T, 0, none⟩)] W _
  go_enter Tryz.func115, Tryz.ntmps115
  go_wp2_with fail
  refine (let_pass z P b' nm i f n W hI hzW (hpg.lk.fit hft) (by rw [hpg.lk.len]; omega) (by rw [hpg.now]; exact hnow.1) (by rw [hpg.now]; exact hnow.2)).mono ?_
  rintro e w1 ⟨b'', rfl, e1, e2, e3, hI1, hb1⟩
  go_wp2
  go_ret
  exact ⟨_, _, rfl, ⟨rfl, e1, e2, e3⟩, hI1, hb1⟩
theorem keepL_like {l m : List Hx} (frm : Int) (h : Likes l m) : keepL frm l = keepL frm m := by
  unfold keepL
  rw [h.map (cutH frm) (fun a c g => by unfold cutH; rw [g.n, g.t, g.x])]
theorem tick_like {b b' : Bk} (n : Int) (hn : b'.now = b.now) (h : Likes b.hl b'.hl) : tickC b' n = tickC b n ∧ tickN b' n = tickN b n ∧ Likes (tickL b n) (tickL b' n) := by
  have ec : tickC b' n = tickC b n := by unfold tickC; rw [hn]
  refine ⟨ec, by unfold tickN; rw [ec, hn], ?_⟩
  unfold tickL
  rw [ec, hn, keepL_like _ h]
  split
  · exact Likes.refl _
  · exact h
set_option maxRecDepth 100000 in
set_option maxHeartbeats 4000000 in
theorem implTick_any (b : Bk) (n : Int) (w : World) (hL : Laid w) (hf : Xs 3 Fx.cells w b.fa b.fl) (hnf : b.fl.length ≤ 1048576) (hcf : b.fl.length ≤ b.fc) (hcf2 : b.fc ≤ 1048576) (hsf : ∀ f ∈ b.fl, f.n.size ≤ 9223372036854775807) (hh : Xs 3 Hx.cells w b.ha b.hl) (hnh : b.hl.length ≤ 1048576) (hg : ∀ h ∈ b.hl, h.In w ∧ h.Fit) :
    Calls Tryz.prog 29 #[b.val, .int .i64 n] w fun e w' => (∃ v, e = .returned v ∧ Told b (tickC b n) (tickN b n) (tickL b n) w.heap.size v w') ∧ Below w.heap.size w w' := by
  have N0 : Below w.heap.size w ((w.alloc b.obj).alloc (.cells #[.int .i64 0, .slice none 0 0, .slice none 0 0] 35)) := balloc (balloc (Below.refl _ _) _) _
  have A0 := (Below.heap_alloc (w.alloc b.obj) (.cells #[.int .i64 0, .slice none 0 0, .slice none 0 0] 35) w.heap.size (by simp)).trans (World.alloc_heap_new w b.obj)
  have R0 := World.alloc_heap_new (w.alloc b.obj) (.cells #[.int .i64 0, .slice none 0 0, .slice none 0 0] 35)
  rw [World.size_alloc] at R0
  go_enter Tryz.func29, Tryz.ntmps29
  go_wp2_with fail
  obtain ⟨W0, hW0⟩ : ∃ W0, (w.alloc b.obj).alloc (.cells #[.int .i64 0, .slice none 0 0, .slice none 0 0] 35) = W0 := ⟨_, rfl⟩
  rw [hW0] at N0 A0 R0 ⊢
  have hz1 : w.heap.size + 1 < W0.heap.size := (Array.getElem?_eq_some_iff.1 R0).1
  clear hW0
  refine (letHappen_any 120 (.agg #[.int .i64 n]) b ⟨#[]⟩ (TickR n) (tickC b n) (tickN b n) (tickL b n) W0 (hL.later N0) (hf.later N0) hnf hcf hcf2 hsf (hh.later N0) hnh (fun h m => ⟨(hg h m).1.later N0, (hg h m).2⟩)
    (fun W _ => (nameIn_pass n W).mono (fun e w' h => ⟨h.1, by rw [h.2]; exact Below.refl _ _⟩))
    (fun T W _ hT => let1_pass n T b ⟨#[]⟩ W hT (fun h m => (hg h m).2))
    (fun b' i f b'' c _ hp hr => by
      obtain ⟨h1, h2, h3, h4⟩ := hr
      obtain ⟨g1, g2, g3⟩ := tick_like n hp.now hp.lk
      exact ⟨h1.trans g1, h2.trans g2, h3.trans hp.fl, g3.trans h4⟩)).mono ?_
  rintro e w1 ⟨⟨v, rfl, hT⟩, hb1⟩
  have N1 := bstep N0 hb1
  have R1 := blk R0 hb1
  have r0 : w1.cell? ⟨w.heap.size + 1, 0, none⟩ = some (.int .i64 0) := objc R1 rfl
  have r1 : w1.cell? ⟨w.heap.size + 1, 1, none⟩ = some (.slice none 0 0) := objc R1 rfl
  have r2 : w1.cell? ⟨w.heap.size + 1, 2, none⟩ = some (.slice none 0 0) := objc R1 rfl
  have rf : ∀ i, w1.frozen? ⟨w.heap.size + 1, i, none⟩ = false := fun i => by simp [World.frozen?, R1]
  have hs1 := hb1.size
  clear A0 R0 R1 hb1
  have hS : ∀ u v x : Value, But (fun k => k = w.heap.size + 1) w1 (((w1.setCell ⟨w.heap.size + 1, 0, none⟩ u).setCell ⟨w.heap.size + 1, 1, none⟩ v).setCell ⟨w.heap.size + 1, 2, none⟩ x) := fun u v x => (((But.refl (fun k => k = w.heap.size + 1) w1).set (g := w.heap.size + 1) rfl _ _).set (g := w.heap.size + 1) rfl _ _).set (g := w.heap.size + 1) rfl _ _
  have hN6 := fun u v x => (hS u v x).under N1 (Nat.le_refl _) (fun k hk => by rw [hk]; omega)
  rcases hT with ⟨hbk, rfl⟩ | ⟨hbk, b'', rfl, e1, e2, e3, e4⟩
  · have HBK : Hid _ := hbk
    clear hbk
    go_wp2_with fail
    exact bodyPost_ret (v := .tuple #[Bk.val ⟨0, none, [], 0, none, [], 0⟩, .int .i64 1]) (by simp [results, Tryz.results29, go_sem, r0, r1, r2]) rfl ⟨⟨_, rfl, .inl ⟨HBK.out, rfl⟩⟩, hN6 _ _ _⟩
  · have HBK : Hid _ := hbk
    have HP : Hid (b''.now = tickN b n ∧ b''.fl = b.fl ∧ Likes (tickL b n) b''.hl) := ⟨e1, e2, e3⟩
    clear hbk e1 e2 e3
    go_wp2_with fail
    exact bodyPost_ret (v := .tuple #[b''.val, .int .i64 (tickC b n)]) (by simp [results, Tryz.results29, go_sem, r0, r1, r2]) rfl ⟨⟨_, rfl, .inr ⟨HBK.out, b'', rfl, HP.out.1, HP.out.2.1, HP.out.2.2, (e4.but (hS _ _ _) (fun k hk => by rw [hk]; omega)).weak (by omega)⟩⟩, hN6 _ _ _⟩
end Go.Proofs.YtjlliijeaekmfaaGreatDoor
