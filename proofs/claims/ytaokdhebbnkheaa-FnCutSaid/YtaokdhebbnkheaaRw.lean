import Derived.Deep.DeepCutAuto
import Derived.Deep.LoopGhost
import Derived.Deep.RegionWith
import Derived.Test.YtaokdhebbnkheaaRd5
import Derived.Test.YtaokdhebbnkheaaWc
import Derived.Test.YtaokdhebbnkheaaFlat
import Derived.Test.YtaokdhebbnkheaaWs
namespace Go.Proofs.Ytaokdhebbnkheaa
open Go.RowKit Go.BigFrame
/-- A cell not far off. -/
def cellN (c : Cx) : Prop := -100 ≤ c.x ∧ c.x ≤ 100 ∧ -100 ≤ c.y ∧ c.y ≤ 100
def two (x y : Int) (i : Nat) : Value := if i = 0 then .int .i64 x else .int .i64 y
/-- What a walk has made so far: the reader, two cells of its own, the cells that it came by. -/
structure WkS (w wx : World) (R n cap : Nat) (ao : Option Addr) (q ax ay bx dy : Int) (v : Value) (cs : List Cx) : Prop where
  rd : ∃ p', p' ≤ q ∧ Rd wx R ao n cap p'
  but : ButR R w wx
  own : wx.ownsRow (w.heap.size + 2) 75 2 v cs.length (flatX Cx.cells cs)
  a : wx.rowIs w.heap.size 75 2 (two ax ay)
  b : wx.rowIs (w.heap.size + 1) 75 2 (two bx dy)
theorem WkS.cells {w wx : World} {R n cap : Nat} {ao : Option Addr} {q ax ay bx dy : Int} {v : Value} {cs : List Cx} (h : WkS w wx R n cap ao q ax ay bx dy v cs) :
    wx.cell? ⟨w.heap.size, 0, none⟩ = some (.int .i64 ax) ∧ wx.cell? ⟨w.heap.size, 1, none⟩ = some (.int .i64 ay) ∧ wx.cell? ⟨w.heap.size + 1, 0, none⟩ = some (.int .i64 bx) ∧ wx.cell? ⟨w.heap.size + 1, 1, none⟩ = some (.int .i64 dy) :=
  ⟨h.a.cell (i := 0) (by omega), h.a.cell (i := 1) (by omega), h.b.cell (i := 0) (by omega), h.b.cell (i := 1) (by omega)⟩
theorem WkS.next {w wx w1 : World} {R n cap : Nat} {ao : Option Addr} {q q1 p1 ax ay bx dy : Int} {v : Value} {cs : List Cx} (h : WkS w wx R n cap ao q ax ay bx dy v cs) (hb : ButR R wx w1) (hr : Rd w1 R ao n cap p1) (hp : p1 ≤ q1) (hR : R < w.heap.size) :
    WkS w w1 R n cap ao q1 ax ay bx dy v cs :=
  ⟨⟨p1, hp, hr⟩, h.but.trans hb, own_but h.own hb (by omega), h.a.of_block (hb.block _ h.a.lt (by omega)), h.b.of_block (hb.block _ h.b.lt (by omega))⟩
theorem WkS.drew {w wx : World} {R n cap : Nat} {ao : Option Addr} {q ax ay bx dy : Int} {v : Value} {cs : List Cx} (h : WkS w wx R n cap ao q ax ay bx dy v cs) (k : Nat) :
    WkS w (wx.drewN k) R n cap ao q ax ay bx dy v cs :=
  ⟨by obtain ⟨p', hp, hr⟩ := h.rd; exact ⟨p', hp, hr.later (below_drewN (Below.refl _ _) k)⟩, h.but.drew k, h.own, h.a, h.b⟩
theorem WkS.start {w : World} {R n cap : Nat} {ao : Option Addr} {p : Int} (h : Rd w R ao n cap p) (a b : Cx) :
    WkS w (((w.alloc (.cells #[.int .i64 a.x, .int .i64 a.y] 75)).alloc (.cells #[.int .i64 b.x, .int .i64 b.y] 75)).alloc (.cells #[.int .i64 a.x, .int .i64 a.y] 75)) R n cap ao p a.x a.y b.x b.y (.slice (some ⟨w.heap.size + 2, 0, none⟩) 1 1) [a] := by
  have hl := h.lt
  have h1 : ∀ (c : Cx) (W : World), (W.alloc (.cells #[.int .i64 c.x, .int .i64 c.y] 75)).rowIs W.heap.size 75 2 (two c.x c.y) := fun c W =>
    World.rowIs_alloc W #[.int .i64 c.x, .int .i64 c.y] 75 _ (fun i hi => by rcases i with _ | _ | i <;> first | rfl | (simp at hi; omega))
  obtain ⟨w1, e1⟩ : ∃ w1, w.alloc (.cells #[.int .i64 a.x, .int .i64 a.y] 75) = w1 := ⟨_, rfl⟩
  have g1 := h1 a w
  rw [e1] at g1
  obtain ⟨w2, e2⟩ : ∃ w2, w1.alloc (.cells #[.int .i64 b.x, .int .i64 b.y] 75) = w2 := ⟨_, rfl⟩
  have g2 := h1 b w1
  rw [e2] at g2
  have s1 : w1.heap.size = w.heap.size + 1 := by rw [← e1]; simp
  have s2 : w2.heap.size = w.heap.size + 2 := by rw [← e2]; simp [s1]
  have B1 : Below w.heap.size w w1 := by rw [← e1]; exact balloc (Below.refl _ _) _
  have B2 : Below w.heap.size w w2 := by rw [← e2]; exact balloc B1 _
  rw [e1, e2]
  have B3 : Below w.heap.size w (w2.alloc (.cells #[.int .i64 a.x, .int .i64 a.y] 75)) := balloc B2 _
  refine ⟨⟨p, Int.le_refl _, h.later (B3.mono (by omega))⟩, ButR.below B3, ?_, ?_, ?_⟩
  · refine ⟨rfl, Or.inr ⟨w2.heap.size, 1, _, by rw [s2]; rfl, by omega, World.alloc_heap_new _ _, by simp, by unfold maxLen; omega, rfl, ?_⟩⟩
    simp [flatX, Cx.cells]
  · refine (g1.of_block ?_).of_block (Below.block (balloc (Below.refl w2.heap.size w2) _) _ (by omega))
    rw [← e2]; exact Below.block (balloc (Below.refl w1.heap.size w1) _) _ (by omega)
  · rw [← s1]; exact g2.of_block (Below.block (balloc (Below.refl w2.heap.size w2) _) _ (by omega))
theorem WkS.store {w wx : World} {R n cap : Nat} {ao : Option Addr} {q ax ay bx dy : Int} {v : Value} {cs : List Cx} (h : WkS w wx R n cap ao q ax ay bx dy v cs) (x y : Int) (hR : R < w.heap.size) :
    WkS w ((wx.setCell ⟨w.heap.size, 0, none⟩ (.int .i64 x)).setCell ⟨w.heap.size, 1, none⟩ (.int .i64 y)) R n cap ao q x y bx dy v cs := by
  have hB : ∀ B, B ≤ w.heap.size → Below B wx ((wx.setCell ⟨w.heap.size, 0, none⟩ (.int .i64 x)).setCell ⟨w.heap.size, 1, none⟩ (.int .i64 y)) := fun B hB => ((Below.refl B wx).setCell (p := ⟨w.heap.size, 0, none⟩) hB _).setCell (p := ⟨w.heap.size, 1, none⟩) hB _
  have hb := hB _ (Nat.le_refl _)
  have ho : ∀ k, k ≠ w.heap.size → ((wx.setCell ⟨w.heap.size, 0, none⟩ (.int .i64 x)).setCell ⟨w.heap.size, 1, none⟩ (.int .i64 y)).heap[k]? = wx.heap[k]? := fun k hk => (Below.heap_setCell _ _ _ _ hk).trans (Below.heap_setCell _ _ _ _ hk)
  obtain ⟨p', hp', hr⟩ := h.rd
  refine ⟨⟨p', hp', hr.later (hB _ hR)⟩, ⟨hb.os.trans h.but.os, hb.tape.trans h.but.tape, hb.output.trans h.but.output, Nat.le_trans h.but.size hb.size, fun k hk hs => (hb.block k hk).trans (h.but.block k hk hs)⟩, ?_, ?_, h.b.of_block (ho _ (by omega))⟩
  · obtain ⟨h0, h1 | ⟨g, cap, cur, h1, h2, h3, h4⟩⟩ := h.own
    · exact ⟨h0, .inl h1⟩
    · exact ⟨h0, .inr ⟨g, cap, cur, h1, h2, (ho g (by omega)).trans h3, h4⟩⟩
  · refine ((h.a.set 0 (.int .i64 x)).set 1 (.int .i64 y)).congr fun i hi => ?_
    match i, hi with
    | 0, _ => rfl
    | 1, _ => rfl
theorem WkS.more {w wx w1 : World} {R n cap : Nat} {ao : Option Addr} {q ax ay bx dy : Int} {v v' : Value} {cs : List Cx} (h : WkS w wx R n cap ao q ax ay bx dy v cs) (hR : R < w.heap.size) (o : Obj) (c : Cx) (hg : (wx.alloc o).grownBy w1 v.ownBlock)
    (hown : w1.ownsRow (w.heap.size + 2) 75 2 v' (cs.length + 1) (flatX Cx.cells cs ++ c.cells)) : WkS w w1 R n cap ao q ax ay bx dy v' (cs ++ [c]) := by
  have hl := h.b.lt
  have hB : ∀ B, B ≤ w.heap.size + 2 → Below B wx w1 := fun B hB => ((Below.refl B wx).alloc (by omega) o).grown hg (by simp; omega) (fun k hk => by have := own_ge h.own hk; omega)
  have hb := hB w.heap.size (by omega)
  have hb2 := hB (w.heap.size + 2) (by omega)
  obtain ⟨p', hp', hr⟩ := h.rd
  refine ⟨⟨p', hp', hr.later (hB _ (by omega))⟩, ⟨hb.os.trans h.but.os, hb.tape.trans h.but.tape, hb.output.trans h.but.output, Nat.le_trans h.but.size hb.size, fun k hk hs => (hb.block k hk).trans (h.but.block k hk hs)⟩, ?_, h.a.of_block (hb2.block _ (by omega)), h.b.of_block (hb2.block _ (by omega))⟩
  rw [flatX_append, flatX_one, List.length_append]
  exact hown
theorem news2 (W : World) (x y : Value) (t : TypeId) : ∀ j u, [x, y][j]? = some u → (W.alloc (.cells #[x, y] t)).cell? ((⟨W.heap.size, 0, none⟩ : Addr).add j) = some u := by
  intro j u hj
  match j, hj with
  | 0, hj => simp at hj; subst hj; simp [Addr.add]
  | 1, hj => simp at hj; subst hj; simp [Addr.add]
  | n + 2, hj => simp at hj
theorem ints2 (x y : Int) : ∀ u ∈ [Value.int .i64 x, Value.int .i64 y], u.oneCell' = true := by
  intro u hu
  simp at hu
  rcases hu with rfl | rfl <;> rfl
theorem own_weak {w : World} {base base' e sz : Nat} {v : Value} {m : Nat} {xs : List Value} (h : w.ownsRow base e sz v m xs) (hb : base' ≤ base) : w.ownsRow base' e sz v m xs := by
  obtain ⟨h0, h1 | ⟨g, cap, cur, h1, h2, h3⟩⟩ := h
  · exact ⟨h0, .inl h1⟩
  · exact ⟨h0, .inr ⟨g, cap, cur, h1, by omega, h3⟩⟩
theorem own_slice {w : World} {base e sz : Nat} {v : Value} {m : Nat} {xs : List Value} (h : w.ownsRow base e sz v m xs) : ∃ va vc, v = .slice va m vc := by
  obtain ⟨_, ⟨rfl, rfl⟩ | ⟨g, cap, cur, rfl, _⟩⟩ := h
  · exact ⟨_, _, rfl⟩
  · exact ⟨_, _, rfl⟩
set_option maxRecDepth 100000 in
set_option maxHeartbeats 4000000 in
theorem walk_any (R n cap : Nat) (ao : Option Addr) (p t : Int) (a b : Cx) (w : World) (h : Rd w R ao n cap p) (hp : p ≤ 900000) (ha : cellN a) (hb : cellN b) (ht0 : 0 ≤ t) (ht1 : t ≤ 1000) :
    Calls Try.prog 42 #[.pointer (some ⟨R, 0, none⟩), a.val, b.val, .int .i64 t] w fun e w' => (∃ v cs, e = .returned v ∧ w'.ownsRow w.heap.size 75 2 v cs.length (flatX Cx.cells cs) ∧ 1 ≤ cs.length ∧ cs.length ≤ 40 ∧ ∀ c ∈ cs, cellN c) ∧
      (∃ p', p' ≤ p + 240 ∧ Rd w' R ao n cap p') ∧ ButR R w w' := by
  have hR := h.lt
  have hS := WkS.start h a b
  have hbb : -100 ≤ b.x ∧ b.x ≤ 100 ∧ -100 ≤ b.y ∧ b.y ≤ 100 := hb
  have haa : -100 ≤ a.x ∧ a.x ≤ 100 ∧ -100 ≤ a.y ∧ a.y ≤ 100 := ha
  obtain ⟨i0, hi, hz0, hz1, hz2⟩ := info_parts Try.info75
  go_enter Try.func42, Try.ntmps42
  go_wp2
  go_loopg [3, 9, 10] 120 (fun k s v i wr => ∃ (j : Nat) (t ax ay : Int) (cs : List Cx), k + j = 120 ∧ i = .int .i64 j ∧ s = .int .i64 t ∧ -(j : Int) ≤ t ∧ t ≤ 1000 ∧ WkS w wr R n cap ao (p + 2 * j) ax ay b.x b.y v cs ∧ (-100 ≤ ax ∧ ax ≤ 100 ∧ -100 ≤ ay ∧ ay ≤ 100) ∧ 1 ≤ cs.length ∧ cs.length ≤ 40 ∧ ∀ c ∈ cs, cellN c)
  case atStart => exact ⟨0, t, a.x, a.y, [a], rfl, rfl, rfl, by omega, ht1, by simpa using hS, haa, by simp, by simp, fun c hc => by rw [List.mem_singleton.1 hc]; exact ha⟩
  case round =>
    obtain ⟨j, t, ax, ay, cs, hj, rfl, rfl, t0, t1, S, hax, l1, l2, hcs⟩ := hrel
    obtain ⟨c0, c1, d0, d1⟩ := S.cells
    obtain ⟨va, vc, rfl⟩ := own_slice S.own
    have HS : Hid (WkS w wr R n cap ao (p + 2 * j) ax ay b.x b.y (.slice va cs.length vc) cs) := S
    clear S hS
    obtain ⟨e1, he1⟩ : ∃ v, (ax == b.x) = v := ⟨_, rfl⟩
    obtain ⟨e2, he2⟩ : ∃ v, (ay == b.y) = v := ⟨_, rfl⟩
    go_upto_region 3 with fail
    go_cut [31] (fun g wx => (∃ gb, g = .bool gb ∧ (gb = true → j < 120 ∧ cs.length < 40)) ∧ wr = wx)
    case first =>
      by_cases g1 : j < 120
      · by_cases g2 : cs.length < 40
        · have g1' : ((j : Int) < 120) := by omega
          have g2' : ((cs.length : Int) < 40) := by omega
          obtain ⟨e3, he3⟩ : ∃ v, ((cs.length : Int) == 1) = v := ⟨_, rfl⟩
          cases e1 <;> cases e2 <;> cases e3
          all_goals go_wp2
          all_goals go_meet
          all_goals exact ⟨⟨_, rfl, fun _ => ⟨g1, g2⟩⟩, rfl⟩
        · have g1' : ((j : Int) < 120) := by omega
          have g2' : ¬ ((cs.length : Int) < 40) := by omega
          clear he1 he2
          go_wp2
          all_goals go_meet
          all_goals exact ⟨⟨_, rfl, fun h => by cases h⟩, rfl⟩
      · have g1' : ¬ ((j : Int) < 120) := by omega
        clear he1 he2
        go_wp2
        all_goals go_meet
        all_goals exact ⟨⟨_, rfl, fun h => by cases h⟩, rfl⟩
    case rest =>
      obtain ⟨⟨gb, rfl, hg⟩, rfl⟩ := hcut
      cases gb with
      | false =>
        go_wp2
        go_ret
        obtain ⟨p', hp', hr'⟩ := HS.out.rd
        refine ⟨⟨_, cs, rfl, own_weak HS.out.own (by omega), l1, l2, hcs⟩, ⟨p', by omega, hr'⟩, HS.out.but⟩
      | true =>
        obtain ⟨g1, g2⟩ := hg rfl
        clear hg
        clear he1 he2
        go_upto_region 5 with fail
        go_cut [11] (fun x wx => (∃ i, x = .int .i64 i ∧ -101 ≤ i ∧ i ≤ 101) ∧ WkS w wx R n cap ao (p + 2 * j) ax ay b.x b.y (.slice va cs.length vc) cs)
        case first =>
          have hs := sgn_le (b.x - ax)
          go_quiet ((go_at_call 50; exact Calls.quiet_of ((sign_any _ _).mono fun _ _ h => ⟨h.1, 0, h.2⟩)))
          go_wp2
          all_goals go_meet
          all_goals exact ⟨⟨_, rfl, by omega, by omega⟩, HS.out.drew _⟩
        case rest =>
        clear c0 c1 d0 d1 HS
        obtain ⟨⟨x, rfl, x0, x1⟩, S⟩ := hcut
        obtain ⟨c0, c1, d0, d1⟩ := S.cells
        have HS : Hid (WkS w wc R n cap ao (p + 2 * j) ax ay b.x b.y (.slice va cs.length vc) cs) := S
        clear S
        go_upto_region 6 with fail
        go_cut [12] (fun x wx => (∃ i, x = .int .i64 i ∧ -101 ≤ i ∧ i ≤ 101) ∧ WkS w wx R n cap ao (p + 2 * j) ax ay b.x b.y (.slice va cs.length vc) cs)
        case first =>
          have hs := sgn_le (b.y - ay)
          go_quiet ((go_at_call 50; exact Calls.quiet_of ((sign_any _ _).mono fun _ _ h => ⟨h.1, 0, h.2⟩)))
          go_wp2
          all_goals go_meet
          all_goals exact ⟨⟨_, rfl, by omega, by omega⟩, HS.out.drew _⟩
        case rest =>
        clear c0 c1 d0 d1 HS
        obtain ⟨⟨y, rfl, y0, y1⟩, S⟩ := hcut
        obtain ⟨c0, c1, d0, d1⟩ := S.cells
        have HS : Hid (WkS w wc R n cap ao (p + 2 * j) ax ay b.x b.y (.slice va cs.length vc) cs) := S
        clear S
        go_upto_region 7 with fail
        go_cut [58] (fun g wx => (∃ gb, g = .bool gb) ∧ wc = wx)
        case first =>
          obtain ⟨e1, he1⟩ : ∃ v, (ax == b.x) = v := ⟨_, rfl⟩
          obtain ⟨e2, he2⟩ : ∃ v, (ay == b.y) = v := ⟨_, rfl⟩
          by_cases ht : 0 < t
          · go_wp2
            all_goals go_meet
            all_goals exact ⟨⟨_, rfl⟩, rfl⟩
          · cases e1 <;> cases e2
            all_goals go_wp2
            all_goals go_meet
            all_goals exact ⟨⟨_, rfl⟩, rfl⟩
        case rest =>
        obtain ⟨⟨gb, rfl⟩, rfl⟩ := hcut
        go_upto_if 58 with fail
        go_cut [3, 11, 12] (fun s x y wx => (∃ t' x' y' : Int, s = .int .i64 t' ∧ -((j : Int) + 1) ≤ t' ∧ t' ≤ 1000 ∧ x = .int .i64 x' ∧ -101 ≤ x' ∧ x' ≤ 102 ∧ y = .int .i64 y' ∧ -101 ≤ y' ∧ y' ≤ 102) ∧ WkS w wx R n cap ao (p + 2 * j + 2) ax ay b.x b.y (.slice va cs.length vc) cs)
        case first =>
          cases gb with
          | false =>
            go_wp2
            go_meet
            obtain ⟨p1, hp1, hr1⟩ := HS.out.rd
            exact ⟨⟨t, x, y, rfl, by omega, by omega, rfl, by omega, by omega, rfl, by omega, by omega⟩, HS.out.next (ButR.refl _ _) hr1 (by omega) hR⟩
          | true =>
            go_upto_region 8 with fail
            go_cut [11] (fun x wx => (∃ i, x = .int .i64 i ∧ -101 ≤ i ∧ i ≤ 102) ∧ WkS w wx R n cap ao (p + 2 * j + 1) ax ay b.x b.y (.slice va cs.length vc) cs)
            case first =>
              obtain ⟨p1, hp1, hr1⟩ := HS.out.rd
              go_region_with (go_at_call 16; refine (pick_rd R n cap ao p1 3 _ (hr1.later (below_drewN (Below.refl _ _) _)) (by omega) (by omega)).mono ?_; rintro e w1 ⟨⟨r, rfl, r0, r1, -⟩, hr2, B⟩; replace r1 := r1 (by omega); have k0 := B.cell (p := ⟨w.heap.size, 0, none⟩) (by show w.heap.size ≠ R; omega) c0)
              all_goals (try go_wp2)
              all_goals go_meet
              all_goals exact ⟨⟨_, rfl, by simp only [IntKind.wrap_i64]; omega, by simp only [IntKind.wrap_i64]; omega⟩, HS.out.next (((ButR.refl R wc).drew _).trans B) hr2 (by omega) hR⟩
            case rest =>
            clear c0 c1 d0 d1 HS
            obtain ⟨⟨x', rfl, x0', x1'⟩, S⟩ := hcut
            obtain ⟨c0, c1, d0, d1⟩ := S.cells
            have HS : Hid (WkS w wc R n cap ao (p + 2 * j + 1) ax ay b.x b.y (.slice va cs.length vc) cs) := S
            clear S
            go_upto_region 9 with fail
            go_cut [12] (fun x wx => (∃ i, x = .int .i64 i ∧ -101 ≤ i ∧ i ≤ 102) ∧ WkS w wx R n cap ao (p + 2 * j + 2) ax ay b.x b.y (.slice va cs.length vc) cs)
            case first =>
              obtain ⟨p1, hp1, hr1⟩ := HS.out.rd
              go_region_with (go_at_call 16; refine (pick_rd R n cap ao p1 3 _ (hr1.later (below_drewN (Below.refl _ _) _)) (by omega) (by omega)).mono ?_; rintro e w1 ⟨⟨r, rfl, r0, r1, -⟩, hr2, B⟩; replace r1 := r1 (by omega); have k0 := B.cell (p := ⟨w.heap.size, 1, none⟩) (by show w.heap.size ≠ R; omega) c1)
              all_goals (try go_wp2)
              all_goals go_meet
              all_goals exact ⟨⟨_, rfl, by simp only [IntKind.wrap_i64]; omega, by simp only [IntKind.wrap_i64]; omega⟩, HS.out.next (((ButR.refl R wc).drew _).trans B) hr2 (by omega) hR⟩
            case rest =>
            clear c0 c1 d0 d1 HS
            obtain ⟨⟨y', rfl, y0', y1'⟩, S⟩ := hcut
            go_wp2
            go_meet
            exact ⟨⟨t - 1, x', y', rfl, by omega, by omega, rfl, by omega, by omega, rfl, by omega, by omega⟩, S⟩
        case rest =>
        clear c0 c1 d0 d1 HS x0 x1 y0 y1
        obtain ⟨⟨t', x', y', rfl, t0', t1', rfl, x0, x1, rfl, y0, y1⟩, S⟩ := hcut
        obtain ⟨c0, c1, d0, d1⟩ := S.cells
        have HS : Hid (WkS w wc R n cap ao (p + 2 * j + 2) ax ay b.x b.y (.slice va cs.length vc) cs) := S
        clear S
        go_upto_region 11 with fail
        go_cut [90] (fun g wx => (∃ gb, g = .bool gb ∧ (gb = true → 0 ≤ x' ∧ x' < 16 ∧ 0 ≤ y' ∧ y' < 16)) ∧ wc = wx)
        case first =>
          obtain ⟨v1, h1⟩ : ∃ v, inB x' 0 15 = v := ⟨_, rfl⟩
          obtain ⟨v2, h2⟩ : ∃ v, inB y' 0 15 = v := ⟨_, rfl⟩
          have HX : Hid (v1 = true → 0 ≤ x' ∧ x' < 16) := fun h => by rw [h] at h1; simp only [inB, decide_eq_true_eq] at h1; omega
          have HY : Hid (v2 = true → 0 ≤ y' ∧ y' < 16) := fun h => by rw [h] at h2; simp only [inB, decide_eq_true_eq] at h2; omega
          have H1 : Hid (inB x' 0 15 = v1) := h1
          have H2 : Hid (inB y' 0 15 = v2) := h2
          clear h1 h2
          by_cases hx : x' = ax
          · subst hx
            by_cases hy : y' = ay
            · subst hy
              go_wp2
              all_goals go_meet
              all_goals (refine ⟨⟨_, rfl, fun hh => ?_⟩, rfl⟩; first | exact absurd hh Bool.false_ne_true | exact ⟨(HX.out (by trivial)).1, (HX.out (by trivial)).2, (HY.out (by trivial)).1, (HY.out (by trivial)).2⟩)
            · have ey : (y' == ay) = false := by simp [hy]
              cases v1 <;> cases v2
              all_goals go_wp2_with (first | (go_at_call_of 24 (Value.int .i64 x'); refine (inVal x' 0 15 _ H1.out _).mono ?_; rintro e w1 ⟨rfl, rfl⟩) | (go_at_call_of 24 (Value.int .i64 y'); refine (inVal y' 0 15 _ H2.out _).mono ?_; rintro e w1 ⟨rfl, rfl⟩))
              all_goals go_meet
              all_goals (refine ⟨⟨_, rfl, fun hh => ?_⟩, rfl⟩; first | exact absurd hh Bool.false_ne_true | exact ⟨(HX.out (by trivial)).1, (HX.out (by trivial)).2, (HY.out (by trivial)).1, (HY.out (by trivial)).2⟩)
          · have ex : (x' == ax) = false := by simp [hx]
            cases v1 <;> cases v2
            all_goals go_wp2_with (first | (go_at_call_of 24 (Value.int .i64 x'); refine (inVal x' 0 15 _ H1.out _).mono ?_; rintro e w1 ⟨rfl, rfl⟩) | (go_at_call_of 24 (Value.int .i64 y'); refine (inVal y' 0 15 _ H2.out _).mono ?_; rintro e w1 ⟨rfl, rfl⟩))
            all_goals go_meet
            all_goals (refine ⟨⟨_, rfl, fun hh => ?_⟩, rfl⟩; first | exact absurd hh Bool.false_ne_true | exact ⟨(HX.out (by trivial)).1, (HX.out (by trivial)).2, (HY.out (by trivial)).1, (HY.out (by trivial)).2⟩)
        case rest =>
        obtain ⟨⟨gb, rfl, hg⟩, rfl⟩ := hcut
        cases gb with
        | false =>
          by_cases ht : t' ≤ 0
          · go_wp2
            go_roundg (gk - 1)
            case measure => omega
            case rel => exact ⟨j + 1, 1, ax, ay, cs, by omega, by go_num, rfl, by omega, by omega, by obtain ⟨p1, hp1, hr1⟩ := HS.out.rd; exact HS.out.next (ButR.refl _ _) hr1 (by omega) hR, hax, l1, l2, hcs⟩
          · go_wp2
            go_roundg (gk - 1)
            case measure => omega
            case rel => exact ⟨j + 1, t', ax, ay, cs, by omega, by go_num, rfl, by omega, by omega, by obtain ⟨p1, hp1, hr1⟩ := HS.out.rd; exact HS.out.next (ButR.refl _ _) hr1 (by omega) hR, hax, l1, l2, hcs⟩
        | true =>
          have hq := hg rfl
          clear hg
          have A1 := HS.out.a
          have F0 := fun i => A1.frozen i
          have A2 := A1.set 0 (.int .i64 x')
          have F1 := fun i => A2.frozen i
          have S0 := HS.out.store x' y' hR
          obtain ⟨W0, hW0⟩ : ∃ W0, (wc.setCell ⟨w.heap.size, 0, none⟩ (.int .i64 x')).setCell ⟨w.heap.size, 1, none⟩ (.int .i64 y') = W0 := ⟨_, rfl⟩
          rw [hW0] at S0
          have m1 : (wc.setCell ⟨w.heap.size, 0, none⟩ (.int .i64 x')).cell? ⟨w.heap.size, 1, none⟩ = some (.int .i64 ay) := A2.cell (i := 1) (by omega)
          clear d0 d1 A1 A2
          obtain ⟨k0, k1, -, -⟩ := S0.cells
          have hO := S0.own
          have hl := S0.b.lt
          have HS0 : Hid (WkS w W0 R n cap ao (p + 2 * j + 2) x' y' b.x b.y (.slice va cs.length vc) cs) := S0
          clear S0 HS
          go_wp2_with (at_builtin; refine wpList_append_own _ rfl (.tmp 94) (.tmp 96) 72 rfl (w.heap.size + 2) 75 i0 _ 2 16 Try.underlying72 hi hz0 hz1 hz2 rfl (by decide) _ _ _ rfl (hO.alloc _) ⟨W0.heap.size, 0, none⟩ 1 1 [.int .i64 x', .int .i64 y'] rfl rfl (news2 W0 _ _ _) (ints2 x' y') (by unfold maxLen; omega) (by omega) (by simp; omega) ?_)
          intro v' w1 hown' hgrow _
          have HS1 : Hid (WkS w w1 R n cap ao (p + 2 * j + 2) x' y' b.x b.y v' (cs ++ [⟨x', y'⟩])) := HS0.out.more hR _ ⟨x', y'⟩ hgrow hown'
          clear hown' hgrow hO HS0 c0 c1 k0 k1 m1 hW0 F0 F1
          go_wp2
          go_roundg (gk - 1)
          case measure => omega
          case rel =>
            refine ⟨j + 1, t', x', y', _, by omega, by go_num, rfl, by omega, by omega, by obtain ⟨p1, hp1, hr1⟩ := HS1.out.rd; exact HS1.out.next (ButR.refl _ _) hr1 (by omega) hR, by omega, by simp, by simp; omega, fun c hc => ?_⟩
            rcases List.mem_append.1 hc with hc | hc
            · exact hcs c hc
            · rw [List.mem_singleton.1 hc]; show -100 ≤ x' ∧ x' ≤ 100 ∧ -100 ≤ y' ∧ y' ≤ 100; omega
end Go.Proofs.Ytaokdhebbnkheaa
