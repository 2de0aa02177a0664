import Derived.Deep.DeepCutAuto
import Derived.Deep.LoopGhost
import Derived.Deep.RegionWith
import Derived.Test.YtiojdbffjdoniaaGreatDoorRd4
import Derived.Test.YtiojdbffjdoniaaGreatDoorWs
import Derived.Test.YtiojdbffjdoniaaGreatDoorAny
import Derived.OwnWalkIn
namespace Go.Proofs.YtiojdbffjdoniaaGreatDoor
set_option maxRecDepth 100000
set_option maxHeartbeats 4000000
open Go.RowKit Go.BigFrame
def mN (c : Cx) : Prop := -100 <= c.x /\ c.x <= 100 /\ -100 <= c.y /\ c.y <= 100
def RP (x y : Int) (i : Nat) : Value := if i = 0 then .int .i64 x else .int .i64 y
structure pL (w wx : World) (R n cap : Nat) (ao : Option Addr) (q ax ay bx dy : Int) (v : Value) (cs : List Cx) : Prop where
 rd : ∃ p', p' <= q /\ Rd wx R ao n cap p'
 but : bC R w wx
 own : wx.ownsRow (w.heap.size + 2) 171 2 v cs.length (aN Cx.cells cs)
 a : wx.rowIs w.heap.size 171 2 (RP ax ay)
 b : wx.rowIs (w.heap.size + 1) 171 2 (RP bx dy)
theorem pL.cells {w wx : World} {R n cap : Nat} {ao : Option Addr} {q ax ay bx dy : Int} {v : Value} {cs : List Cx} (h : pL w wx R n cap ao q ax ay bx dy v cs) :
 wx.cell? ⟨w.heap.size, 0, none⟩ = some (.int .i64 ax) /\ wx.cell? ⟨w.heap.size, 1, none⟩ = some (.int .i64 ay) /\ wx.cell? ⟨w.heap.size + 1, 0, none⟩ = some (.int .i64 bx) /\ wx.cell? ⟨w.heap.size + 1, 1, none⟩ = some (.int .i64 dy) :=
 ⟨h.a.cell (i := 0) (by omega), h.a.cell (i := 1) (by omega), h.b.cell (i := 0) (by omega), h.b.cell (i := 1) (by omega)⟩
theorem pL.next {w wx w1 : World} {R n cap : Nat} {ao : Option Addr} {q q1 p1 ax ay bx dy : Int} {v : Value} {cs : List Cx} (h : pL w wx R n cap ao q ax ay bx dy v cs) (hb : bC R wx w1) (hr : Rd w1 R ao n cap p1) (hp : p1 <= q1) (hR : R < w.heap.size) :
 pL w w1 R n cap ao q1 ax ay bx dy v cs :=
 ⟨⟨p1, hp, hr⟩, h.but.trans hb, oB h.own hb (by omega), h.a.of_block (hb.block _ h.a.lt (by omega)), h.b.of_block (hb.block _ h.b.lt (by omega))⟩
theorem pL.drew {w wx : World} {R n cap : Nat} {ao : Option Addr} {q ax ay bx dy : Int} {v : Value} {cs : List Cx} (h : pL w wx R n cap ao q ax ay bx dy v cs) (k : Nat) :
 pL w (wx.drewN k) R n cap ao q ax ay bx dy v cs :=
 ⟨by obtain ⟨p', hp, hr⟩ := h.rd;exact ⟨p', hp, hr.zL (below_drewN (br _ _) k)⟩, h.but.drew k, h.own, h.a, h.b⟩
theorem pL.start {w : World} {R n cap : Nat} {ao : Option Addr} {p : Int} (h : Rd w R ao n cap p) (a b : Cx) :
 pL w (((w.alloc (.cells #[.int .i64 a.x, .int .i64 a.y] 171)).alloc (.cells #[.int .i64 b.x, .int .i64 b.y] 171)).alloc (.cells #[.int .i64 a.x, .int .i64 a.y] 171)) R n cap ao p a.x a.y b.x b.y (.slice (some ⟨w.heap.size + 2, 0, none⟩) 1 1) [a] := by
 have hl := h.lt
 have h1 : ∀ (c : Cx) (W : World), (W.alloc (.cells #[.int .i64 c.x, .int .i64 c.y] 171)).rowIs W.heap.size 171 2 (RP c.x c.y) := fun c W =>
  World.rowIs_alloc W #[.int .i64 c.x, .int .i64 c.y] 171 _ (fun i hi => by rcases i with _ | _ | i <;> first | rfl | (simp at hi;omega))
 obtain ⟨w1, e1⟩ : ∃ w1, w.alloc (.cells #[.int .i64 a.x, .int .i64 a.y] 171) = w1 := ⟨_, rfl⟩;have g1 := h1 a w;rw [e1] at g1;obtain ⟨w2, e2⟩ : ∃ w2, w1.alloc (.cells #[.int .i64 b.x, .int .i64 b.y] 171) = w2 := ⟨_, rfl⟩;have g2 := h1 b w1;rw [e2] at g2;have s1 : w1.heap.size = w.heap.size + 1 := by rw [← e1];simp
 have s2 : w2.heap.size = w.heap.size + 2 := by rw [← e2];simp [s1]
 have B1 : Below w.heap.size w w1 := by rw [← e1];exact aB (br _ _) _
 have B2 : Below w.heap.size w w2 := by rw [← e2];exact aB B1 _
 rw [e1, e2];have B3 : Below w.heap.size w (w2.alloc (.cells #[.int .i64 a.x, .int .i64 a.y] 171)) := aB B2 _;refine ⟨⟨p, Int.le_refl _, h.zL (B3.mono (by omega))⟩, bC.below B3, ?_, ?_, ?_⟩
 · refine ⟨rfl, Or.inr ⟨w2.heap.size, 1, _, by rw [s2];rfl, by omega, wnq _ _, by simp, by unfold maxLen;omega, rfl, ?_⟩⟩
   simp [aN, Cx.cells]
 · refine (g1.of_block ?_).of_block (Below.block (aB (br w2.heap.size w2) _) _ (by omega))
   rw [← e2];exact Below.block (aB (br w1.heap.size w1) _) _ (by omega)
 · rw [← s1];exact g2.of_block (Below.block (aB (br w2.heap.size w2) _) _ (by omega))
theorem pL.store {w wx : World} {R n cap : Nat} {ao : Option Addr} {q ax ay bx dy : Int} {v : Value} {cs : List Cx} (h : pL w wx R n cap ao q ax ay bx dy v cs) (x y : Int) (hR : R < w.heap.size) :
 pL w ((wx.setCell ⟨w.heap.size, 0, none⟩ (.int .i64 x)).setCell ⟨w.heap.size, 1, none⟩ (.int .i64 y)) R n cap ao q x y bx dy v cs := by
 have hB : ∀ B, B <= w.heap.size -> Below B wx ((wx.setCell ⟨w.heap.size, 0, none⟩ (.int .i64 x)).setCell ⟨w.heap.size, 1, none⟩ (.int .i64 y)) := fun B hB => ((br B wx).setCell (p := ⟨w.heap.size, 0, none⟩) hB _).setCell (p := ⟨w.heap.size, 1, none⟩) hB _;have hb := hB _ (nlq _);have ho : ∀ k, k ≠ w.heap.size -> ((wx.setCell ⟨w.heap.size, 0, none⟩ (.int .i64 x)).setCell ⟨w.heap.size, 1, none⟩ (.int .i64 y)).heap[k]? = wx.heap[k]? := fun k hk => (Below.heap_setCell _ _ _ _ hk).trans (Below.heap_setCell _ _ _ _ hk);obtain ⟨p', hp', hr⟩ := h.rd;refine ⟨⟨p', hp', hr.zL (hB _ hR)⟩, ⟨hb.os.trans h.but.os, hb.tape.trans h.but.tape, hb.output.trans h.but.output, Nat.le_trans h.but.size hb.size, fun k hk hs => (hb.block k hk).trans (h.but.block k hk hs)⟩, ?_, ?_, h.b.of_block (ho _ (by omega))⟩
 · obtain ⟨h0, h1 | ⟨g, cap, cur, h1, h2, h3, h4⟩⟩ := h.own
   · exact ⟨h0, .inl h1⟩
   · exact ⟨h0, .inr ⟨g, cap, cur, h1, h2, (ho g (by omega)).trans h3, h4⟩⟩
 · refine ((h.a.set 0 (.int .i64 x)).set 1 (.int .i64 y)).congr fun i hi => ?_
   match i, hi with
   | 0, _ | 1, _ => rfl
theorem pL.more {w wx w1 : World} {R n cap : Nat} {ao : Option Addr} {q ax ay bx dy : Int} {v v' : Value} {cs : List Cx} (h : pL w wx R n cap ao q ax ay bx dy v cs) (hR : R < w.heap.size) (o : Obj) (c : Cx) (hg : (wx.alloc o).grownBy w1 v.ownBlock)
 (hown : w1.ownsRow (w.heap.size + 2) 171 2 v' (cs.length + 1) (aN Cx.cells cs ++ c.cells)) : pL w w1 R n cap ao q ax ay bx dy v' (cs ++ [c]) := by
 have hl := h.b.lt;have hB : ∀ B, B <= w.heap.size + 2 -> Below B wx w1 := fun B hB => ((br B wx).alloc (by omega) o).grown hg (by simp;omega) (fun k hk => by have := gV h.own hk;omega);have hb := hB w.heap.size (by omega);have hb2 := hB (w.heap.size + 2) (by omega);obtain ⟨p', hp', hr⟩ := h.rd;refine ⟨⟨p', hp', hr.zL (hB _ (by omega))⟩, ⟨hb.os.trans h.but.os, hb.tape.trans h.but.tape, hb.output.trans h.but.output, Nat.le_trans h.but.size hb.size, fun k hk hs => (hb.block k hk).trans (h.but.block k hk hs)⟩, ?_, h.a.of_block (hb2.block _ (by omega)), h.b.of_block (hb2.block _ (by omega))⟩;rw [eS, lL, List.length_append];exact hown
theorem QP (W : World) (x y : Value) (t : TypeId) : ∀ j u, [x, y][j]? = some u -> (W.alloc (.cells #[x, y] t)).cell? ((⟨W.heap.size, 0, none⟩ : Addr).add j) = some u := by
 intro j u hj
 match j, hj with
 | 0, hj => simp at hj;subst hj;simp [Addr.add]
 | 1, hj => simp at hj;subst hj;simp [Addr.add]
 | n + 2, hj => simp at hj
theorem QV (x y : Int) : ∀ u ∈ [Value.int .i64 x, Value.int .i64 y], u.oneCell' = true := by
 intro u hu;simp at hu
 rcases hu with rfl | rfl <;> rfl
theorem eZ {w : World} {base base' e sz : Nat} {v : Value} {m : Nat} {xs : List Value} (h : w.ownsRow base e sz v m xs) (hb : base' <= base) : w.ownsRow base' e sz v m xs := by
 obtain ⟨h0, h1 | ⟨g, cap, cur, h1, h2, h3⟩⟩ := h
 · exact ⟨h0, .inl h1⟩
 · exact ⟨h0, .inr ⟨g, cap, cur, h1, by omega, h3⟩⟩
theorem kI {w : World} {base e sz : Nat} {v : Value} {m : Nat} {xs : List Value} (h : w.ownsRow base e sz v m xs) : ∃ va vc, v = .slice va m vc := by
 obtain ⟨_, ⟨rfl, rfl⟩ | ⟨g, cap, cur, rfl, _⟩⟩ := h
 · exact ⟨_, _, rfl⟩
 · exact ⟨_, _, rfl⟩
theorem ME (R n cap : Nat) (ao : Option Addr) (p t : Int) (a b : Cx) (w : World) (h : Rd w R ao n cap p) (hp : p <= 900000) (ha : mN a) (hb : mN b) (ht0 : 0 <= t) (ht1 : t <= 1000) :
 Calls Tryz.prog 113 #[.pointer (some ⟨R, 0, none⟩), a.val, b.val, .int .i64 t] w fun e w' => (∃ v cs, e = .returned v /\ w'.ownsRow w.heap.size 171 2 v cs.length (aN Cx.cells cs) /\ 1 <= cs.length /\ cs.length <= 40 /\ ∀ c ∈ cs, mN c) /\
  (∃ p', p' <= p + 240 /\ Rd w' R ao n cap p') /\ bC R w w' := by
 have hR := h.lt;have hS := pL.start h a b;have hbb : -100 <= b.x /\ b.x <= 100 /\ -100 <= b.y /\ b.y <= 100 := hb;have haa : -100 <= a.x /\ a.x <= 100 /\ -100 <= a.y /\ a.y <= 100 := ha;obtain ⟨i0, hi, hz0, hz1, hz2⟩ := info_parts Tryz.info171
 go_enter Tryz.func113, Tryz.ntmps113
 go_wp2
 go_loopg [3, 9, 10] 120 (fun k s v i wr => ∃ (j : Nat) (t ax ay : Int) (cs : List Cx), k + j = 120 /\ i = .int .i64 j /\ s = .int .i64 t /\ -(j : Int) <= t /\ t <= 1000 /\ pL w wr R n cap ao (p + 2 * j) ax ay b.x b.y v cs /\ (-100 <= ax /\ ax <= 100 /\ -100 <= ay /\ ay <= 100) /\ 1 <= cs.length /\ cs.length <= 40 /\ ∀ c ∈ cs, mN c)
 case atStart => exact ⟨0, t, a.x, a.y, [a], rfl, rfl, rfl, by omega, ht1, by simpa using hS, haa, by simp, by simp, fun c hc => by rw [List.mem_singleton.1 hc];exact ha⟩
 case round =>
  obtain ⟨j, t, ax, ay, cs, hj, rfl, rfl, t0, t1, S, hax, l1, l2, hcs⟩ := hrel;obtain ⟨c0, c1, d0, d1⟩ := S.cells;obtain ⟨va, vc, rfl⟩ := kI S.own;have HS : Hid (pL w wr R n cap ao (p + 2 * j) ax ay b.x b.y (.slice va cs.length vc) cs) := S;clear S hS;obtain ⟨e1, he1⟩ : ∃ v, (ax == b.x) = v := ⟨_, rfl⟩;obtain ⟨e2, he2⟩ : ∃ v, (ay == b.y) = v := ⟨_, rfl⟩
  go_upto_region 3 with fail
  go_cut [31] (fun g wx => (∃ gb, g = .bool gb /\ (gb = true -> j < 120 /\ cs.length < 40)) /\ wr = wx)
  case first =>
   by_cases g1 : j < 120
   · by_cases g2 : cs.length < 40
     · have g1' : ((j : Int) < 120) := by omega
       have g2' : ((cs.length : Int) < 40) := by omega
       obtain ⟨e3, he3⟩ : ∃ v, ((cs.length : Int) == 1) = v := ⟨_, rfl⟩
       cases e1 <;> cases e2 <;> cases e3
       all_goals go_wp2
       all_goals go_meet
       all_goals exact ⟨⟨_, rfl, fun _ => ⟨g1, g2⟩⟩, rfl⟩
     · have g1' : ((j : Int) < 120) := by omega
       have g2' : ¬ ((cs.length : Int) < 40) := by omega
       clear he1 he2;go_wp2
       all_goals go_meet
       all_goals exact ⟨⟨_, rfl, fun h => by cases h⟩, rfl⟩
   · have g1' : ¬ ((j : Int) < 120) := by omega
     clear he1 he2;go_wp2
     all_goals go_meet
     all_goals exact ⟨⟨_, rfl, fun h => by cases h⟩, rfl⟩
  case rest =>
   obtain ⟨⟨gb, rfl, hg⟩, rfl⟩ := hcut
   cases gb with
   | false =>
    go_wp2
    go_ret;obtain ⟨p', hp', hr'⟩ := HS.out.rd;refine ⟨⟨_, cs, rfl, eZ HS.out.own (by omega), l1, l2, hcs⟩, ⟨p', by omega, hr'⟩, HS.out.but⟩
   | true =>
    obtain ⟨g1, g2⟩ := hg rfl;clear hg;clear he1 he2
    go_upto_region 5 with fail
    go_cut [11] (fun x wx => (∃ i, x = .int .i64 i /\ -101 <= i /\ i <= 101) /\ pL w wx R n cap ao (p + 2 * j) ax ay b.x b.y (.slice va cs.length vc) cs)
    case first =>
     have hs := LA (b.x - ax)
     go_quiet ((go_at_call 149;exact Calls.quiet_of ((BX _ _).mono fun _ _ h => ⟨h.1, 0, h.2⟩)))
     go_wp2
     all_goals go_meet
     all_goals exact ⟨⟨_, rfl, by omega, by omega⟩, HS.out.drew _⟩
    case rest =>
    clear c0 c1 d0 d1 HS;obtain ⟨⟨x, rfl, x0, x1⟩, S⟩ := hcut;obtain ⟨c0, c1, d0, d1⟩ := S.cells;have HS : Hid (pL w wc R n cap ao (p + 2 * j) ax ay b.x b.y (.slice va cs.length vc) cs) := S;clear S
    go_upto_region 6 with fail
    go_cut [12] (fun x wx => (∃ i, x = .int .i64 i /\ -101 <= i /\ i <= 101) /\ pL w wx R n cap ao (p + 2 * j) ax ay b.x b.y (.slice va cs.length vc) cs)
    case first =>
     have hs := LA (b.y - ay)
     go_quiet ((go_at_call 149;exact Calls.quiet_of ((BX _ _).mono fun _ _ h => ⟨h.1, 0, h.2⟩)))
     go_wp2
     all_goals go_meet
     all_goals exact ⟨⟨_, rfl, by omega, by omega⟩, HS.out.drew _⟩
    case rest =>
    clear c0 c1 d0 d1 HS;obtain ⟨⟨y, rfl, y0, y1⟩, S⟩ := hcut;obtain ⟨c0, c1, d0, d1⟩ := S.cells;have HS : Hid (pL w wc R n cap ao (p + 2 * j) ax ay b.x b.y (.slice va cs.length vc) cs) := S;clear S
    go_upto_region 7 with fail
    go_cut [58] (fun g wx => (∃ gb, g = .bool gb) /\ wc = wx)
    case first =>
     obtain ⟨e1, he1⟩ : ∃ v, (ax == b.x) = v := ⟨_, rfl⟩;obtain ⟨e2, he2⟩ : ∃ v, (ay == b.y) = v := ⟨_, rfl⟩
     by_cases ht : 0 < t
     · go_wp2
       all_goals go_meet
       all_goals exact ⟨⟨_, rfl⟩, rfl⟩
     · cases e1 <;> cases e2
       all_goals go_wp2
       all_goals go_meet
       all_goals exact ⟨⟨_, rfl⟩, rfl⟩
    case rest =>
    obtain ⟨⟨gb, rfl⟩, rfl⟩ := hcut
    go_upto_if 58 with fail
    go_cut [3, 11, 12] (fun s x y wx => (∃ t' x' y' : Int, s = .int .i64 t' /\ -((j : Int) + 1) <= t' /\ t' <= 1000 /\ x = .int .i64 x' /\ -101 <= x' /\ x' <= 102 /\ y = .int .i64 y' /\ -101 <= y' /\ y' <= 102) /\ pL w wx R n cap ao (p + 2 * j + 2) ax ay b.x b.y (.slice va cs.length vc) cs)
    case first =>
     cases gb with
     | false =>
      go_wp2
      go_meet
      obtain ⟨p1, hp1, hr1⟩ := HS.out.rd;exact ⟨⟨t, x, y, rfl, by omega, by omega, rfl, by omega, by omega, rfl, by omega, by omega⟩, HS.out.next (bC.refl _ _) hr1 (by omega) hR⟩
     | true =>
      go_upto_region 8 with fail
      go_cut [11] (fun x wx => (∃ i, x = .int .i64 i /\ -101 <= i /\ i <= 102) /\ pL w wx R n cap ao (p + 2 * j + 1) ax ay b.x b.y (.slice va cs.length vc) cs)
      case first =>
       obtain ⟨p1, hp1, hr1⟩ := HS.out.rd
       go_region_with (go_at_call 24;refine (bG R n cap ao p1 3 _ (hr1.zL (below_drewN (br _ _) _)) (by omega) (by omega)).mono ?_;rintro e w1 ⟨⟨r, rfl, r0, r1, -⟩, hr2, B⟩;replace r1 := r1 (by omega);have k0 := B.cell (p := ⟨w.heap.size, 0, none⟩) (by show w.heap.size ≠ R;omega) c0)
       all_goals (try go_wp2)
       all_goals go_meet
       all_goals exact ⟨⟨_, rfl, by simp only [IntKind.wrap_i64];omega, by simp only [IntKind.wrap_i64];omega⟩, HS.out.next (((bC.refl R wc).drew _).trans B) hr2 (by omega) hR⟩
      case rest =>
      clear c0 c1 d0 d1 HS;obtain ⟨⟨x', rfl, x0', x1'⟩, S⟩ := hcut;obtain ⟨c0, c1, d0, d1⟩ := S.cells;have HS : Hid (pL w wc R n cap ao (p + 2 * j + 1) ax ay b.x b.y (.slice va cs.length vc) cs) := S;clear S
      go_upto_region 9 with fail
      go_cut [12] (fun x wx => (∃ i, x = .int .i64 i /\ -101 <= i /\ i <= 102) /\ pL w wx R n cap ao (p + 2 * j + 2) ax ay b.x b.y (.slice va cs.length vc) cs)
      case first =>
       obtain ⟨p1, hp1, hr1⟩ := HS.out.rd
       go_region_with (go_at_call 24;refine (bG R n cap ao p1 3 _ (hr1.zL (below_drewN (br _ _) _)) (by omega) (by omega)).mono ?_;rintro e w1 ⟨⟨r, rfl, r0, r1, -⟩, hr2, B⟩;replace r1 := r1 (by omega);have k0 := B.cell (p := ⟨w.heap.size, 1, none⟩) (by show w.heap.size ≠ R;omega) c1)
       all_goals (try go_wp2)
       all_goals go_meet
       all_goals exact ⟨⟨_, rfl, by simp only [IntKind.wrap_i64];omega, by simp only [IntKind.wrap_i64];omega⟩, HS.out.next (((bC.refl R wc).drew _).trans B) hr2 (by omega) hR⟩
      case rest =>
      clear c0 c1 d0 d1 HS;obtain ⟨⟨y', rfl, y0', y1'⟩, S⟩ := hcut;go_wp2
      go_meet
      exact ⟨⟨t - 1, x', y', rfl, by omega, by omega, rfl, by omega, by omega, rfl, by omega, by omega⟩, S⟩
    case rest =>
    clear c0 c1 d0 d1 HS x0 x1 y0 y1;obtain ⟨⟨t', x', y', rfl, t0', t1', rfl, x0, x1, rfl, y0, y1⟩, S⟩ := hcut;obtain ⟨c0, c1, d0, d1⟩ := S.cells;have HS : Hid (pL w wc R n cap ao (p + 2 * j + 2) ax ay b.x b.y (.slice va cs.length vc) cs) := S;clear S
    go_upto_region 11 with fail
    go_cut [90] (fun g wx => (∃ gb, g = .bool gb /\ (gb = true -> 0 <= x' /\ x' < 16 /\ 0 <= y' /\ y' < 16)) /\ wc = wx)
    case first =>
     obtain ⟨v1, h1⟩ : ∃ v, dS x' 0 15 = v := ⟨_, rfl⟩;obtain ⟨v2, h2⟩ : ∃ v, dS y' 0 15 = v := ⟨_, rfl⟩;have HX : Hid (v1 = true -> 0 <= x' /\ x' < 16) := fun h => by rw [h] at h1;simp only [dS, dte] at h1;omega
     have HY : Hid (v2 = true -> 0 <= y' /\ y' < 16) := fun h => by rw [h] at h2;simp only [dS, dte] at h2;omega
     have H1 : Hid (dS x' 0 15 = v1) := h1;have H2 : Hid (dS y' 0 15 = v2) := h2;clear h1 h2
     by_cases hx : x' = ax
     · subst hx
       by_cases hy : y' = ay
       · subst hy
         go_wp2
         all_goals go_meet
         all_goals (refine ⟨⟨_, rfl, fun hh => ?_⟩, rfl⟩;first | exact absurd hh Bool.false_ne_true | exact ⟨(HX.out (by trivial)).1, (HX.out (by trivial)).2, (HY.out (by trivial)).1, (HY.out (by trivial)).2⟩)
       · have ey : (y' == ay) = false := by simp [hy]
         cases v1 <;> cases v2
         all_goals go_wp2_with (first | (go_at_call_of 69 (Value.int .i64 x');refine (gL x' 0 15 _ H1.out _).mono ?_;rintro e w1 ⟨rfl, rfl⟩) | (go_at_call_of 69 (Value.int .i64 y');refine (gL y' 0 15 _ H2.out _).mono ?_;rintro e w1 ⟨rfl, rfl⟩))
         all_goals go_meet
         all_goals (refine ⟨⟨_, rfl, fun hh => ?_⟩, rfl⟩;first | exact absurd hh Bool.false_ne_true | exact ⟨(HX.out (by trivial)).1, (HX.out (by trivial)).2, (HY.out (by trivial)).1, (HY.out (by trivial)).2⟩)
     · have ex : (x' == ax) = false := by simp [hx]
       cases v1 <;> cases v2
       all_goals go_wp2_with (first | (go_at_call_of 69 (Value.int .i64 x');refine (gL x' 0 15 _ H1.out _).mono ?_;rintro e w1 ⟨rfl, rfl⟩) | (go_at_call_of 69 (Value.int .i64 y');refine (gL y' 0 15 _ H2.out _).mono ?_;rintro e w1 ⟨rfl, rfl⟩))
       all_goals go_meet
       all_goals (refine ⟨⟨_, rfl, fun hh => ?_⟩, rfl⟩;first | exact absurd hh Bool.false_ne_true | exact ⟨(HX.out (by trivial)).1, (HX.out (by trivial)).2, (HY.out (by trivial)).1, (HY.out (by trivial)).2⟩)
    case rest =>
    obtain ⟨⟨gb, rfl, hg⟩, rfl⟩ := hcut
    cases gb with
    | false =>
     by_cases ht : t' <= 0
     · go_wp2
       go_roundg (gk - 1)
       case measure => omega
       case rel => exact ⟨j + 1, 1, ax, ay, cs, by omega, by go_num, rfl, by omega, by omega, by obtain ⟨p1, hp1, hr1⟩ := HS.out.rd;exact HS.out.next (bC.refl _ _) hr1 (by omega) hR, hax, l1, l2, hcs⟩
     · go_wp2
       go_roundg (gk - 1)
       case measure => omega
       case rel => exact ⟨j + 1, t', ax, ay, cs, by omega, by go_num, rfl, by omega, by omega, by obtain ⟨p1, hp1, hr1⟩ := HS.out.rd;exact HS.out.next (bC.refl _ _) hr1 (by omega) hR, hax, l1, l2, hcs⟩
    | true =>
     have hq := hg rfl;clear hg;have A1 := HS.out.a;have F0 := fun i => A1.frozen i;have A2 := A1.set 0 (.int .i64 x');have F1 := fun i => A2.frozen i;have S0 := HS.out.store x' y' hR;obtain ⟨W0, hW0⟩ : ∃ W0, (wc.setCell ⟨w.heap.size, 0, none⟩ (.int .i64 x')).setCell ⟨w.heap.size, 1, none⟩ (.int .i64 y') = W0 := ⟨_, rfl⟩;rw [hW0] at S0;have m1 : (wc.setCell ⟨w.heap.size, 0, none⟩ (.int .i64 x')).cell? ⟨w.heap.size, 1, none⟩ = some (.int .i64 ay) := A2.cell (i := 1) (by omega);clear d0 d1 A1 A2;obtain ⟨k0, k1, -, -⟩ := S0.cells;have hO := S0.own;have hl := S0.b.lt;have HS0 : Hid (pL w W0 R n cap ao (p + 2 * j + 2) x' y' b.x b.y (.slice va cs.length vc) cs) := S0;clear S0 HS
     go_wp2_with (at_builtin;refine wpList_append_own _ rfl (.tmp 94) (.tmp 96) 168 rfl (w.heap.size + 2) 171 i0 _ 2 16 Tryz.underlying168 hi hz0 hz1 hz2 rfl (by decide) _ _ _ rfl (hO.alloc _) ⟨W0.heap.size, 0, none⟩ 1 1 [.int .i64 x', .int .i64 y'] rfl rfl (QP W0 _ _ _) (QV x' y') (by unfold maxLen;omega) (by omega) (by simp;omega) ?_)
     intro v' w1 hown' hgrow _;have HS1 : Hid (pL w w1 R n cap ao (p + 2 * j + 2) x' y' b.x b.y v' (cs ++ [⟨x', y'⟩])) := HS0.out.more hR _ ⟨x', y'⟩ hgrow hown';clear hown' hgrow hO HS0 c0 c1 k0 k1 m1 hW0 F0 F1;go_wp2
     go_roundg (gk - 1)
     case measure => omega
     case rel =>
      refine ⟨j + 1, t', x', y', _, by omega, by go_num, rfl, by omega, by omega, by obtain ⟨p1, hp1, hr1⟩ := HS1.out.rd;exact HS1.out.next (bC.refl _ _) hr1 (by omega) hR, by omega, by simp, by simp;omega, fun c hc => ?_⟩
      rcases lma.1 hc with hc | hc
      · exact hcs c hc
      · rw [List.mem_singleton.1 hc];show -100 <= x' /\ x' <= 100 /\ -100 <= y' /\ y' <= 100;omega
def oO (x : Wx) : Nat -> Value
 | 0 => .string x.n
 | 1 => .int .i64 x.q
 | 2 => .int .i64 x.s
 | 3 => .int .i64 x.f
 | 4 => .int .i64 x.b
 | 5 => .int .i64 x.l
 | 6 => .slice x.wa x.wl.length x.wc
 | _ => .slice x.la x.ll.length x.lc
def LQ (f : Fx) : Nat -> Value
 | 0 => .string f.n
 | 1 => .int .i64 f.x
 | _ => .int .i64 f.y
structure oX (w : World) (B : Nat) (y : Yx) : Prop where
 own : w.ownsRow B 171 2 (.slice y.a y.l.length y.c) y.l.length (aN Cx.cells y.l)
 l1 : 1 <= y.l.length
 l2 : y.l.length <= 40
 near : ∀ c ∈ y.l, mN c
structure gW (w wx : World) (R n cap : Nat) (ao : Option Addr) (q : Int) (B : Nat) (x : Wx) (fb : List (Nat × Fx)) : Prop where
 rd : ∃ p', p' <= q /\ Rd wx R ao n cap p'
 but : bC R w wx
 lt : w.heap.size < B
 res : ∃ f, wx.rowIs w.heap.size 33 8 f
 obj : wx.rowIs B 33 8 (oO x)
 ws : wx.ownsRow (B + 1) 174 1 (.slice x.wa x.wl.length x.wc) x.wl.length (aN Yx.cells x.wl)
 yn : ∀ y ∈ x.wl, oX wx (B + 1) y
 ls : wx.ownsRow (B + 1) 3 1 (.slice x.la x.ll.length x.lc) x.ll.length (aN kM x.ll)
 fb : ∀ p ∈ fb, B < p.1 /\ wx.rowIs p.1 82 3 (LQ p.2)
theorem cP {w w' : World} {base e sz : Nat} {v : Value} {m : Nat} {xs : List Value} (h : w.ownsRow base e sz v m xs) (hb : ∀ k, base <= k -> k < w.heap.size -> (∀ cs, w.heap[k]? = some (.cells cs e) -> w'.heap[k]? = w.heap[k]?)) : w'.ownsRow base e sz v m xs := by
 obtain ⟨h0, h1 | ⟨g, cap, cur, h1, h2, h3, h4⟩⟩ := h
 · exact ⟨h0, .inl h1⟩
 · exact ⟨h0, .inr ⟨g, cap, cur, h1, h2, (hb g h2 (bP h3) cur h3).trans h3, h4⟩⟩
theorem oX.same {w w' : World} {B : Nat} {y : Yx} (h : oX w B y) (hb : ∀ k, B <= k -> k < w.heap.size -> (∀ cs, w.heap[k]? = some (.cells cs 171) -> w'.heap[k]? = w.heap[k]?)) : oX w' B y := ⟨cP h.own hb, h.l1, h.l2, h.near⟩
section
variable {w wx w1 : World} {R n cap : Nat} {ao : Option Addr} {q q1 p1 : Int} {B : Nat} {x x' : Wx} {fb : List (Nat × Fx)}
theorem gW.next (h : gW w wx R n cap ao q B x fb) (hb : bC R wx w1) (hr : Rd w1 R ao n cap p1) (hp : p1 <= q1) (hR : R < w.heap.size) : gW w w1 R n cap ao q1 B x fb := by
 have hl := h.lt;obtain ⟨f, hf⟩ := h.res;have hk : ∀ k, w.heap.size <= k -> k < wx.heap.size -> w1.heap[k]? = wx.heap[k]? := fun k hk hk2 => hb.block k hk2 (by omega)
 exact ⟨⟨p1, hp, hr⟩, h.but.trans hb, h.lt, ⟨f, hf.of_block (hk _ (nlq _) hf.lt)⟩, h.obj.of_block (hk _ (by omega) h.obj.lt), cP h.ws (fun k h1 h2 _ _ => hk k (by omega) h2), fun y hy => (h.yn y hy).same (fun k h1 h2 _ _ => hk k (by omega) h2), cP h.ls (fun k h1 h2 _ _ => hk k (by omega) h2),
  fun p hp => ⟨(h.fb p hp).1, (h.fb p hp).2.of_block (hk _ (by have := (h.fb p hp).1;omega) (h.fb p hp).2.lt)⟩⟩
theorem gW.wide (h : gW w wx R n cap ao q B x fb) (hq : q <= q1) : gW w wx R n cap ao q1 B x fb :=
 ⟨by obtain ⟨p, hp, hr⟩ := h.rd;exact ⟨p, by omega, hr⟩, h.but, h.lt, h.res, h.obj, h.ws, h.yn, h.ls, h.fb⟩
theorem gW.below (h : gW w wx R n cap ao q B x fb) (hb : Below wx.heap.size wx w1) (hR : R < w.heap.size) : gW w w1 R n cap ao q B x fb := by
 obtain ⟨p, hp, hr⟩ := h.rd;exact h.next (bC.below hb) (hr.zL (hb.mono (by have := h.but.size;omega))) hp hR
theorem gW.set (h : gW w wx R n cap ao q B x fb) (hR : R < w.heap.size) (i : Nat) (u : Value) (hx : ∀ j, j < 8 -> (if j = i then u else oO x j) = oO x' j) (e1 : x'.wa = x.wa) (e2 : x'.wl = x.wl) (e3 : x'.wc = x.wc) (e4 : x'.la = x.la) (e5 : x'.ll = x.ll) (e6 : x'.lc = x.lc) :
 gW w (wx.setCell ⟨B, i, none⟩ u) R n cap ao q B x' fb := by
 have hl := h.lt;obtain ⟨p, hp, hr⟩ := h.rd;obtain ⟨f, hf⟩ := h.res;have hB : Below B wx (wx.setCell ⟨B, i, none⟩ u) := (br B wx).setCell (p := ⟨B, i, none⟩) (nlq _) u;have hk : ∀ k, k ≠ B -> (wx.setCell ⟨B, i, none⟩ u).heap[k]? = wx.heap[k]? := fun k hk => Below.heap_setCell _ _ _ _ hk;have hb := hB.mono (Nat.le_of_lt hl);refine ⟨⟨p, hp, hr.zL (hB.mono (by omega))⟩, ⟨hb.os.trans h.but.os, hb.tape.trans h.but.tape, hb.output.trans h.but.output, Nat.le_trans h.but.size hb.size, fun k hk hs => (hb.block k hk).trans (h.but.block k hk hs)⟩, h.lt, ⟨f, hf.of_block (hk _ (by omega))⟩, (h.obj.set i u).congr hx, ?_, ?_, ?_, fun p hp => ⟨(h.fb p hp).1, (h.fb p hp).2.of_block (hk _ (by have := (h.fb p hp).1;omega))⟩⟩
 · rw [e1, e2, e3];exact cP h.ws (fun k h1 _ _ _ => hk k (by omega))
 · rw [e2];exact fun y hy => (h.yn y hy).same (fun k h1 _ _ _ => hk k (by omega))
 · rw [e4, e5, e6];exact cP h.ls (fun k h1 _ _ _ => hk k (by omega))
theorem gI {e sz base m : Nat} {v : Value} {ys : List Value} {o : Obj} (h' : wx.ownsRow base e sz v m ys) (hg : (wx.alloc o).grownBy w1 v.ownBlock) {k : Nat} (hk : k < wx.heap.size) (hne : ∀ cs, wx.heap[k]? ≠ some (.cells cs e)) : w1.heap[k]? = wx.heap[k]? := by
 refine (hg.block k (by simp;omega) ?_).trans (halq wx o k hk);intro hv;obtain ⟨_, ⟨rfl, _⟩ | ⟨g, cap, cur, rfl, _, h3, _⟩⟩ := h'
 · simp [Value.ownBlock] at hv
 · simp [Value.ownBlock] at hv
   subst hv;exact hne _ h3
theorem fH {k t m e : Nat} {f : Nat -> Value} (h : wx.rowIs k t m f) (hne : t ≠ e) : ∀ cs, wx.heap[k]? ≠ some (.cells cs e) := by
 intro cs hc;obtain ⟨c, h1, _⟩ := h;rw [h1] at hc
 cases hc
 exact hne rfl
theorem nU {e sz base m : Nat} {v : Value} {ys : List Value} {o : Obj} (h' : wx.ownsRow base e sz v m ys) (hg : (wx.alloc o).grownBy w1 v.ownBlock) {base2 e2 sz2 m2 : Nat} {v2 : Value} {ys2 : List Value} (h2 : wx.ownsRow base2 e2 sz2 v2 m2 ys2) (hne : e2 ≠ e) : w1.ownsRow base2 e2 sz2 v2 m2 ys2 :=
 cP h2 (fun k _ hk cs hcs => gI h' hg hk (fun cs' h => by rw [hcs] at h;cases h;exact hne rfl))
theorem gW.addWay (h : gW w wx R n cap ao q B x fb) (hR : R < w.heap.size) (o : Obj) (y : Yx) (hy : oX wx (B + 1) y) (va : Option Addr) (vc : Nat) (hg : (wx.alloc o).grownBy w1 (Value.slice x.wa x.wl.length x.wc).ownBlock)
 (hown : w1.ownsRow (B + 1) 174 1 (.slice va (x.wl.length + 1) vc) (x.wl.length + 1) (aN Yx.cells x.wl ++ y.cells)) :
 gW w (w1.setCell ⟨B, 6, none⟩ (.slice va (x.wl.length + 1) vc)) R n cap ao q B { x with wa := va, wl := x.wl ++ [y], wc := vc } fb := by
 have hl := h.lt;have hol := h.obj.lt;obtain ⟨p, hp, hr⟩ := h.rd;obtain ⟨f, hf⟩ := h.res;have hB1 : Below (B + 1) wx w1 := ((br (B + 1) wx).alloc (by omega) o).grown hg (by simp;omega) (fun k hk => gV h.ws hk);have hB : Below B wx (w1.setCell ⟨B, 6, none⟩ (.slice va (x.wl.length + 1) vc)) := (hB1.mono (Nat.le_succ B)).setCell (p := ⟨B, 6, none⟩) (nlq _) _;have hk : ∀ k, k ≠ B -> (w1.setCell ⟨B, 6, none⟩ (.slice va (x.wl.length + 1) vc)).heap[k]? = w1.heap[k]? := fun k hk => Below.heap_setCell _ _ _ _ hk;have hb := hB.mono (Nat.le_of_lt hl)
 have hY : ∀ y, oX wx (B + 1) y -> oX (w1.setCell ⟨B, 6, none⟩ (.slice va (x.wl.length + 1) vc)) (B + 1) y := fun y hy => by
  have h1 : oX w1 (B + 1) y := ⟨nU h.ws hg hy.own (by decide), hy.l1, hy.l2, hy.near⟩;exact h1.same (fun k h1 _ _ _ => hk k (by omega))
 refine ⟨⟨p, hp, hr.zL (hB.mono (by omega))⟩, ⟨hb.os.trans h.but.os, hb.tape.trans h.but.tape, hb.output.trans h.but.output, Nat.le_trans h.but.size hb.size, fun k hk hs => (hb.block k hk).trans (h.but.block k hk hs)⟩, h.lt, ⟨f, (hf.of_block (hB1.block _ (by omega))).of_block (hk _ (by omega))⟩, ?_, ?_, ?_, ?_, fun p hp => ⟨(h.fb p hp).1, ?_⟩⟩
 · refine ((h.obj.of_block (hB1.block _ (by omega))).set 6 _).congr fun j hj => ?_
   match j, hj with
   | 0, _ | 1, _ | 2, _ | 3, _ | 4, _ | 5, _ | 7, _ => rfl
   | 6, _ => show Value.slice va (x.wl.length + 1) vc = Value.slice va (x.wl ++ [y]).length vc;rw [List.length_append];rfl
 · show World.ownsRow _ (B + 1) _ 1 (.slice va (x.wl ++ [y]).length vc) (x.wl ++ [y]).length (aN Yx.cells (x.wl ++ [y]))
   rw [eS, lL, List.length_append];exact cP hown (fun k h1 _ _ _ => hk k (by omega))
 · intro z hz
   rcases lma.1 hz with hz | hz
   · exact hY z (h.yn z hz)
   · rw [List.mem_singleton.1 hz];exact hY y hy
 · exact cP (nU h.ws hg h.ls (by decide)) (fun k h1 _ _ _ => hk k (by omega))
 · have := h.fb p hp
   exact (this.2.of_block (gI h.ws hg this.2.lt (fH this.2 (by decide)))).of_block (hk _ (by omega))
theorem gW.addLev (h : gW w wx R n cap ao q B x fb) (hR : R < w.heap.size) (o : Obj) (i : Int) (va : Option Addr) (vc : Nat) (hg : (wx.alloc o).grownBy w1 (Value.slice x.la x.ll.length x.lc).ownBlock)
 (hown : w1.ownsRow (B + 1) 3 1 (.slice va (x.ll.length + 1) vc) (x.ll.length + 1) (aN kM x.ll ++ kM i)) :
 gW w (w1.setCell ⟨B, 7, none⟩ (.slice va (x.ll.length + 1) vc)) R n cap ao q B { x with la := va, ll := x.ll ++ [i], lc := vc } fb := by
 have hl := h.lt;have hol := h.obj.lt;obtain ⟨p, hp, hr⟩ := h.rd;obtain ⟨f, hf⟩ := h.res;have hB1 : Below (B + 1) wx w1 := ((br (B + 1) wx).alloc (by omega) o).grown hg (by simp;omega) (fun k hk => gV h.ls hk);have hB : Below B wx (w1.setCell ⟨B, 7, none⟩ (.slice va (x.ll.length + 1) vc)) := (hB1.mono (Nat.le_succ B)).setCell (p := ⟨B, 7, none⟩) (nlq _) _;have hk : ∀ k, k ≠ B -> (w1.setCell ⟨B, 7, none⟩ (.slice va (x.ll.length + 1) vc)).heap[k]? = w1.heap[k]? := fun k hk => Below.heap_setCell _ _ _ _ hk;have hb := hB.mono (Nat.le_of_lt hl);refine ⟨⟨p, hp, hr.zL (hB.mono (by omega))⟩, ⟨hb.os.trans h.but.os, hb.tape.trans h.but.tape, hb.output.trans h.but.output, Nat.le_trans h.but.size hb.size, fun k hk hs => (hb.block k hk).trans (h.but.block k hk hs)⟩, h.lt, ⟨f, (hf.of_block (hB1.block _ (by omega))).of_block (hk _ (by omega))⟩, ?_, ?_, ?_, ?_, fun p hp => ⟨(h.fb p hp).1, ?_⟩⟩
 · refine ((h.obj.of_block (hB1.block _ (by omega))).set 7 _).congr fun j hj => ?_
   match j, hj with
   | 0, _ | 1, _ | 2, _ | 3, _ | 4, _ | 5, _ | 6, _ => rfl
   | 7, _ => show Value.slice va (x.ll.length + 1) vc = Value.slice va (x.ll ++ [i]).length vc;rw [List.length_append];rfl
 · exact cP (nU h.ls hg h.ws (by decide)) (fun k h1 _ _ _ => hk k (by omega))
 · intro y hy
   have h1 : oX w1 (B + 1) y := ⟨nU h.ls hg (h.yn y hy).own (by decide), (h.yn y hy).l1, (h.yn y hy).l2, (h.yn y hy).near⟩;exact h1.same (fun k h1 _ _ _ => hk k (by omega))
 · show World.ownsRow _ (B + 1) _ 1 (.slice va (x.ll ++ [i]).length vc) (x.ll ++ [i]).length (aN kM (x.ll ++ [i]))
   rw [eS, lL, List.length_append];exact cP hown (fun k h1 _ _ _ => hk k (by omega))
 · have := h.fb p hp
   exact (this.2.of_block (gI h.ls hg this.2.lt (fH this.2 (by decide)))).of_block (hk _ (by omega))
end
end Go.Proofs.YtiojdbffjdoniaaGreatDoor
namespace Go.Proofs.YtiojdbffjdoniaaGreatDoor
open Go.RowKit Go.BigFrame Go.Shelf
attribute [local go_sem] Oper.semAt_some
theorem RF {w : World} {z j : Nat} {cs : Array Value} {t : TypeId} {v : Value} (h : w.heap[z]? = some (.cells cs t)) (hj : cs[j]? = some v) : w.cell? ⟨z, j, none⟩ = some v := by simp [World.cell?, h, hj]
theorem GX (w : World) (cs : Array Value) (t : TypeId) : ∃ f, (w.alloc (.cells cs t)).rowIs w.heap.size t cs.size f :=
 ⟨fun i => cs.getD i undef, World.rowIs_alloc w cs t _ (fun i hi => by rw [Array.getElem?_eq_getElem hi];simp [hi])⟩
def sN (i : Nat) : ByteArray := match i with | 0 => ⟨#[97, 49]⟩ | 1 => ⟨#[98]⟩ | 2 => ⟨#[99, 45, 99]⟩ | 3 => ⟨#[100]⟩ | 4 => ⟨#[101]⟩ | _ => ⟨#[102]⟩
theorem tL (i : Nat) : (sN i).size <= 3 := by
 unfold sN
 split <;> decide
theorem gW.start {w w4 : World} {R n cap : Nat} {ao : Option Addr} {q p4 : Int} (hb : bC R w w4) (hr : Rd w4 R ao n cap p4) (hp : p4 <= q) (hres : ∃ f, w4.rowIs w.heap.size 33 8 f) (nm : ByteArray) (a b c : Int) :
 gW w (w4.alloc (.cells #[.string nm, .int .i64 a, .int .i64 0, .int .i64 b, .int .i64 0, .int .i64 c, .slice none 0 0, .slice none 0 0] 33)) R n cap ao q w4.heap.size ⟨nm, a, 0, b, 0, c, none, [], 0, none, [], 0⟩ [] := by
 obtain ⟨f, hf⟩ := hres;have hB : Below w4.heap.size w4 (w4.alloc (.cells #[.string nm, .int .i64 a, .int .i64 0, .int .i64 b, .int .i64 0, .int .i64 c, .slice none 0 0, .slice none 0 0] 33)) := aB (br _ _) _;refine ⟨⟨p4, hp, hr.zL (hB.mono (by have := hr.lt;omega))⟩, hb.trans (bC.below hB), hf.lt, ⟨f, hf.of_block (hB.block _ hf.lt)⟩, ?_, ?_, fun y hy => by simp at hy, ?_, fun p hp => by simp at hp⟩
 · refine World.rowIs_alloc w4 #[.string nm, .int .i64 a, .int .i64 0, .int .i64 b, .int .i64 0, .int .i64 c, .slice none 0 0, .slice none 0 0] 33 _ (fun i hi => ?_)
   match i, hi with
   | 0, _ | 1, _ | 2, _ | 3, _ | 4, _ | 5, _ | 6, _ | 7, _ => rfl
   | k + 8, hi => simp at hi;omega
 · exact World.ownsRow_nil _ _ _ _
 · exact World.ownsRow_nil _ _ _ _
def KY (w : World) (R n cap : Nat) (ao : Option Addr) (q : Int) (B : Nat) (x : Wx) (fb : List (Nat × Fx)) (m c : Int) (f : Int -> Wx) : Nat -> (Nat -> Value) -> World -> Prop
 | 0, _, wx => gW w wx R n cap ao q B x fb
 | 1, vs, wx => gW w wx R n cap ao (q + 1) B x fb /\ ∃ r, vs 3 = .int .i64 r /\ 0 <= r /\ r < m
 | 2, vs, wx => gW w wx R n cap ao (q + 1) B x fb /\ ∃ r, vs 4 = .int .i64 (c + r) /\ 0 <= r /\ r < m
 | _, _, wx => ∃ r, 0 <= r /\ r < m /\ gW w wx R n cap ao (q + 1) B (f r) fb
theorem AL {w : World} {R n cap : Nat} {ao : Option Addr} {q : Int} {B : Nat} {x : Wx} {fb : List (Nat × Fx)} {m c : Int} {f : Int -> Wx} : ∀ k vs vs' wx, (∀ i ∈ [3, 4, 6].take k, vs i = vs' i) -> KY w R n cap ao q B x fb m c f k vs wx -> KY w R n cap ao q B x fb m c f k vs' wx := by
 intro k vs vs' wx h hS
 match k with
 | 0 => exact hS
 | 1 => obtain ⟨h1, r, h2, h3⟩ := hS;exact ⟨h1, r, by rw [← h 3 (by simp)];exact h2, h3⟩
 | 2 => obtain ⟨h1, r, h2, h3⟩ := hS;exact ⟨h1, r, by rw [← h 4 (by simp)];exact h2, h3⟩
 | k + 3 => exact hS
theorem CQ {w wx : World} {R n cap : Nat} {ao : Option Addr} {q : Int} {B : Nat} {x : Wx} {fb : List (Nat × Fx)} {m c : Int} {f : Int -> Wx} {k : Nat} {vs : Nat -> Value} (h : KY w R n cap ao q B x fb m c f k vs wx) (hk : k < 3) : wx.rowIs B 33 8 (oO x) := by
 match k, hk with
 | 0, _ => exact gW.obj h
 | 1, _ | 2, _ => exact h.1.obj
def QZ (R B i1 i2 : Nat) (c : Int) : Nat -> Value -> Prop
 | 0, v => v = .pointer (some ⟨B, i1, none⟩)
 | 1, v => v = .int .i64 c
 | 2, v => v = .pointer (some ⟨R, 0, none⟩)
 | 5, v => v = .pointer (some ⟨B, i2, none⟩)
 | _, _ => True
theorem gW.box {w wx : World} {R n cap : Nat} {ao : Option Addr} {q : Int} {B : Nat} {x : Wx} {fb : List (Nat × Fx)} (h : gW w wx R n cap ao q B x fb) (hR : R < w.heap.size) (f : Fx) :
 gW w (wx.alloc (.cells #[.string f.n, .int .i64 f.x, .int .i64 f.y] 82)) R n cap ao q B x ((wx.heap.size, f) :: fb) := by
 have h1 := h.below (w1 := wx.alloc (.cells #[.string f.n, .int .i64 f.x, .int .i64 f.y] 82)) (aB (br _ _) _) hR;refine ⟨h1.rd, h1.but, h1.lt, h1.res, h1.obj, h1.ws, h1.yn, h1.ls, fun p hp => ?_⟩
 rcases List.mem_cons.1 hp with rfl | hp
 · refine ⟨h.obj.lt, World.rowIs_alloc wx #[.string f.n, .int .i64 f.x, .int .i64 f.y] 82 _ (fun i hi => ?_)⟩
   match i, hi with
   | 0, _ | 1, _ | 2, _ => rfl
   | k + 3, hi => simp at hi;omega
 · exact h1.fb p hp
def S9 (w : World) (R n cap : Nat) (ao : Option Addr) (q : Int) (B : Nat) (x : Wx) (fb : List (Nat × Fx)) (f8 f9 : Fx) : Nat -> (Nat -> Value) -> World -> Prop
 | 0, _, wx => gW w wx R n cap ao q B x fb
 | 1, vs, wx => gW w wx R n cap ao q B x fb /\ vs 4 = Cx.val ⟨f8.x, f8.y⟩
 | 2, vs, wx => gW w wx R n cap ao q B x fb /\ vs 4 = Cx.val ⟨f8.x, f8.y⟩ /\ vs 6 = Cx.val ⟨f9.x, f9.y⟩
 | 3, vs, wx => gW w wx R n cap ao (q + 1) B x fb /\ vs 4 = Cx.val ⟨f8.x, f8.y⟩ /\ vs 6 = Cx.val ⟨f9.x, f9.y⟩ /\ ∃ r, vs 8 = .int .i64 r /\ 0 <= r /\ r < 4
 | 4, vs, wx => gW w wx R n cap ao (q + 241) B x fb /\ ∃ y : Yx, vs 9 = .slice y.a y.l.length y.c /\ oX wx (B + 1) y
 | 5, vs, wx => gW w wx R n cap ao (q + 241) B x fb /\ ∃ y : Yx, vs 10 = y.val /\ oX wx (B + 1) y
 | 6, vs, wx => ∃ wp y, gW w wp R n cap ao (q + 241) B x fb /\ oX wp (B + 1) y /\ wx = wp.alloc (.cells #[.slice y.a y.l.length y.c] 174) /\ vs 11 = .slice (some ⟨wp.heap.size, 0, none⟩) 1 1
 | 7, vs, wx => ∃ wp y va vc, gW w wp R n cap ao (q + 241) B x fb /\ oX wp (B + 1) y /\ vs 12 = .slice va (x.wl.length + 1) vc /\ (wp.alloc (.cells #[.slice y.a y.l.length y.c] 174)).grownBy wx (Value.slice x.wa x.wl.length x.wc).ownBlock /\ wx.ownsRow (B + 1) 174 1 (.slice va (x.wl.length + 1) vc) (x.wl.length + 1) (aN Yx.cells x.wl ++ y.cells)
 | _, _, wx => ∃ y va vc, gW w wx R n cap ao (q + 241) B { x with wa := va, wl := x.wl ++ [y], wc := vc } fb
section
variable {w : World} {R n cap : Nat} {ao : Option Addr} {q : Int} {B : Nat} {x : Wx} {fb : List (Nat × Fx)} {f8 f9 : Fx}
theorem PE : ∀ k vs vs' wx, (∀ i ∈ [4, 6, 8, 9, 10, 11, 12, 14].take k, vs i = vs' i) -> S9 w R n cap ao q B x fb f8 f9 k vs wx -> S9 w R n cap ao q B x fb f8 f9 k vs' wx := by
 intro k vs vs' wx h hS
 match k with
 | 0 => exact hS
 | 1 => exact ⟨hS.1, (h 4 (by simp)).symm.trans hS.2⟩
 | 2 => exact ⟨hS.1, (h 4 (by simp)).symm.trans hS.2.1, (h 6 (by simp)).symm.trans hS.2.2⟩
 | 3 => obtain ⟨h1, h2, h3, r, h4, h5⟩ := hS;exact ⟨h1, (h 4 (by simp)).symm.trans h2, (h 6 (by simp)).symm.trans h3, r, (h 8 (by simp)).symm.trans h4, h5⟩
 | 4 => obtain ⟨h1, y, h4, h5⟩ := hS;exact ⟨h1, y, (h 9 (by simp)).symm.trans h4, h5⟩
 | 5 => obtain ⟨h1, y, h4, h5⟩ := hS;exact ⟨h1, y, (h 10 (by simp)).symm.trans h4, h5⟩
 | 6 => obtain ⟨wp, y, h1, h2, h3, h4⟩ := hS;exact ⟨wp, y, h1, h2, h3, (h 11 (by simp)).symm.trans h4⟩
 | 7 => obtain ⟨wp, y, va, vc, h1, h2, h3, h4⟩ := hS;exact ⟨wp, y, va, vc, h1, h2, (h 12 (by simp)).symm.trans h3, h4⟩
 | k + 8 => exact hS
theorem DZ {wx : World} {k : Nat} {vs : Nat -> Value} (h : S9 w R n cap ao q B x fb f8 f9 k vs wx) (hk : k < 8) : wx.rowIs B 33 8 (oO x) /\ ∀ p ∈ fb, wx.rowIs p.1 82 3 (LQ p.2) := by
 have one : ∀ {q wx}, gW w wx R n cap ao q B x fb -> wx.rowIs B 33 8 (oO x) /\ ∀ p ∈ fb, wx.rowIs p.1 82 3 (LQ p.2) := fun h => ⟨h.obj, fun p hp => (h.fb p hp).2⟩
 match k, hk with
 | 0, _ => exact one h
 | 1, _ | 2, _ | 3, _ | 4, _ | 5, _ => exact one h.1
 | 6, _ =>
  obtain ⟨wp, y, h1, h2, rfl, h4⟩ := h;exact ⟨h1.obj.alloc _, fun p hp => (h1.fb p hp).2.alloc _⟩
 | 7, _ =>
  obtain ⟨wp, y, va, vc, h1, h2, h3, h4, h5⟩ := h;exact ⟨h1.obj.of_block (gI h1.ws h4 h1.obj.lt (fH h1.obj (by decide))), fun p hp => (h1.fb p hp).2.of_block (gI h1.ws h4 (h1.fb p hp).2.lt (fH (h1.fb p hp).2 (by decide)))⟩
end
def P9 (R B : Nat) (x : Wx) (f8 f9 : Fx) : Nat -> Value -> Prop
 | 0, v => v = .pointer (some ⟨B, 6, none⟩)
 | 1, v => v = .slice x.wa x.wl.length x.wc
 | 2, v => v = .pointer (some ⟨R, 0, none⟩)
 | 3, v => v = f8.val
 | 5, v => v = f9.val
 | 7, v => v = .pointer (some ⟨R, 0, none⟩)
 | 13, v => v = .pointer (some ⟨B, 6, none⟩)
 | _, _ => True
def RM (w : World) (R n cap : Nat) (ao : Option Addr) (q : Int) (B : Nat) (x : Wx) (fb : List (Nat × Fx)) : Nat -> (Nat -> Value) -> World -> Prop
 | 0, _, wx => gW w wx R n cap ao q B x fb
 | 1, vs, wx => gW w wx R n cap ao (q + 1) B x fb /\ ∃ r, vs 3 = .int .i64 r /\ 0 <= r /\ r < 4
 | 2, vs, wx => gW w wx R n cap ao (q + 1) B x fb /\ ∃ r, vs 4 = .int .i64 r
 | 3, vs, wx => ∃ wp r, gW w wp R n cap ao (q + 1) B x fb /\ wx = wp.alloc (.cells #[.int .i64 r] 3) /\ vs 5 = .slice (some ⟨wp.heap.size, 0, none⟩) 1 1
 | 4, vs, wx => ∃ wp r va vc, gW w wp R n cap ao (q + 1) B x fb /\ vs 6 = .slice va (x.ll.length + 1) vc /\ (wp.alloc (.cells #[.int .i64 r] 3)).grownBy wx (Value.slice x.la x.ll.length x.lc).ownBlock /\ wx.ownsRow (B + 1) 3 1 (.slice va (x.ll.length + 1) vc) (x.ll.length + 1) (aN kM x.ll ++ kM r)
 | _, _, wx => ∃ r va vc, gW w wx R n cap ao (q + 1) B { x with la := va, ll := x.ll ++ [r], lc := vc } fb
section
variable {w : World} {R n cap : Nat} {ao : Option Addr} {q : Int} {B : Nat} {x : Wx} {fb : List (Nat × Fx)}
theorem NK : ∀ k vs vs' wx, (∀ i ∈ [3, 4, 5, 6, 8].take k, vs i = vs' i) -> RM w R n cap ao q B x fb k vs wx -> RM w R n cap ao q B x fb k vs' wx := by
 intro k vs vs' wx h hS
 match k with
 | 0 => exact hS
 | 1 => obtain ⟨h1, r, h4, h5⟩ := hS;exact ⟨h1, r, (h 3 (by simp)).symm.trans h4, h5⟩
 | 2 => obtain ⟨h1, r, h4⟩ := hS;exact ⟨h1, r, (h 4 (by simp)).symm.trans h4⟩
 | 3 => obtain ⟨wp, y, h1, h3, h4⟩ := hS;exact ⟨wp, y, h1, h3, (h 5 (by simp)).symm.trans h4⟩
 | 4 => obtain ⟨wp, y, va, vc, h1, h3, h4⟩ := hS;exact ⟨wp, y, va, vc, h1, (h 6 (by simp)).symm.trans h3, h4⟩
 | k + 5 => exact hS
theorem NG {wx : World} {k : Nat} {vs : Nat -> Value} (h : RM w R n cap ao q B x fb k vs wx) (hk : k < 5) : wx.rowIs B 33 8 (oO x) := by
 match k, hk with
 | 0, _ => exact gW.obj h
 | 1, _ | 2, _ => exact h.1.obj
 | 3, _ =>
  obtain ⟨wp, y, h1, rfl, h4⟩ := h;exact h1.obj.alloc _
 | 4, _ =>
  obtain ⟨wp, y, va, vc, h1, h3, h4, h5⟩ := h;exact h1.obj.of_block (gI h1.ls h4 h1.obj.lt (fH h1.obj (by decide)))
end
def SM (R B : Nat) (x : Wx) : Nat -> Value -> Prop
 | 0, v => v = .pointer (some ⟨B, 7, none⟩)
 | 1, v => v = .slice x.la x.ll.length x.lc
 | 2, v => v = .pointer (some ⟨R, 0, none⟩)
 | 7, v => v = .pointer (some ⟨B, 7, none⟩)
 | _, _ => True
theorem O0 (W : World) (x : Value) (t : TypeId) : ∀ j u, [x][j]? = some u -> (W.alloc (.cells #[x] t)).cell? ((⟨W.heap.size, 0, none⟩ : Addr).add j) = some u := by
 intro j u hj
 match j, hj with
 | 0, hj => simp at hj;subst hj;simp [Addr.add]
 | n + 1, hj => simp at hj
theorem PI (a : Option Addr) (l c : Nat) : ∀ u ∈ [Value.slice a l c], u.oneCell' = true := by
 intro u hu;simp at hu;subst hu;rfl
theorem QT (x : Int) : ∀ u ∈ [Value.int .i64 x], u.oneCell' = true := by
 intro u hu;simp at hu;subst hu;rfl
structure lA (w : World) (base : Nat) (x : Wx) : Prop where
 ws : w.ownsRow base 174 1 (.slice x.wa x.wl.length x.wc) x.wl.length (aN Yx.cells x.wl)
 yn : ∀ y ∈ x.wl, oX w base y
 ls : w.ownsRow base 3 1 (.slice x.la x.ll.length x.lc) x.ll.length (aN kM x.ll)
 w1 : 1 <= x.wl.length
 w3 : x.wl.length <= 3
 l1 : 1 <= x.ll.length
 l3 : x.ll.length <= 3
 n3 : x.n.size <= 3
theorem zM {α : Type} {c : α -> List Value} {sz : Nat} (hc : ∀ a, (c a).length = sz) {w : World} {base e : Nat} {a : Option Addr} {n cp : Nat} {l : List α} (h : w.ownsRow base e sz (.slice a n cp) l.length (aN c l)) : Xs sz c w a l := by
 obtain ⟨ao, cap, hv, hx, _⟩ := y8 hc h
 cases hv
 exact hx
theorem lA.in {w : World} {base : Nat} {x : Wx} (h : lA w base x) : x.In w :=
 ⟨zM Yx.cells_length h.ws, fun y hy => zM Cx.cells_length (h.yn y hy).own, zM (c := kM) (sz := 1) (fun _ => rfl) h.ls⟩
theorem lA.same {w w' : World} {base : Nat} {x : Wx} (h : lA w base x) (hb : ∀ k, base <= k -> k < w.heap.size -> w'.heap[k]? = w.heap[k]?) : lA w' base x :=
 ⟨cP h.ws (fun k h1 h2 _ _ => hb k h1 h2), fun y hy => (h.yn y hy).same (fun k h1 h2 _ _ => hb k h1 h2), cP h.ls (fun k h1 h2 _ _ => hb k h1 h2), h.w1, h.w3, h.l1, h.l3, h.n3⟩
theorem gW.fin {w wx W : World} {R n cap : Nat} {ao : Option Addr} {q : Int} {B : Nat} {x : Wx} {fb : List (Nat × Fx)} (h : gW w wx R n cap ao q B x fb) (hR : R < w.heap.size) (hb : Below w.heap.size wx W) (hk : ∀ k, k ≠ w.heap.size -> W.heap[k]? = wx.heap[k]?) (w1 : 1 <= x.wl.length) (w3 : x.wl.length <= 3) (l1 : 1 <= x.ll.length) (l3 : x.ll.length <= 3) (n3 : x.n.size <= 3) :
 lA W w.heap.size x /\ (∃ p', p' <= q /\ Rd W R ao n cap p') /\ bC R w W := by
 obtain ⟨p, hp, hr⟩ := h.rd;have hl := h.lt;refine ⟨⟨eZ (cP h.ws (fun k h1 _ _ _ => hk k (by omega))) (by omega), fun y hy => ?_, eZ (cP h.ls (fun k h1 _ _ _ => hk k (by omega))) (by omega), w1, w3, l1, l3, n3⟩, ⟨p, hp, hr.zL (hb.mono hR)⟩, ⟨hb.os.trans h.but.os, hb.tape.trans h.but.tape, hb.output.trans h.but.output, Nat.le_trans h.but.size hb.size, fun k hk hs => (hb.block k hk).trans (h.but.block k hk hs)⟩⟩;have h1 := (h.yn y hy).same (w' := W) (fun k h1 _ _ _ => hk k (by omega));exact ⟨eZ h1.own (by omega), h1.l1, h1.l2, h1.near⟩
set_option maxRecDepth 100000
set_option maxHeartbeats 4000000
theorem BP (R n cap : Nat) (ao : Option Addr) (p now : Int) (fl : List Fx) (fa : Option Addr) (fc : Nat) (w : World) (h : Rd w R ao n cap p) (hp : p <= 800000) (hn0 : -1000000 <= now) (hn1 : now <= 1000000) (hF : ∀ w', bC R w w' -> Xs 3 Fx.cells w' fa fl) (hl1 : 1 <= fl.length) (hl2 : fl.length <= 100) (hfn : ∀ f ∈ fl, mN ⟨f.x, f.y⟩) :
 Calls Tryz.prog 63 #[.pointer (some ⟨R, 0, none⟩), .slice fa fl.length fc, .int .i64 now] w fun e w' => ∃ x, e = .returned (Wx.val x) /\ lA w' w.heap.size x /\
  (∃ p', p' <= p + 1000 /\ Rd w' R ao n cap p') /\ bC R w w' := by
 have hR := h.lt;obtain ⟨iw, hiw, hw0, hw1, hw2⟩ := info_parts Tryz.info174;obtain ⟨ii, hii, hi0, hi1, hi2⟩ := info_parts Tryz.info3
 obtain ⟨bl, off, rfl⟩ : ∃ bl off, fa = some ⟨bl, off, none⟩ := by
  rcases hF w (bC.refl _ _) with h | ⟨bl, off, e, _⟩
  · rw [h] at hl1;simp at hl1
  · exact ⟨bl, off, e⟩
 have HCell : Hid (∀ W, bC R w W -> ∀ i (hi : i < fl.length), aM W bl (off + i * 3) fl[i].cells) := fun W hW i hi => by
  rcases hF W hW with h | ⟨bl', off', e, hc⟩
  · rw [h] at hl1;simp at hl1
  · cases e;exact hc i hi
 clear hF;have B1 : Below w.heap.size w (w.alloc (.cells #[.string ⟨#[]⟩, .int .i64 0, .int .i64 0, .int .i64 0, .int .i64 0, .int .i64 0, .slice none 0 0, .slice none 0 0] 33)) := aB (br _ _) _
 have r1 : ∃ f, (w.alloc (.cells #[.string ⟨#[]⟩, .int .i64 0, .int .i64 0, .int .i64 0, .int .i64 0, .int .i64 0, .slice none 0 0, .slice none 0 0] 33)).rowIs w.heap.size 33 8 f :=
  GX w #[.string ⟨#[]⟩, .int .i64 0, .int .i64 0, .int .i64 0, .int .i64 0, .int .i64 0, .slice none 0 0, .slice none 0 0] 33
 obtain ⟨U1, hU1⟩ : ∃ U, w.alloc (.cells #[.string ⟨#[]⟩, .int .i64 0, .int .i64 0, .int .i64 0, .int .i64 0, .int .i64 0, .slice none 0 0, .slice none 0 0] 33) = U := ⟨_, rfl⟩;have z1 : U1.heap.size = w.heap.size + 1 := by rw [← hU1];simp
 rw [hU1] at B1 r1;have B2 : Below w.heap.size w (U1.alloc (.cells #[.string ⟨#[97, 49]⟩, .string ⟨#[98]⟩, .string ⟨#[99, 45, 99]⟩, .string ⟨#[100]⟩, .string ⟨#[101]⟩, .string ⟨#[102]⟩] 9)) := aB B1 _;have N2 := wnq U1 (.cells #[.string ⟨#[97, 49]⟩, .string ⟨#[98]⟩, .string ⟨#[99, 45, 99]⟩, .string ⟨#[100]⟩, .string ⟨#[101]⟩, .string ⟨#[102]⟩] 9)
 have r2 : ∃ f, (U1.alloc (.cells #[.string ⟨#[97, 49]⟩, .string ⟨#[98]⟩, .string ⟨#[99, 45, 99]⟩, .string ⟨#[100]⟩, .string ⟨#[101]⟩, .string ⟨#[102]⟩] 9)).rowIs w.heap.size 33 8 f := by
  obtain ⟨f, hf⟩ := r1;exact ⟨f, hf.alloc _⟩
 obtain ⟨U2, hU2⟩ : ∃ U, U1.alloc (.cells #[.string ⟨#[97, 49]⟩, .string ⟨#[98]⟩, .string ⟨#[99, 45, 99]⟩, .string ⟨#[100]⟩, .string ⟨#[101]⟩, .string ⟨#[102]⟩] 9) = U := ⟨_, rfl⟩;rw [hU2, z1] at N2;rw [hU2] at B2 r2
 have hs : ∀ i, i < 6 -> U2.cell? ⟨w.heap.size + 1, i, none⟩ = some (.string (sN i)) := fun i hi => by
  match i, hi with
  | 0, _ | 1, _ | 2, _ | 3, _ | 4, _ | 5, _ => exact RF N2 rfl
 have hr2 : Rd U2 R ao n cap p := h.zL (B2.mono hR)
 go_enter Tryz.func63, Tryz.ntmps63
 go_wp2_with fail
 refine (LX R n cap ao p U2 hr2 (by omega) (w.heap.size + 1) 6 6 sN (by omega) (by omega) (by omega) hs).mono ?_;rintro e w1 ⟨⟨i, -, rfl⟩, h1, T1⟩;obtain ⟨nm, hnm⟩ : ∃ nm, nm = sN i := ⟨_, rfl⟩;have HNm : Hid (nm.size <= 3) := by rw [Hid, hnm];exact tL i
 rw [← hnm];clear hnm hs N2;go_wp2_with fail
 refine (bG R n cap ao _ _ _ h1 (by omega) (by omega)).mono ?_;rintro e w2 ⟨⟨a1, rfl, a10, a11, -⟩, h2, T2⟩
 replace a11 := a11 (by omega)
 go_wp2_with fail
 refine (bG R n cap ao _ _ _ h2 (by omega) (by omega)).mono ?_;rintro e w3 ⟨⟨a2, rfl, a20, a21, -⟩, h3, T3⟩
 replace a21 := a21 (by omega)
 go_wp2_with fail
 refine (bG R n cap ao _ _ _ h3 (by omega) (by omega)).mono ?_;rintro e w4 ⟨⟨a3, rfl, a30, a31, -⟩, h4, T4⟩
 replace a31 := a31 (by omega)
 have TT : bC R U2 w4 := ((T1.trans T2).trans T3).trans T4
 have r4 : ∃ f, w4.rowIs w.heap.size 33 8 f := by
  obtain ⟨f, hf⟩ := r2;exact ⟨f, hf.of_block (TT.block _ hf.lt (by omega))⟩
 have S0 := gW.start (q := p + 4) ((bC.below B2).trans TT) h4 (by omega) r4 nm (1 + a1) (now + a2) a3;obtain ⟨x0, DQ⟩ : ∃ x : Wx, x = ⟨nm, 1 + a1, 0, now + a2, 0, a3, none, [], 0, none, [], 0⟩ := ⟨_, rfl⟩;rw [← DQ] at S0;have HS : Hid (gW w (w4.alloc (.cells #[.string nm, .int .i64 (1 + a1), .int .i64 0, .int .i64 (now + a2), .int .i64 0, .int .i64 a3, .slice none 0 0, .slice none 0 0] 33)) R n cap ao (p + 4) w4.heap.size x0 []) := S0;have hq0 : 1 <= x0.q /\ x0.q <= 2 := by rw [DQ];dsimp only;omega
 have hf0 : -1000000 <= x0.f /\ x0.f <= 1000030 := by rw [DQ];dsimp only;omega
 have HX0 : Hid (x0 = ⟨nm, 1 + a1, 0, now + a2, 0, a3, none, [], 0, none, [], 0⟩) := DQ;clear DQ S0
 go_upto_region 2 with fail
 go_cut [] (fun wx => ∃ r : Int, 0 <= r /\ r < 3 /\ gW w wx R n cap ao (p + 4 + 1) w4.heap.size ({ x0 with s := x0.q + r }) [])
 case first =>
  refine wpIn_wide.1 (bU (F := Fence.wide) (n := 0) (by kernel_rfl) [some 25, some 26, some 27, some 28, some 29, some 30, none] 10 [3, 4, 6] (KY w R n cap ao (p + 4) w4.heap.size x0 [] 3 x0.q (fun r => { x0 with s := x0.q + r })) (QZ R w4.heap.size 1 2 x0.q) (by kernel_rfl) (by kernel_rfl) (by decide) ?loc ?h0 ?read ?eff ?fin (by decide))
  case loc => exact AL
  case h0 => exact HS.out.below (br _ _).drew hR
  case read =>
   intro j o k vs w' ho hc hk hnw hS hde;have hj : j < 7 := (lgs.1 ho).1
   match j, hj with
   | 0, _ | 2, _ | 5, _ =>
    simp at ho;subst ho;simp only [aE, Act.put];gi_wp2;exact ⟨_, by simp [aI], rfl⟩
   | 1, _ =>
    have hk3 : k < 3 := fG hnw (c := 6) (by decide) (by kernel_rfl);have hcl : w'.cell? ⟨w4.heap.size, 1, none⟩ = some (.int .i64 x0.q) := (CQ hS hk3).cell (i := 1) (by omega);simp at ho;subst ho;have d0 : vs 0 = _ := (Zq hde 0).1 (by decide);simp only [aE, Act.put];rw [d0];gi_wp2;exact ⟨_, by simp [aI, d0], rfl⟩
   | 3, _ | 4, _ | 6, _ => exact absurd hc (by decide)
   | q + 7, h => exact absurd h (by omega)
  case eff =>
   intro k i o vs w' hi ho hS hde
   match k with
   | 0 =>
    simp at hi;subst hi;simp at ho;subst ho;have d2 : vs 2 = _ := hde (eD 2) (by simp) rfl (by decide);have hW : gW w w' R n cap ao _ _ _ _ := hS;obtain ⟨p1, hp1, hr1⟩ := hW.rd;simp only [aE, Act.put];rw [d2];gi_wp2_with fail
    refine ⟨trivial, rfl, ?_⟩;refine (cw.2 (bG R n cap ao p1 3 w' hr1 (by omega) (by omega))).mono ?_;rintro e w1 ⟨⟨r, rfl, r0, r1, -⟩, hr2, B1⟩;have HW := hW.next (q1 := p + 4 + 1) B1 hr2 (by omega) hR
    replace r1 := r1 (by omega)
    clear hW hS;gi_wp2;exact ⟨.int .i64 r, by simp [aI, d2], HW, r, by simp [aI], r0, r1⟩
   | 1 =>
    simp at hi;subst hi;simp at ho;subst ho;obtain ⟨hW, r, d3, r0, r1⟩ := hS;have d1 : vs 1 = _ := hde (eD 1) (by simp) rfl (by decide);have HW : Hid _ := hW;clear hW;simp only [aE, Act.put];rw [d1, d3];gi_wp2;exact ⟨.int .i64 (x0.q + r), by simp [aI, d1, d3], HW.out, r, by simp [aI], r0, r1⟩
   | 2 =>
    simp at hi;subst hi;simp at ho;subst ho;obtain ⟨hW, r, d4, r0, r1⟩ := hS;have d5 : vs 5 = _ := hde (eD 5) (by simp) rfl (by decide);have hc2 := hW.obj.cell (i := 2) (by omega);have hfr := fun i => hW.obj.frozen i;have HW : Hid _ := hW;clear hW;simp only [aE, Act.put];rw [d5, d4];gi_wp2;refine ⟨undef, by simp [aI, d5, d4], r, r0, r1, HW.out.set hR 2 _ (fun j hj => ?_) rfl rfl rfl rfl rfl rfl⟩
    match j, hj with
    | 0, _ | 1, _ | 2, _ | 3, _ | 4, _ | 5, _ | 6, _ | 7, _ => rfl
   | k + 3 => simp at hi
  case fin =>
   intro vs w' hS hP;simp only [aE, Act.put];generalize vs 0 = u0v;generalize vs 1 = u1v;generalize vs 2 = u2v;generalize vs 3 = u3v;generalize vs 4 = u4v;generalize vs 5 = u5v;go_wp2_with fail
   go_meet
   exact hS
 case rest =>
 obtain ⟨b1, b10, b11, S1⟩ := hcut;clear HS r4 TT T1 T2 T3 T4 h1 h2 h3 h4 B1 B2 r1 r2 hU1 hU2 z1 hr2;have HN0 : Hid (x0.n.size <= 3 /\ x0.wl.length = 0 /\ x0.ll.length = 0) := by rw [HX0.out];exact ⟨HNm.out, rfl, rfl⟩
 obtain ⟨x1, hx1⟩ : ∃ x : Wx, x = { x0 with s := x0.q + b1 } := ⟨_, rfl⟩;rw [← hx1] at S1;have hf1 : -1000000 <= x1.f /\ x1.f <= 1000030 := by rw [hx1];exact hf0
 have HN1 : Hid (x1.n.size <= 3 /\ x1.wl.length = 0 /\ x1.ll.length = 0) := by rw [hx1];exact HN0.out
 have HS : Hid (gW w wc R n cap ao (p + 5) w4.heap.size x1 []) := S1.wide (by omega);clear S1 hx1 HN0 HX0 HNm hf0 hq0 b10 b11 a10 a11 a20 a21 a30 a31
 go_upto_region 3 with fail
 go_cut [] (fun wx => ∃ r : Int, 0 <= r /\ r < 6 /\ gW w wx R n cap ao (p + 5 + 1) w4.heap.size ({ x1 with b := x1.f + r }) [])
 case first =>
  refine wpIn_wide.1 (bU (F := Fence.wide) (n := 0) (by kernel_rfl) [some 31, some 32, some 33, some 34, some 35, some 36, none] 10 [3, 4, 6] (KY w R n cap ao (p + 5) w4.heap.size x1 [] 6 x1.f (fun r => { x1 with b := x1.f + r })) (QZ R w4.heap.size 3 4 x1.f) (by kernel_rfl) (by kernel_rfl) (by decide) ?loc ?h0 ?read ?eff ?fin (by decide))
  case loc => exact AL
  case h0 => exact HS.out.below (br _ _).drew hR
  case read =>
   intro j o k vs w' ho hc hk hnw hS hde;have hj : j < 7 := (lgs.1 ho).1
   match j, hj with
   | 0, _ | 2, _ | 5, _ =>
    simp at ho;subst ho;simp only [aE, Act.put];gi_wp2;exact ⟨_, by simp [aI], rfl⟩
   | 1, _ =>
    have hk3 : k < 3 := fG hnw (c := 6) (by decide) (by kernel_rfl);have hcl : w'.cell? ⟨w4.heap.size, 3, none⟩ = some (.int .i64 x1.f) := (CQ hS hk3).cell (i := 3) (by omega);simp at ho;subst ho;have d0 : vs 0 = _ := (Zq hde 0).1 (by decide);simp only [aE, Act.put];rw [d0];gi_wp2;exact ⟨_, by simp [aI, d0], rfl⟩
   | 3, _ | 4, _ | 6, _ => exact absurd hc (by decide)
   | q + 7, h => exact absurd h (by omega)
  case eff =>
   intro k i o vs w' hi ho hS hde
   match k with
   | 0 =>
    simp at hi;subst hi;simp at ho;subst ho;have d2 : vs 2 = _ := hde (eD 2) (by simp) rfl (by decide);have hW : gW w w' R n cap ao _ _ _ _ := hS;obtain ⟨p1, hp1, hr1⟩ := hW.rd;simp only [aE, Act.put];rw [d2];gi_wp2_with fail
    refine ⟨trivial, rfl, ?_⟩;refine (cw.2 (bG R n cap ao p1 6 w' hr1 (by omega) (by omega))).mono ?_;rintro e w1 ⟨⟨r, rfl, r0, r1, -⟩, hr2, B1⟩;have HW := hW.next (q1 := p + 5 + 1) B1 hr2 (by omega) hR
    replace r1 := r1 (by omega)
    clear hW hS;gi_wp2;exact ⟨.int .i64 r, by simp [aI, d2], HW, r, by simp [aI], r0, r1⟩
   | 1 =>
    simp at hi;subst hi;simp at ho;subst ho;obtain ⟨hW, r, d3, r0, r1⟩ := hS;have d1 : vs 1 = _ := hde (eD 1) (by simp) rfl (by decide);have HW : Hid _ := hW;clear hW;simp only [aE, Act.put];rw [d1, d3];gi_wp2;exact ⟨.int .i64 (x1.f + r), by simp [aI, d1, d3], HW.out, r, by simp [aI], r0, r1⟩
   | 2 =>
    simp at hi;subst hi;simp at ho;subst ho;obtain ⟨hW, r, d4, r0, r1⟩ := hS;have d5 : vs 5 = _ := hde (eD 5) (by simp) rfl (by decide);have hc2 := hW.obj.cell (i := 4) (by omega);have hfr := fun i => hW.obj.frozen i;have HW : Hid _ := hW;clear hW;simp only [aE, Act.put];rw [d5, d4];gi_wp2;refine ⟨undef, by simp [aI, d5, d4], r, r0, r1, HW.out.set hR 4 _ (fun j hj => ?_) rfl rfl rfl rfl rfl rfl⟩
    match j, hj with
    | 0, _ | 1, _ | 2, _ | 3, _ | 4, _ | 5, _ | 6, _ | 7, _ => rfl
   | k + 3 => simp at hi
  case fin =>
   intro vs w' hS hP;simp only [aE, Act.put];generalize vs 0 = u0v;generalize vs 1 = u1v;generalize vs 2 = u2v;generalize vs 3 = u3v;generalize vs 4 = u4v;generalize vs 5 = u5v;go_wp2_with fail
   go_meet
   exact hS
 case rest =>
 obtain ⟨b2, b20, b21, S2⟩ := hcut;obtain ⟨x2, hx2⟩ : ∃ x : Wx, x = { x1 with b := x1.f + b2 } := ⟨_, rfl⟩;rw [← hx2] at S2;have HN2 : Hid (x2.n.size <= 3 /\ x2.wl.length = 0 /\ x2.ll.length = 0) := by rw [hx2];exact HN1.out
 clear hx2 HN1 HS hf1;obtain ⟨p4, hp4, hr4⟩ := S2.rd;have HS2 : Hid _ := S2;clear S2;go_wp2_with fail
 refine (bG R n cap ao p4 _ _ hr4 (by omega) (by omega)).mono ?_;rintro e w5 ⟨⟨i1, rfl, i10, i11, -⟩, hr5, T5⟩
 replace i11 := i11 (by omega)
 obtain ⟨i, rfl⟩ := Int.eq_ofNat_of_zero_le i10;have S3 := HS2.out.next (q1 := p + 7) T5 hr5 (by omega) hR;have hil : i < fl.length := by omega
 obtain ⟨f8, hf8⟩ : ∃ f, f = fl[i] := ⟨_, rfl⟩;obtain ⟨k0, k1, k2⟩ := jB (HCell.out _ S3.but i hil);rw [← hf8] at k0 k1 k2;have HF8 : Hid (mN ⟨f8.x, f8.y⟩) := by rw [hf8];exact hfn _ (lgm _)
 clear hf8;have S4 := S3.box hR f8;have HS4 : Hid _ := S4;obtain ⟨p5, hp5, hr6⟩ := S4.rd;clear S4 S3 HS2 hr5 T5 hr4;go_wp2_with fail
 refine (bG R n cap ao p5 _ _ hr6 (by omega) (by omega)).mono ?_;rintro e w6 ⟨⟨i2, rfl, i20, i21, -⟩, hr7, T6⟩
 replace i21 := i21 (by omega)
 obtain ⟨i', rfl⟩ := Int.eq_ofNat_of_zero_le i20;have S5 := HS4.out.next (q1 := p + 8) T6 hr7 (by omega) hR;have hil' : i' < fl.length := by omega
 obtain ⟨f9, hf9⟩ : ∃ f, f = fl[i'] := ⟨_, rfl⟩;clear k0 k1 k2;obtain ⟨k0, k1, k2⟩ := jB (HCell.out _ S5.but i' hil');rw [← hf9] at k0 k1 k2;have HF9 : Hid (mN ⟨f9.x, f9.y⟩) := by rw [hf9];exact hfn _ (lgm _)
 clear hf9;have S6 := S5.box hR f9;have HS6 : Hid _ := S6;obtain ⟨p6, hp6, hr8⟩ := S6.rd;clear S6 S5 HS4 hr7 T6 hr6;go_wp2_with fail
 refine (bG R n cap ao p6 _ _ hr8 (by omega) (by omega)).mono ?_;rintro e w7 ⟨⟨i3, rfl, i30, i31, -⟩, hr9, T7⟩
 replace i31 := i31 (by omega)
 obtain ⟨N0, rfl⟩ := Int.eq_ofNat_of_zero_le i30;have HS7 : Hid _ := HS6.out.next (q1 := p + 9) T7 hr9 (by omega) hR;clear HS6 hr9 T7 hr8 k0 k1 k2;go_wp2_with fail
 go_loopg [10] (1 + N0) (fun k i wr => ∃ x : Wx, i = .int .i64 (k : Int) /\ x.wl.length + k = 1 + N0 /\ x.n.size <= 3 /\ x.ll.length = 0 /\ gW w wr R n cap ao (p + 9 + 241 * (x.wl.length : Int)) w4.heap.size x [(w6.heap.size, f9), (w5.heap.size, f8)])
 case atStart => exact ⟨x2, by go_num, by rw [HN2.out.2.1];omega, HN2.out.1, HN2.out.2.2, by rw [HN2.out.2.1];simpa using HS7.out⟩
 case round =>
  clear HS7 HN2;obtain ⟨x, rfl, hN, hn3, hll, S⟩ := hrel;have HLL : Hid (x.ll.length = 0) := hll;have HNN : Hid (x.wl.length + gk = 1 + N0) := hN;have hxl : x.wl.length <= 3 := by omega
  have hgx : gk <= 3 := by omega
  by_cases hk : 0 < gk
  · have hxl2 : x.wl.length <= 2 := by omega
    clear hN hll;obtain ⟨q, hq⟩ : ∃ q : Int, q = p + 9 + 241 * (x.wl.length : Int) := ⟨_, rfl⟩;have hq1 : q <= 801000 := by omega
    rw [← hq] at S;have HQ : Hid (q = p + 9 + 241 * (x.wl.length : Int)) := hq;have HS : Hid (gW w wr R n cap ao q w4.heap.size x [(w6.heap.size, f9), (w5.heap.size, f8)]) := S;clear S hq
    go_upto_region 9 with fail
    refine wpIn_wide.1 (bU (F := Fence.wide) (n := 0) (by kernel_rfl) [some 58, some 59, some 60, some 61, some 62, some 63, some 64, some 65, some 66, some 67, some 68, some 69, some 70, some 71, none] 16 [4, 6, 8, 9, 10, 11, 12, 14] (S9 w R n cap ao (q) w4.heap.size x [(w6.heap.size, f9), (w5.heap.size, f8)] f8 f9) (P9 R w4.heap.size x f8 f9) (by kernel_rfl) (by kernel_rfl) (by decide) ?loc ?h0 ?read ?eff ?fin (by decide))
    case loc => exact PE
    case h0 => exact HS.out.below (br _ _).drew hR
    case read =>
     intro j o k vs w' ho hc hk hnw hS hde;have hj : j < 15 := (lgs.1 ho).1
     match j, hj with
     | 0, _ | 2, _ | 7, _ | 13, _ =>
      simp at ho;subst ho;simp only [aE, Act.put];gi_wp2;exact ⟨_, by simp [aI], rfl⟩
     | 1, _ =>
      have hk3 : k < 8 := fG hnw (c := 14) (by decide) (by kernel_rfl);have hcl : w'.cell? ⟨w4.heap.size, 6, none⟩ = some (.slice (x).wa (x).wl.length (x).wc) := (DZ hS hk3).1.cell (i := 6) (by omega);simp at ho;subst ho;have d0 : vs 0 = _ := (Zq hde 0).1 (by decide);simp only [aE, Act.put];rw [d0];gi_wp2;exact ⟨_, by simp [aI, d0], rfl⟩
     | 3, _ =>
      have hk3 : k < 8 := fG hnw (c := 14) (by decide) (by kernel_rfl);have hbx := (DZ hS hk3).2 (w5.heap.size, f8) (by simp);have m0 : w'.cell? ⟨w5.heap.size, 0, none⟩ = some (.string f8.n) := hbx.cell (i := 0) (by omega);have m1 : w'.cell? ⟨w5.heap.size, 1, none⟩ = some (.int .i64 f8.x) := hbx.cell (i := 1) (by omega);have m2 : w'.cell? ⟨w5.heap.size, 2, none⟩ = some (.int .i64 f8.y) := hbx.cell (i := 2) (by omega);clear hbx;simp at ho;subst ho;simp only [aE, Act.put];gi_wp2;exact ⟨_, by simp [aI], rfl⟩
     | 4, _ | 6, _ | 8, _ | 9, _ | 10, _ | 11, _ | 12, _ | 14, _ => exact absurd hc (by decide)
     | 5, _ =>
      have hk3 : k < 8 := fG hnw (c := 14) (by decide) (by kernel_rfl);have hbx := (DZ hS hk3).2 (w6.heap.size, f9) (by simp);have m0 : w'.cell? ⟨w6.heap.size, 0, none⟩ = some (.string f9.n) := hbx.cell (i := 0) (by omega);have m1 : w'.cell? ⟨w6.heap.size, 1, none⟩ = some (.int .i64 f9.x) := hbx.cell (i := 1) (by omega);have m2 : w'.cell? ⟨w6.heap.size, 2, none⟩ = some (.int .i64 f9.y) := hbx.cell (i := 2) (by omega);clear hbx;simp at ho;subst ho;simp only [aE, Act.put];gi_wp2;exact ⟨_, by simp [aI], rfl⟩
     | q + 15, h => exact absurd h (by omega)
    case eff =>
     intro k i o vs w' hi ho hS hde
     match k with
     | 0 =>
      simp at hi;subst hi;simp at ho;subst ho;have d3 : vs 3 = _ := hde (eD 3) (by simp) rfl (by decide);have hW : gW w w' R n cap ao (q) w4.heap.size x [(w6.heap.size, f9), (w5.heap.size, f8)] := hS;simp only [aE, Act.put];rw [d3];gi_wp2_with fail
      refine ⟨trivial, rfl, ?_⟩;refine (cw.2 (LU f8 w')).mono ?_;rintro e w1 ⟨rfl, hb1⟩;have HW := hW.below hb1 hR;clear hW hS;gi_wp2;exact ⟨Cx.val ⟨f8.x, f8.y⟩, by simp [aI, d3], HW, by simp [aI]⟩
     | 1 =>
      simp at hi;subst hi;simp at ho;subst ho;have d5 : vs 5 = _ := hde (eD 5) (by simp) rfl (by decide);obtain ⟨hW, d4⟩ := hS;simp only [aE, Act.put];rw [d5];gi_wp2_with fail
      refine ⟨trivial, rfl, ?_⟩;refine (cw.2 (LU f9 w')).mono ?_;rintro e w1 ⟨rfl, hb1⟩;have HW := hW.below hb1 hR;have D4 : Hid _ := d4;clear hW d4;gi_wp2;exact ⟨Cx.val ⟨f9.x, f9.y⟩, by simp [aI, d5, D4.out], HW, by simp [aI];exact D4.out, by simp [aI]⟩
     | 2 =>
      simp at hi;subst hi;simp at ho;subst ho;have d7 : vs 7 = _ := hde (eD 7) (by simp) rfl (by decide);obtain ⟨hW, d4, d6⟩ := hS;obtain ⟨p1, hp1, hr1⟩ := hW.rd;simp only [aE, Act.put];rw [d7];gi_wp2_with fail
      refine ⟨trivial, rfl, ?_⟩;refine (cw.2 (bG R n cap ao p1 4 w' hr1 (by omega) (by omega))).mono ?_;rintro e w1 ⟨⟨r, rfl, r0, r1, -⟩, hr2, B1⟩;have HW := hW.next (q1 := q + 1) B1 hr2 (by omega) hR
      replace r1 := r1 (by omega)
      have D4 : Hid _ := d4;have D6 : Hid _ := d6;clear hW d4 d6;gi_wp2;exact ⟨.int .i64 r, by simp [aI, d7, D4.out, D6.out], HW, by simp [aI];exact D4.out, by simp [aI];exact D6.out, r, by simp [aI], r0, r1⟩
     | 3 =>
      simp at hi;subst hi;simp at ho;subst ho;have d2 : vs 2 = _ := hde (eD 2) (by simp) rfl (by decide);obtain ⟨hW, d4, d6, r, d8, r0, r1⟩ := hS;obtain ⟨p1, hp1, hr1⟩ := hW.rd;simp only [aE, Act.put];rw [d2, d4, d6, d8];gi_wp2_with fail
      refine ⟨trivial, rfl, ?_⟩;refine (cw.2 (ME R n cap ao p1 r ⟨f8.x, f8.y⟩ ⟨f9.x, f9.y⟩ w' hr1 (by omega) HF8.out HF9.out r0 (by omega))).mono ?_;rintro e w1 ⟨⟨v, cs, rfl, O1, c1, c2, c3⟩, ⟨p2, hp2, hr2⟩, B1⟩;obtain ⟨ya, yc, rfl⟩ := kI O1;have HW := hW.next (q1 := q + 241) B1 hr2 (by omega) hR;have HY : oX w1 (w4.heap.size + 1) ⟨ya, cs, yc⟩ := ⟨eZ O1 hW.obj.lt, c1, c2, c3⟩;clear hW O1 c3;gi_wp2;exact ⟨.slice ya cs.length yc, by simp [aI, d2, d4, d6, d8], HW, ⟨ya, cs, yc⟩, by simp [aI], HY⟩
     | 4 =>
      simp at hi;subst hi;simp at ho;subst ho;obtain ⟨hW, y, d9, hY⟩ := hS;have HW : Hid _ := hW;have HY : Hid _ := hY;clear hW hY;simp only [aE, Act.put];rw [d9];gi_wp2;exact ⟨y.val, by simp [aI, d9], HW.out, y, by simp [aI], HY.out⟩
     | 5 =>
      simp at hi;subst hi;simp at ho;subst ho;obtain ⟨hW, y, d10, hY⟩ := hS;have HW : Hid _ := hW;have HY : Hid _ := hY;clear hW hY;simp only [aE, Act.put];rw [d10];gi_wp2;exact ⟨.slice (some ⟨w'.heap.size, 0, none⟩) 1 1, by simp [aI, d10], w', y, HW.out, HY.out, rfl, by simp [aI]⟩
     | 6 =>
      simp at hi;subst hi;simp at ho;subst ho;obtain ⟨wp, y, hW, hY, rfl, d11⟩ := hS;have d1 : vs 1 = _ := hde (eD 1) (by simp) rfl (by decide);have hO := hW.ws;have hlt := hW.obj.lt;have HW : Hid _ := hW;have HY : Hid _ := hY;clear hW hY;simp only [aE, Act.put, List.setIfInBounds_toArray, List.set_cons_succ, List.set_cons_zero];rw [d1, d11];refine wpListIn_append_own _ rfl (.tmp 59) (.tmp 69) 30 rfl (w4.heap.size + 1) 174 iw _ 1 24 Tryz.underlying30 hiw hw0 hw1 hw2 rfl (by decide) _ _ _ rfl (hO.alloc _) ⟨wp.heap.size, 0, none⟩ 1 1 [.slice y.a y.l.length y.c] rfl rfl (O0 wp _ _) (PI _ _ _) (by unfold maxLen;omega) (by omega) (by simp;omega) ?_;intro v' w1 hown' hgrow _;obtain ⟨va, vc, rfl⟩ := kI hown';refine ⟨.slice va (x.wl.length + 1) vc, by simp [aI, d1, d11, Act.put], wp, y, va, vc, HW.out, HY.out, by simp [aI], hgrow, hown'⟩
     | 7 =>
      simp at hi;subst hi;simp at ho;subst ho;obtain ⟨wp, y, va, vc, hW, hY, d12, hg, hown⟩ := hS;have d13 : vs 13 = _ := hde (eD 13) (by simp) rfl (by decide);have hob := hW.obj.of_block (gI hW.ws hg hW.obj.lt (fH hW.obj (by decide)));have hc6 := hob.cell (i := 6) (by omega);have hfr := fun i => hob.frozen i;have HN := hW.addWay hR _ y hY va vc hg hown;have HN' : Hid _ := HN;clear HN hW hY hg hown hob;simp only [aE, Act.put];rw [d13, d12];gi_wp2;exact ⟨undef, by simp [aI, d13, d12], y, va, vc, HN'.out⟩
     | k + 8 => simp at hi
    case fin =>
     intro vs w' hS hP;simp only [aE, Act.put];generalize vs 0 = u0v;generalize vs 1 = u1v;generalize vs 2 = u2v;generalize vs 3 = u3v;generalize vs 4 = u4v;generalize vs 5 = u5v;generalize vs 6 = u6v;generalize vs 7 = u7v;generalize vs 8 = u8v;generalize vs 9 = u9v;generalize vs 10 = u10v;generalize vs 11 = u11v;generalize vs 12 = u12v;generalize vs 13 = u13v;have hcut := hS;clear hS hP;obtain ⟨y, va, vc, S'⟩ := hcut;have HS' : Hid _ := S';clear S';go_wp2
     go_roundg (gk - 1)
     case measure => omega
     case rel => exact ⟨{ x with wa := va, wl := x.wl ++ [y], wc := vc }, by go_num, by show (x.wl ++ [y]).length + _ = _;rw [List.length_append];have := HNN.out;show x.wl.length + 1 + _ = _;omega, hn3, HLL.out, HS'.out.wide (by show q + 241 <= p + 9 + 241 * ((x.wl ++ [y]).length : Int);rw [HQ.out, List.length_append];show _ <= p + 9 + 241 * ((x.wl.length + 1 : Nat) : Int);omega)⟩
  · have hgk : gk = 0 := by omega
    subst hgk;clear hk;have hw1 : 1 <= x.wl.length := by omega
    obtain ⟨p8, hp8, hr10⟩ := S.rd;have HS : Hid _ := S;clear S hN hll HNN;go_wp2_with fail
    refine (bG R n cap ao p8 _ _ hr10 (by omega) (by omega)).mono ?_;rintro e w8 ⟨⟨i4, rfl, i40, i41, -⟩, hr11, T8⟩
    replace i41 := i41 (by omega)
    obtain ⟨M0, rfl⟩ := Int.eq_ofNat_of_zero_le i40;have HS8 : Hid _ := HS.out.next (q1 := p + 800) T8 hr11 (by omega) hR;clear HS hr10 hr11 T8;go_wp2_with fail
    go_loopg [11] (1 + M0) (fun k i wr => ∃ x : Wx, i = .int .i64 (k : Int) /\ x.ll.length + k = 1 + M0 /\ x.n.size <= 3 /\ 1 <= x.wl.length /\ x.wl.length <= 3 /\ gW w wr R n cap ao (p + 800 + (x.ll.length : Int)) w4.heap.size x [(w6.heap.size, f9), (w5.heap.size, f8)])
    case atStart => exact ⟨x, by go_num, by rw [HLL.out];omega, hn3, hw1, hxl, by rw [HLL.out];simpa using HS8.out⟩
    case round =>
     clear HS8 HLL hw1 hxl hn3;obtain ⟨x, rfl, hN, n3, w1, w3, S⟩ := hrel;have HNN : Hid (x.ll.length + gk = 1 + M0) := hN;have hxl : x.ll.length <= 3 := by omega
     have hgx : gk <= 3 := by omega
     by_cases hk : 0 < gk
     · have hxl2 : x.ll.length <= 2 := by omega
       clear hN;obtain ⟨q, hq⟩ : ∃ q : Int, q = p + 800 + (x.ll.length : Int) := ⟨_, rfl⟩;have hq1 : q <= 802000 := by omega
       rw [← hq] at S;have HQ : Hid (q = p + 800 + (x.ll.length : Int)) := hq;have HS : Hid (gW w wr R n cap ao q w4.heap.size x [(w6.heap.size, f9), (w5.heap.size, f8)]) := S;clear S hq
       go_upto_region 13 with fail
       refine wpIn_wide.1 (bU (F := Fence.wide) (n := 0) (by kernel_rfl) [some 79, some 80, some 81, some 82, some 83, some 84, some 85, some 86, none] 10 [3, 4, 5, 6, 8] (RM w R n cap ao (q) w4.heap.size x [(w6.heap.size, f9), (w5.heap.size, f8)]) (SM R w4.heap.size x) (by kernel_rfl) (by kernel_rfl) (by decide) ?loc ?h0 ?read ?eff ?fin (by decide))
       case loc => exact NK
       case h0 => exact HS.out.below (br _ _).drew hR
       case read =>
        intro j o k vs w' ho hc hk hnw hS hde;have hj : j < 9 := (lgs.1 ho).1
        match j, hj with
        | 0, _ | 2, _ | 7, _ =>
         simp at ho;subst ho;simp only [aE, Act.put];gi_wp2;exact ⟨_, by simp [aI], rfl⟩
        | 1, _ =>
         have hk3 : k < 5 := fG hnw (c := 8) (by decide) (by kernel_rfl);have hcl : w'.cell? ⟨w4.heap.size, 7, none⟩ = some (.slice (x).la (x).ll.length (x).lc) := (NG hS hk3).cell (i := 7) (by omega);simp at ho;subst ho;have d0 : vs 0 = _ := (Zq hde 0).1 (by decide);simp only [aE, Act.put];rw [d0];gi_wp2;exact ⟨_, by simp [aI, d0], rfl⟩
        | 3, _ | 4, _ | 5, _ | 6, _ | 8, _ => exact absurd hc (by decide)
        | q + 9, h => exact absurd h (by omega)
       case eff =>
        intro k i o vs w' hi ho hS hde
        match k with
        | 0 =>
         simp at hi;subst hi;simp at ho;subst ho;have d2 : vs 2 = _ := hde (eD 2) (by simp) rfl (by decide);have hW : gW w w' R n cap ao (q) w4.heap.size x [(w6.heap.size, f9), (w5.heap.size, f8)] := hS;obtain ⟨p1, hp1, hr1⟩ := hW.rd;simp only [aE, Act.put];rw [d2];gi_wp2_with fail
         refine ⟨trivial, rfl, ?_⟩;refine (cw.2 (bG R n cap ao p1 4 w' hr1 (by omega) (by omega))).mono ?_;rintro e w1 ⟨⟨r, rfl, r0, r1, -⟩, hr2, B1⟩;have HW := hW.next (q1 := q + 1) B1 hr2 (by omega) hR
         replace r1 := r1 (by omega)
         clear hW hS;gi_wp2;exact ⟨.int .i64 r, by simp [aI, d2], HW, r, by simp [aI], r0, r1⟩
        | 1 =>
         simp at hi;subst hi;simp at ho;subst ho;obtain ⟨hW, r, d3, r0, r1⟩ := hS;have HW : Hid _ := hW;clear hW;simp only [aE, Act.put];rw [d3];gi_wp2;exact ⟨.int .i64 (1 + r), by simp [aI, d3], HW.out, 1 + r, by simp [aI]⟩
        | 2 =>
         simp at hi;subst hi;simp at ho;subst ho;obtain ⟨hW, r, d4⟩ := hS;have HW : Hid _ := hW;clear hW;simp only [aE, Act.put];rw [d4];gi_wp2;exact ⟨.slice (some ⟨w'.heap.size, 0, none⟩) 1 1, by simp [aI, d4], w', r, HW.out, rfl, by simp [aI]⟩
        | 3 =>
         simp at hi;subst hi;simp at ho;subst ho;obtain ⟨wp, r, hW, rfl, d5⟩ := hS;have d1 : vs 1 = _ := hde (eD 1) (by simp) rfl (by decide);have hO := hW.ls;have hlt := hW.obj.lt;have HW : Hid _ := hW;clear hW;simp only [aE, Act.put, List.setIfInBounds_toArray, List.set_cons_succ, List.set_cons_zero];rw [d1, d5];refine wpListIn_append_own _ rfl (.tmp 80) (.tmp 84) 31 rfl (w4.heap.size + 1) 3 ii _ 1 8 Tryz.underlying31 hii hi0 hi1 hi2 rfl (by decide) _ _ _ rfl (hO.alloc _) ⟨wp.heap.size, 0, none⟩ 1 1 [.int .i64 r] rfl rfl (O0 wp _ _) (QT _) (by unfold maxLen;omega) (by omega) (by simp;omega) ?_;intro v' w1 hown' hgrow _;obtain ⟨va, vc, rfl⟩ := kI hown';refine ⟨.slice va (x.ll.length + 1) vc, by simp [aI, d1, d5, Act.put], wp, r, va, vc, HW.out, by simp [aI], hgrow, hown'⟩
        | 4 =>
         simp at hi;subst hi;simp at ho;subst ho;obtain ⟨wp, r, va, vc, hW, d6, hg, hown⟩ := hS;have d7 : vs 7 = _ := hde (eD 7) (by simp) rfl (by decide);have hob := hW.obj.of_block (gI hW.ls hg hW.obj.lt (fH hW.obj (by decide)));have hc7 := hob.cell (i := 7) (by omega);have hfr := fun i => hob.frozen i;have HN := hW.addLev hR _ r va vc hg hown;have HN' : Hid _ := HN;clear HN hW hg hown hob;simp only [aE, Act.put];rw [d7, d6];gi_wp2;exact ⟨undef, by simp [aI, d7, d6], r, va, vc, HN'.out⟩
        | k + 5 => simp at hi
       case fin =>
        intro vs w' hS hP;simp only [aE, Act.put];generalize vs 0 = u0v;generalize vs 1 = u1v;generalize vs 2 = u2v;generalize vs 3 = u3v;generalize vs 4 = u4v;generalize vs 5 = u5v;generalize vs 6 = u6v;generalize vs 7 = u7v;have hcut := hS;clear hS hP;obtain ⟨y, va, vc, S'⟩ := hcut;have HS' : Hid _ := S';clear S';go_wp2
        go_roundg (gk - 1)
        case measure => omega
        case rel => exact ⟨{ x with la := va, ll := x.ll ++ [y], lc := vc }, by go_num, by show (x.ll ++ [y]).length + _ = _;rw [List.length_append];have := HNN.out;show x.ll.length + 1 + _ = _;omega, n3, w1, w3, HS'.out.wide (by show q + 1 <= p + 800 + ((x.ll ++ [y]).length : Int);rw [HQ.out, List.length_append];show _ <= p + 800 + ((x.ll.length + 1 : Nat) : Int);omega)⟩
     · have hgk : gk = 0 := by omega
       subst hgk;clear hk;have l1 : 1 <= x.ll.length := by omega
       have l3 : x.ll.length <= 3 := by omega
       obtain ⟨p9, hp9, hr12⟩ := S.rd;have HS : Hid _ := S;clear S hN HNN;go_wp2_with fail
       refine (bG R n cap ao p9 _ _ hr12 (by omega) (by omega)).mono ?_;rintro e w9 ⟨⟨i5, rfl, i50, i51, -⟩, hr13, T9⟩;have HS9 : Hid (gW w w9 R n cap ao (p + 810) w4.heap.size x [(w6.heap.size, f9), (w5.heap.size, f8)]) := HS.out.next T9 hr13 (by omega) hR;have HP : Hid (x.n.size <= 3 /\ 1 <= x.wl.length /\ x.wl.length <= 3 /\ 1 <= x.ll.length /\ x.ll.length <= 3) := ⟨n3, w1, w3, l1, l3⟩;clear HS hr12 hr13 T9 n3 w1 w3 l1 l3 hxl
       go_upto_if 89 with fail
       go_cut [] (fun wx => ∃ x : Wx, (x.n.size <= 3 /\ 1 <= x.wl.length /\ x.wl.length <= 3 /\ 1 <= x.ll.length /\ x.ll.length <= 3) /\ gW w wx R n cap ao (p + 810) w4.heap.size x [(w6.heap.size, f9), (w5.heap.size, f8)])
       case first =>
        by_cases hz : i5 = 0
        · subst hz
          have c5 := HS9.out.obj.cell (i := 5) (by omega);have hfr := fun i => HS9.out.obj.frozen i;go_wp2
          go_meet
          refine ⟨{ x with l := 300 }, HP.out, HS9.out.set hR 5 _ (fun j hj => ?_) rfl rfl rfl rfl rfl rfl⟩
          match j, hj with
          | 0, _ | 1, _ | 2, _ | 3, _ | 4, _ | 5, _ | 6, _ | 7, _ => rfl
        · have hzb : (i5 == 0) = false := by simp [hz]
          go_wp2
          go_meet
          exact ⟨x, HP.out, HS9.out⟩
       case rest =>
       clear HP HS9;obtain ⟨x, HP, S⟩ := hcut;obtain ⟨p10, hp10, hr14⟩ := S.rd;have HS : Hid _ := S;clear S;go_wp2_with fail
       refine (bG R n cap ao p10 _ _ hr14 (by omega) (by omega)).mono ?_;rintro e w10 ⟨⟨i6, rfl, i60, i61, -⟩, hr15, PD⟩;have HS10 : Hid (gW w w10 R n cap ao (p + 811) w4.heap.size x [(w6.heap.size, f9), (w5.heap.size, f8)]) := HS.out.next PD hr15 (by omega) hR;clear HS hr14 hr15 PD
       go_upto_if 93 with fail
       go_cut [] (fun wx => ∃ x : Wx, (x.n.size <= 3 /\ 1 <= x.wl.length /\ x.wl.length <= 3 /\ 1 <= x.ll.length /\ x.ll.length <= 3) /\ gW w wx R n cap ao (p + 820) w4.heap.size x [(w6.heap.size, f9), (w5.heap.size, f8)])
       case first =>
        by_cases hz : i6 = 0
        · subst hz
          obtain ⟨p11, hp11, hr16⟩ := HS10.out.rd;go_wp2_with fail
          refine (bG R n cap ao p11 _ _ hr16 (by omega) (by omega)).mono ?_;rintro e w11 ⟨⟨i7, rfl, i70, i71, -⟩, hr17, T11⟩
          replace i71 := i71 (by omega)
          have HS11 := HS10.out.next (q1 := p + 820) T11 hr17 (by omega) hR;have c3 := HS11.obj.cell (i := 3) (by omega);have hfr := fun i => HS11.obj.frozen i
          have HS12 : gW w (w11.setCell ⟨w4.heap.size, 3, none⟩ (.int .i64 (10000 - i7))) R n cap ao (p + 820) w4.heap.size { x with f := 10000 - i7 } [(w6.heap.size, f9), (w5.heap.size, f8)] := HS11.set hR 3 _ (fun j hj => by
           match j, hj with
           | 0, _ | 1, _ | 2, _ | 3, _ | 4, _ | 5, _ | 6, _ => rfl
           | 7, _ => rfl) rfl rfl rfl rfl rfl rfl
          have d3 : (w11.setCell ⟨w4.heap.size, 3, none⟩ (.int .i64 (10000 - i7))).cell? ⟨w4.heap.size, 3, none⟩ = some (.int .i64 (10000 - i7)) := HS12.obj.cell (i := 3) (by omega);have d4 : (w11.setCell ⟨w4.heap.size, 3, none⟩ (.int .i64 (10000 - i7))).cell? ⟨w4.heap.size, 4, none⟩ = some (.int .i64 x.b) := HS12.obj.cell (i := 4) (by omega);have hfs := fun i => HS12.obj.frozen i;have HS12' : Hid _ := HS12;clear HS12 HS11 hr16 hr17 T11;go_wp2
          go_meet
          refine ⟨{ x with f := 10000 - i7, b := 10000 - i7 }, HP, HS12'.out.set hR 4 _ (fun j hj => ?_) rfl rfl rfl rfl rfl rfl⟩
          match j, hj with
          | 0, _ | 1, _ | 2, _ | 3, _ | 4, _ | 5, _ | 6, _ | 7, _ => rfl
        · have hzb : (i6 == 0) = false := by simp [hz]
          go_wp2
          go_meet
          exact ⟨x, HP, HS10.out.wide (by omega)⟩
       case rest =>
       clear HS10 HP;obtain ⟨x, ⟨n3, w1, w3, l1, l3⟩, S⟩ := hcut;have HS : Hid (gW w wc R n cap ao (p + 820) w4.heap.size x [(w6.heap.size, f9), (w5.heap.size, f8)]) := S;clear S;obtain ⟨zf, Z0⟩ := HS.out.res;have HO := HS.out.obj;have o0 : wc.cell? ⟨w4.heap.size, 0, none⟩ = some (.string x.n) := HO.cell (i := 0) (by omega);have o1 : wc.cell? ⟨w4.heap.size, 1, none⟩ = some (.int .i64 x.q) := HO.cell (i := 1) (by omega);have o2 : wc.cell? ⟨w4.heap.size, 2, none⟩ = some (.int .i64 x.s) := HO.cell (i := 2) (by omega);have o3 : wc.cell? ⟨w4.heap.size, 3, none⟩ = some (.int .i64 x.f) := HO.cell (i := 3) (by omega);have o4 : wc.cell? ⟨w4.heap.size, 4, none⟩ = some (.int .i64 x.b) := HO.cell (i := 4) (by omega);have o5 : wc.cell? ⟨w4.heap.size, 5, none⟩ = some (.int .i64 x.l) := HO.cell (i := 5) (by omega);have o6 : wc.cell? ⟨w4.heap.size, 6, none⟩ = some (.slice x.wa x.wl.length x.wc) := HO.cell (i := 6) (by omega);have o7 : wc.cell? ⟨w4.heap.size, 7, none⟩ = some (.slice x.la x.ll.length x.lc) := HO.cell (i := 7) (by omega);have g0 := Z0.cell (i := 0) (by omega);have t0 := fun i => Z0.frozen i;have Z1 := Z0.set 0 (.string x.n);have g1 := Z1.cell (i := 1) (by omega);have t1 := fun i => Z1.frozen i;have Z2 := Z1.set 1 (.int .i64 x.q);have g2 := Z2.cell (i := 2) (by omega);have t2 := fun i => Z2.frozen i;have Z3 := Z2.set 2 (.int .i64 x.s);have g3 := Z3.cell (i := 3) (by omega);have t3 := fun i => Z3.frozen i;have Z4 := Z3.set 3 (.int .i64 x.f);have g4 := Z4.cell (i := 4) (by omega);have t4 := fun i => Z4.frozen i;have Z5 := Z4.set 4 (.int .i64 x.b);have g5 := Z5.cell (i := 5) (by omega);have t5 := fun i => Z5.frozen i;have Z6 := Z5.set 5 (.int .i64 x.l);have g6 := Z6.cell (i := 6) (by omega);have t6 := fun i => Z6.frozen i;have Z7 := Z6.set 6 (.slice x.wa x.wl.length x.wc);have g7 := Z7.cell (i := 7) (by omega);have t7 := fun i => Z7.frozen i;have Z8 := Z7.set 7 (.slice x.la x.ll.length x.lc);obtain ⟨W8, hW8⟩ : ∃ W, ((((((((wc.setCell ⟨w.heap.size, 0, none⟩ (.string x.n)).setCell ⟨w.heap.size, 1, none⟩ (.int .i64 x.q)).setCell ⟨w.heap.size, 2, none⟩ (.int .i64 x.s)).setCell ⟨w.heap.size, 3, none⟩ (.int .i64 x.f)).setCell ⟨w.heap.size, 4, none⟩ (.int .i64 x.b)).setCell ⟨w.heap.size, 5, none⟩ (.int .i64 x.l)).setCell ⟨w.heap.size, 6, none⟩ (.slice x.wa x.wl.length x.wc)).setCell ⟨w.heap.size, 7, none⟩ (.slice x.la x.ll.length x.lc)) = W := ⟨_, rfl⟩;rw [hW8] at Z8;have e0 : W8.cell? ⟨w.heap.size, 0, none⟩ = some (.string x.n) := (Z8.cell (i := 0) (by omega)).trans (by simp);have e1 : W8.cell? ⟨w.heap.size, 1, none⟩ = some (.int .i64 x.q) := (Z8.cell (i := 1) (by omega)).trans (by simp);have e2 : W8.cell? ⟨w.heap.size, 2, none⟩ = some (.int .i64 x.s) := (Z8.cell (i := 2) (by omega)).trans (by simp);have e3 : W8.cell? ⟨w.heap.size, 3, none⟩ = some (.int .i64 x.f) := (Z8.cell (i := 3) (by omega)).trans (by simp);have e4 : W8.cell? ⟨w.heap.size, 4, none⟩ = some (.int .i64 x.b) := (Z8.cell (i := 4) (by omega)).trans (by simp);have e5 : W8.cell? ⟨w.heap.size, 5, none⟩ = some (.int .i64 x.l) := (Z8.cell (i := 5) (by omega)).trans (by simp);have e6 : W8.cell? ⟨w.heap.size, 6, none⟩ = some (.slice x.wa x.wl.length x.wc) := (Z8.cell (i := 6) (by omega)).trans (by simp);have e7 : W8.cell? ⟨w.heap.size, 7, none⟩ = some (.slice x.la x.ll.length x.lc) := (Z8.cell (i := 7) (by omega)).trans (by simp);have BW : Below w.heap.size wc W8 := by rw [← hW8];exact ((((((((br w.heap.size wc).setCell (p := ⟨w.heap.size, 0, none⟩) (nlq _) _).setCell (p := ⟨w.heap.size, 1, none⟩) (nlq _) _).setCell (p := ⟨w.heap.size, 2, none⟩) (nlq _) _).setCell (p := ⟨w.heap.size, 3, none⟩) (nlq _) _).setCell (p := ⟨w.heap.size, 4, none⟩) (nlq _) _).setCell (p := ⟨w.heap.size, 5, none⟩) (nlq _) _).setCell (p := ⟨w.heap.size, 6, none⟩) (nlq _) _).setCell (p := ⟨w.heap.size, 7, none⟩) (nlq _) _
       have KW : ∀ k, k ≠ w.heap.size -> W8.heap[k]? = wc.heap[k]? := fun k hk => by rw [← hW8];exact (((((((Below.heap_setCell _ _ _ _ hk).trans (Below.heap_setCell _ _ _ _ hk)).trans (Below.heap_setCell _ _ _ _ hk)).trans (Below.heap_setCell _ _ _ _ hk)).trans (Below.heap_setCell _ _ _ _ hk)).trans (Below.heap_setCell _ _ _ _ hk)).trans (Below.heap_setCell _ _ _ _ hk)).trans (Below.heap_setCell _ _ _ _ hk)
       have HFin : Hid _ := HS.out.fin hR BW KW w1 w3 l1 l3 n3;clear Z0 Z1 Z2 Z3 Z4 Z5 Z6 Z7 Z8 HO BW KW HS;go_wp2_with fail
       refine bpr (v := x.val) (by simp [results, Tryz.results63, go_sem, e0, e1, e2, e3, e4, e5, e6, e7]) rfl ⟨x, rfl, HFin.out.1, ?_, HFin.out.2.2⟩;obtain ⟨p', hp', hr'⟩ := HFin.out.2.1;exact ⟨p', by omega, hr'⟩
end Go.Proofs.YtiojdbffjdoniaaGreatDoor
