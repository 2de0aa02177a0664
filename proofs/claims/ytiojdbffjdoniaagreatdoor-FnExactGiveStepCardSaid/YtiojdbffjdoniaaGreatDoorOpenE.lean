import Derived.Test.YtiojdbffjdoniaaGreatDoorOpenW
import Derived.Test.YtiojdbffjdoniaaGreatDoorSm0
namespace Go.Proofs.YtiojdbffjdoniaaGreatDoor
set_option maxRecDepth 100000
open Go.ChangeShapes Go.WideShapes Go.ChangeAt Go.RowKit Go.Deep
theorem Tryz.cells55 : Tryz.prog.cellsOf 55 = 12 := by kernel_rfl
theorem Tryz.cells4 : Tryz.prog.cellsOf 4 = 1 := by kernel_rfl
section
variable {H : Type} {enc : TypeId × Value -> H} {w : World} {base : Nat} {spare : Nat -> Bool} {held : Bool}
theorem F3 {n : Nat} {cs : List Value} {x : DataW H × List MemPlace} (hlen : cs.length = 12) (h : DataW.trod enc Tryz.prog w base spare held n 55 cs = some x) :
 ∃ f : Ev, cs = [.int .i64 f.k, .string f.n, .bool f.t, .string f.x.n, .int .i64 f.x.q, .int .i64 f.x.s, .int .i64 f.x.f, .int .i64 f.x.b, .int .i64 f.x.l, .slice f.x.wa f.x.wl.length f.x.wc, .slice f.x.la f.x.ll.length f.x.lc, .slice f.ta f.tl.length f.tc] /\ f.x.In w /\ f.x.Wide /\ f.n.size <= maxLen /\ iL w f.ta f.tl /\ f.tl.length <= maxLen := by
 obtain ⟨xs, m, _, _, _, hx, hf⟩ := DataW.trod_struct Tryz.underlying55 h
 match cs, hlen with
 | [v0, v1, v2, v3, v4, v5, v6, v7, v8, v9, v10, v11], _ =>
  have hx3 : xs.length = 5 := hx
  match xs, hx3 with
  | [y0, y1, y2, y3, y4], _ =>
   have g0 : DataW.trod enc Tryz.prog w base spare held m 3 (([v0, v1, v2, v3, v4, v5, v6, v7, v8, v9, v10, v11].drop 0).take (Tryz.prog.cellsOf 3)) = some y0 := hf 0 _ rfl; have g1 : DataW.trod enc Tryz.prog w base spare held m 9 (([v0, v1, v2, v3, v4, v5, v6, v7, v8, v9, v10, v11].drop 1).take (Tryz.prog.cellsOf 9)) = some y1 := hf 1 _ rfl; have g2 : DataW.trod enc Tryz.prog w base spare held m 4 (([v0, v1, v2, v3, v4, v5, v6, v7, v8, v9, v10, v11].drop 2).take (Tryz.prog.cellsOf 4)) = some y2 := hf 2 _ rfl; have g3 : DataW.trod enc Tryz.prog w base spare held m 52 (([v0, v1, v2, v3, v4, v5, v6, v7, v8, v9, v10, v11].drop 3).take (Tryz.prog.cellsOf 52)) = some y3 := hf 3 _ rfl; have g4 : DataW.trod enc Tryz.prog w base spare held m 53 (([v0, v1, v2, v3, v4, v5, v6, v7, v8, v9, v10, v11].drop 11).take (Tryz.prog.cellsOf 53)) = some y4 := hf 4 _ rfl; rw [Tryz.cells3] at g0; rw [Tryz.cells9] at g1; rw [Tryz.cells4] at g2; rw [Tryz.cells52] at g3; rw [Tryz.cells53] at g4; simp only [List.drop_zero, lds, lts, List.take_zero] at g0 g1 g2 g3 g4; obtain ⟨a0, e0, _, _⟩ := DataW.trod_int Tryz.underlying3 g0; obtain ⟨a1, e1, _, hs⟩ := DataW.trod_string Tryz.underlying9 g1; obtain ⟨a2, e2, _⟩ := DataW.trod_bool Tryz.underlying4 g2; obtain ⟨f, e3, hi, hw⟩ := J7 rfl g3; obtain ⟨p4, n4, c4, rfl⟩ := jS Tryz.underlying53 g4; obtain ⟨l4, q4, b4, m4⟩ := pM g4; simp at e0 e1 e2 e3; obtain ⟨r0, r1, r2, r3, r4, r5, r6, r7⟩ := e3; subst e0 e1 e2 q4 r0 r1 r2 r3 r4 r5 r6 r7; exact ⟨⟨a0, a1, a2, f, p4, l4, c4⟩, rfl, hi, hw, hs, b4, m4⟩
end
end Go.Proofs.YtiojdbffjdoniaaGreatDoor
