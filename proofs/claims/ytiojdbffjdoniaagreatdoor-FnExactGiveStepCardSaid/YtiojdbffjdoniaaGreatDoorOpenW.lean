import Derived.Test.YtiojdbffjdoniaaGreatDoorOpenB
import Derived.Test.YtiojdbffjdoniaaGreatDoorTurn
namespace Go.Proofs.YtiojdbffjdoniaaGreatDoor
set_option maxRecDepth 100000
open Go.ChangeShapes Go.WideShapes Go.ChangeAt Go.RowKit Go.Deep
theorem Tryz.cells280 : Tryz.prog.cellsOf 280 = 2 := by kernel_rfl
theorem Tryz.cells212 : Tryz.prog.cellsOf 212 = 1 := by kernel_rfl
theorem Tryz.cells210 : Tryz.prog.cellsOf 210 = 1 := by kernel_rfl
theorem Tryz.cells50 : Tryz.prog.cellsOf 50 = 1 := by kernel_rfl
theorem Tryz.cells31 : Tryz.prog.cellsOf 31 = 1 := by kernel_rfl
theorem Tryz.cells52 : Tryz.prog.cellsOf 52 = 8 := by kernel_rfl
section
variable {H : Type} {enc : TypeId × Value -> H} {w : World} {base : Nat} {spare : Nat -> Bool} {held : Bool}
theorem nA {α : Type} (d : α) {t e : TypeId} (sz : Nat) (hsz : 0 < sz) (c : α -> List Value) (hcl : ∀ a, (c a).length = sz) (Pa : α -> Prop) (ht : Tryz.prog.underlying t = some (.slice e)) (hce : Tryz.prog.cellsOf e = sz)
 (hel0 : ∀ {n : Nat} {cs : List Value} {x : DataW H × List MemPlace}, cs.length = sz -> DataW.trod enc Tryz.prog w base spare held n e cs = some x -> ∃ a, cs = c a /\ Pa a)
 {fuel : Nat} {a : Option Addr} {len cap : Nat} {x : DataW H × List MemPlace} (h : DataW.trod enc Tryz.prog w base spare held fuel t [.slice a len cap] = some x) :
 ∃ l : List α, l.length = len /\ Xs sz c w a l /\ len <= maxLen /\ ∀ f ∈ l, Pa f := by
 rcases open_slice ht h with ⟨hcs, _⟩ | ⟨ad, len', cap', m, n, D, Pl, hcs, _, hl, hm, hmm, _, hel⟩
 · simp at hcs
   obtain ⟨rfl, rfl, rfl⟩ := hcs; exact ⟨[], rfl, Or.inl rfl, nz _, by simp⟩
 · simp at hcs
   obtain ⟨rfl, rfl, rfl⟩ := hcs; have hlm : len <= m := by rw [hmm]; split <;> omega
   by_cases h0 : len = 0
   · subst h0
     exact ⟨[], rfl, Or.inl rfl, nz _, by simp⟩
   obtain ⟨bl, off, spot⟩ := ad
   have hs : spot = none := by
    obtain ⟨cs', hc, ht⟩ := hel 0 (by omega); rw [hce] at hc; obtain ⟨_, hlen, hcell⟩ := World.cells?_some hc; have c0 := hcell 0 (by omega); rw [lge (by omega)] at c0; have hs := World.cell?_spot c0
    simpa [Addr.add] using hs
   subst hs
   have key : ∀ i, ∃ f : α, i < len -> aN w bl (off + i * sz) (c f) /\ Pa f := by
    intro i
    by_cases hi : i < len
    · obtain ⟨cs', hc, ht⟩ := hel i (by omega)
      rw [hce] at hc; obtain ⟨_, hlen, hcell⟩ := World.cells?_some hc; obtain ⟨f, rfl, hs⟩ := hel0 hlen ht; refine ⟨f, fun _ => ⟨fun j v hj => ?_, hs⟩⟩; have hj3 : j < sz := by rw [← hcl f]; exact (lgs.1 hj).1
      have := hcell j hj3; rw [hj] at this
      simpa only [add_plain] using this
    · exact ⟨d, fun h => absurd h hi⟩
   obtain ⟨g, hg⟩ := Classical.axiomOfChoice key; refine ⟨(List.range len).map g, by simp, Or.inr ⟨bl, off, rfl, fun k hk => ?_⟩, by omega, ?_⟩
   · have hk' : k < len := by simpa using hk
     have := (hg k hk').1
     simpa using this
   · intro f hf
     simp only [List.mem_map, List.mem_range] at hf; obtain ⟨i, hi, rfl⟩ := hf; exact (hg i hi).2
theorem KY {n : Nat} {cs : List Value} {x : DataW H × List MemPlace} (hlen : cs.length = 2) (h : DataW.trod enc Tryz.prog w base spare held n 280 cs = some x) :
 ∃ f : Cx, cs = f.cells /\ True := by
 obtain ⟨xs, m, _, _, _, hx, hf⟩ := DataW.trod_struct Tryz.underlying280 h
 match cs, hlen with
 | [v0, v1], _ =>
  have hx3 : xs.length = 2 := hx
  match xs, hx3 with
  | [y0, y1], _ =>
   have g0 : DataW.trod enc Tryz.prog w base spare held m 3 (([v0, v1].drop 0).take (Tryz.prog.cellsOf 3)) = some y0 := hf 0 _ rfl; have g1 : DataW.trod enc Tryz.prog w base spare held m 3 (([v0, v1].drop 1).take (Tryz.prog.cellsOf 3)) = some y1 := hf 1 _ rfl; rw [Tryz.cells3] at g0 g1; obtain ⟨a0, e0, _, _⟩ := DataW.trod_int Tryz.underlying3 g0; obtain ⟨a1, e1, _, _⟩ := DataW.trod_int Tryz.underlying3 g1; simp at e0 e1; subst e0 e1; exact ⟨⟨a0, a1⟩, rfl, trivial⟩
theorem KF {n : Nat} {cs : List Value} {x : DataW H × List MemPlace} (hlen : cs.length = 1) (h : DataW.trod enc Tryz.prog w base spare held n 3 cs = some x) :
 ∃ f : Int, cs = i6 f /\ True := by
 match cs, hlen with
 | [v0], _ =>
  obtain ⟨a0, e0, _, _⟩ := DataW.trod_int Tryz.underlying3 h; simp at e0; subst e0; exact ⟨a0, rfl, trivial⟩
theorem M9 {n : Nat} {cs : List Value} {x : DataW H × List MemPlace} (hlen : cs.length = 1) (h : DataW.trod enc Tryz.prog w base spare held n 212 cs = some x) :
 ∃ f : Yx, cs = f.cells /\ (f.In w /\ f.l.length <= maxLen) := by
 obtain ⟨xs, m, _, _, _, hx, hf⟩ := DataW.trod_struct Tryz.underlying212 h
 match cs, hlen with
 | [v0], _ =>
  have hx3 : xs.length = 1 := hx
  match xs, hx3 with
  | [y0], _ =>
   have g0 : DataW.trod enc Tryz.prog w base spare held m 210 (([v0].drop 0).take (Tryz.prog.cellsOf 210)) = some y0 := hf 0 _ rfl; rw [Tryz.cells210] at g0; simp only [List.drop_zero, lts, List.take_zero] at g0; obtain ⟨a1, n1, c1, rfl⟩ := jS Tryz.underlying210 g0; obtain ⟨l1, e1, b1, m1, _⟩ := nA (⟨0, 0⟩ : Cx) 2 (by omega) Cx.cells Cx.cells_length (fun _ => True) Tryz.underlying210 Tryz.cells280 (fun a b => KY a b) g0; subst e1; exact ⟨⟨a1, l1, c1⟩, rfl, b1, m1⟩
theorem J7 {n : Nat} {cs : List Value} {x : DataW H × List MemPlace} (hlen : cs.length = 8) (h : DataW.trod enc Tryz.prog w base spare held n 52 cs = some x) :
 ∃ f : Wx, cs = [.string f.n, .int .i64 f.q, .int .i64 f.s, .int .i64 f.f, .int .i64 f.b, .int .i64 f.l, .slice f.wa f.wl.length f.wc, .slice f.la f.ll.length f.lc] /\ f.In w /\ f.Wide := by
 obtain ⟨xs, m, _, _, _, hx, hf⟩ := DataW.trod_struct Tryz.underlying52 h
 match cs, hlen with
 | [v0, v1, v2, v3, v4, v5, v6, v7], _ =>
  have hx3 : xs.length = 8 := hx
  match xs, hx3 with
  | [y0, y1, y2, y3, y4, y5, y6, y7], _ =>
   have g0 : DataW.trod enc Tryz.prog w base spare held m 9 (([v0, v1, v2, v3, v4, v5, v6, v7].drop 0).take (Tryz.prog.cellsOf 9)) = some y0 := hf 0 _ rfl; have g1 : DataW.trod enc Tryz.prog w base spare held m 3 (([v0, v1, v2, v3, v4, v5, v6, v7].drop 1).take (Tryz.prog.cellsOf 3)) = some y1 := hf 1 _ rfl; have g2 : DataW.trod enc Tryz.prog w base spare held m 3 (([v0, v1, v2, v3, v4, v5, v6, v7].drop 2).take (Tryz.prog.cellsOf 3)) = some y2 := hf 2 _ rfl; have g3 : DataW.trod enc Tryz.prog w base spare held m 3 (([v0, v1, v2, v3, v4, v5, v6, v7].drop 3).take (Tryz.prog.cellsOf 3)) = some y3 := hf 3 _ rfl; have g4 : DataW.trod enc Tryz.prog w base spare held m 3 (([v0, v1, v2, v3, v4, v5, v6, v7].drop 4).take (Tryz.prog.cellsOf 3)) = some y4 := hf 4 _ rfl; have g5 : DataW.trod enc Tryz.prog w base spare held m 3 (([v0, v1, v2, v3, v4, v5, v6, v7].drop 5).take (Tryz.prog.cellsOf 3)) = some y5 := hf 5 _ rfl; have g6 : DataW.trod enc Tryz.prog w base spare held m 50 (([v0, v1, v2, v3, v4, v5, v6, v7].drop 6).take (Tryz.prog.cellsOf 50)) = some y6 := hf 6 _ rfl; have g7 : DataW.trod enc Tryz.prog w base spare held m 31 (([v0, v1, v2, v3, v4, v5, v6, v7].drop 7).take (Tryz.prog.cellsOf 31)) = some y7 := hf 7 _ rfl; rw [Tryz.cells9] at g0; rw [Tryz.cells3] at g1 g2 g3 g4 g5; rw [Tryz.cells50] at g6; rw [Tryz.cells31] at g7; simp only [List.drop_zero, lds, lts, List.take_zero] at g0 g1 g2 g3 g4 g5 g6 g7; obtain ⟨a0, e0, _, hs⟩ := DataW.trod_string Tryz.underlying9 g0; obtain ⟨a1, e1, _, _⟩ := DataW.trod_int Tryz.underlying3 g1; obtain ⟨a2, e2, _, _⟩ := DataW.trod_int Tryz.underlying3 g2; obtain ⟨a3, e3, _, _⟩ := DataW.trod_int Tryz.underlying3 g3; obtain ⟨a4, e4, _, _⟩ := DataW.trod_int Tryz.underlying3 g4; obtain ⟨a5, e5, _, _⟩ := DataW.trod_int Tryz.underlying3 g5; simp at e0 e1 e2 e3 e4 e5; obtain ⟨p6, n6, c6, rfl⟩ := jS Tryz.underlying50 g6; obtain ⟨p7, n7, c7, rfl⟩ := jS Tryz.underlying31 g7; obtain ⟨l6, q6, b6, m6, s6⟩ := nA (⟨none, [], 0⟩ : Yx) 1 (by omega) Yx.cells Yx.cells_length (fun f => f.In w /\ f.l.length <= maxLen) Tryz.underlying50 Tryz.cells212 (fun a b => M9 a b) g6; obtain ⟨l7, q7, b7, m7, _⟩ := nA (0 : Int) 1 (by omega) i6 (fun _ => rfl) (fun _ => True) Tryz.underlying31 Tryz.cells3 (fun a b => KF a b) g7; subst e0 e1 e2 e3 e4 e5 q6 q7; unfold maxLen at hs m6 m7 s6; exact ⟨⟨a0, a1, a2, a3, a4, a5, p6, l6, c6, p7, l7, c7⟩, rfl, ⟨b6, fun y hy => (s6 y hy).1, b7⟩, ⟨by show l6.length <= _; omega, fun y hy => by have := (s6 y hy).2; omega, by show l7.length <= _; omega, by show a0.size <= _; omega⟩⟩
end
end Go.Proofs.YtiojdbffjdoniaaGreatDoor
