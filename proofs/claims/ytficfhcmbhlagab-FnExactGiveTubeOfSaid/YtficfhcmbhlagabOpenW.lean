import Derived.Test.YtficfhcmbhlagabOpenB
import Derived.Test.YtficfhcmbhlagabWd
namespace Go.Proofs.Ytficfhcmbhlagab
open Go.ChangeShapes Go.WideShapes Go.ChangeAt Go.RowKit Go.Deep
set_option maxRecDepth 100000 in
theorem Try.cells175 : Try.prog.cellsOf 175 = 2 := by kernel_rfl
set_option maxRecDepth 100000 in
theorem Try.cells133 : Try.prog.cellsOf 133 = 1 := by kernel_rfl
set_option maxRecDepth 100000 in
theorem Try.cells131 : Try.prog.cellsOf 131 = 1 := by kernel_rfl
set_option maxRecDepth 100000 in
theorem Try.cells40 : Try.prog.cellsOf 40 = 1 := by kernel_rfl
set_option maxRecDepth 100000 in
theorem Try.cells41 : Try.prog.cellsOf 41 = 1 := by kernel_rfl
set_option maxRecDepth 100000 in
theorem Try.cells43 : Try.prog.cellsOf 43 = 8 := by kernel_rfl
section
variable {H : Type} {enc : TypeId × Value → H} {w : World} {base : Nat} {spare : Nat → Bool} {held : Bool}
set_option maxRecDepth 100000 in
/-- A slice of elements each of which can be read. -/
theorem gopen_slice {α : Type} (d : α) {t e : TypeId} (sz : Nat) (hsz : 0 < sz) (c : α → List Value) (hcl : ∀ a, (c a).length = sz) (Pa : α → Prop) (ht : Try.prog.underlying t = some (.slice e)) (hce : Try.prog.cellsOf e = sz)
    (hel0 : ∀ {n : Nat} {cs : List Value} {x : DataW H × List MemPlace}, cs.length = sz → DataW.trod enc Try.prog w base spare held n e cs = some x → ∃ a, cs = c a ∧ Pa a)
    {fuel : Nat} {a : Option Addr} {len cap : Nat} {x : DataW H × List MemPlace} (h : DataW.trod enc Try.prog w base spare held fuel t [.slice a len cap] = some x) :
    ∃ l : List α, l.length = len ∧ Xs sz c w a l ∧ len ≤ maxLen ∧ ∀ f ∈ l, Pa f := by
  rcases open_slice ht h with ⟨hcs, _⟩ | ⟨ad, len', cap', m, n, D, Pl, hcs, _, hl, hm, hmm, _, hel⟩
  · simp at hcs
    obtain ⟨rfl, rfl, rfl⟩ := hcs
    exact ⟨[], rfl, Or.inl rfl, Nat.zero_le _, by simp⟩
  · simp at hcs
    obtain ⟨rfl, rfl, rfl⟩ := hcs
    have hlm : len ≤ m := by rw [hmm]; split <;> omega
    by_cases h0 : len = 0
    · subst h0
      exact ⟨[], rfl, Or.inl rfl, Nat.zero_le _, by simp⟩
    obtain ⟨bl, off, spot⟩ := ad
    have hs : spot = none := by
      obtain ⟨cs', hc, ht⟩ := hel 0 (by omega)
      rw [hce] at hc
      obtain ⟨_, hlen, hcell⟩ := World.cells?_some hc
      have c0 := hcell 0 (by omega)
      rw [List.getElem?_eq_getElem (by omega)] at c0
      have hs := World.cell?_spot c0
      simpa [Addr.add] using hs
    subst hs
    have key : ∀ i, ∃ f : α, i < len → CellsAt w bl (off + i * sz) (c f) ∧ Pa f := by
      intro i
      by_cases hi : i < len
      · obtain ⟨cs', hc, ht⟩ := hel i (by omega)
        rw [hce] at hc
        obtain ⟨_, hlen, hcell⟩ := World.cells?_some hc
        obtain ⟨f, rfl, hs⟩ := hel0 hlen ht
        refine ⟨f, fun _ => ⟨fun j v hj => ?_, hs⟩⟩
        have hj3 : j < sz := by rw [← hcl f]; exact (List.getElem?_eq_some_iff.1 hj).1
        have := hcell j hj3
        rw [hj] at this
        simpa only [add_plain] using this
      · exact ⟨d, fun h => absurd h hi⟩
    obtain ⟨g, hg⟩ := Classical.axiomOfChoice key
    refine ⟨(List.range len).map g, by simp, Or.inr ⟨bl, off, rfl, fun k hk => ?_⟩, by omega, ?_⟩
    · have hk' : k < len := by simpa using hk
      have := (hg k hk').1
      simpa using this
    · intro f hf
      simp only [List.mem_map, List.mem_range] at hf
      obtain ⟨i, hi, rfl⟩ := hf
      exact (hg i hi).2
set_option maxRecDepth 100000 in
theorem open_cell {n : Nat} {cs : List Value} {x : DataW H × List MemPlace} (hlen : cs.length = 2) (h : DataW.trod enc Try.prog w base spare held n 175 cs = some x) :
    ∃ f : Cx, cs = f.cells ∧ True := by
  obtain ⟨xs, m, _, _, _, hx, hf⟩ := DataW.trod_struct Try.underlying175 h
  match cs, hlen with
  | [v0, v1], _ =>
    have hx3 : xs.length = 2 := hx
    match xs, hx3 with
    | [y0, y1], _ =>
      have g0 : DataW.trod enc Try.prog w base spare held m 3 (([v0, v1].drop 0).take (Try.prog.cellsOf 3)) = some y0 := hf 0 _ rfl
      have g1 : DataW.trod enc Try.prog w base spare held m 3 (([v0, v1].drop 1).take (Try.prog.cellsOf 3)) = some y1 := hf 1 _ rfl
      rw [Try.cells3] at g0 g1
      obtain ⟨a0, e0, _, _⟩ := DataW.trod_int Try.underlying3 g0
      obtain ⟨a1, e1, _, _⟩ := DataW.trod_int Try.underlying3 g1
      simp at e0 e1
      subst e0 e1
      exact ⟨⟨a0, a1⟩, rfl, trivial⟩
set_option maxRecDepth 100000 in
theorem open_int1 {n : Nat} {cs : List Value} {x : DataW H × List MemPlace} (hlen : cs.length = 1) (h : DataW.trod enc Try.prog w base spare held n 3 cs = some x) :
    ∃ f : Int, cs = icells f ∧ True := by
  match cs, hlen with
  | [v0], _ =>
    obtain ⟨a0, e0, _, _⟩ := DataW.trod_int Try.underlying3 h
    simp at e0
    subst e0
    exact ⟨a0, rfl, trivial⟩
set_option maxRecDepth 100000 in
theorem open_way {n : Nat} {cs : List Value} {x : DataW H × List MemPlace} (hlen : cs.length = 1) (h : DataW.trod enc Try.prog w base spare held n 133 cs = some x) :
    ∃ f : Yx, cs = f.cells ∧ (f.In w ∧ f.l.length ≤ maxLen) := by
  obtain ⟨xs, m, _, _, _, hx, hf⟩ := DataW.trod_struct Try.underlying133 h
  match cs, hlen with
  | [v0], _ =>
    have hx3 : xs.length = 1 := hx
    match xs, hx3 with
    | [y0], _ =>
      have g0 : DataW.trod enc Try.prog w base spare held m 131 (([v0].drop 0).take (Try.prog.cellsOf 131)) = some y0 := hf 0 _ rfl
      rw [Try.cells131] at g0
      simp only [List.drop_zero, List.take_succ_cons, List.take_zero] at g0
      obtain ⟨a1, n1, c1, rfl⟩ := slice_of Try.underlying131 g0
      obtain ⟨l1, e1, b1, m1, _⟩ := gopen_slice (⟨0, 0⟩ : Cx) 2 (by omega) Cx.cells Cx.cells_length (fun _ => True) Try.underlying131 Try.cells175 (fun a b => open_cell a b) g0
      subst e1
      exact ⟨⟨a1, l1, c1⟩, rfl, b1, m1⟩
set_option maxRecDepth 100000 in
theorem open_wish {n : Nat} {cs : List Value} {x : DataW H × List MemPlace} (hlen : cs.length = 8) (h : DataW.trod enc Try.prog w base spare held n 43 cs = some x) :
    ∃ f : Wx, cs = [.string f.n, .int .i64 f.q, .int .i64 f.s, .int .i64 f.f, .int .i64 f.b, .int .i64 f.l, .slice f.wa f.wl.length f.wc, .slice f.la f.ll.length f.lc] ∧ f.In w ∧ f.Wide := by
  obtain ⟨xs, m, _, _, _, hx, hf⟩ := DataW.trod_struct Try.underlying43 h
  match cs, hlen with
  | [v0, v1, v2, v3, v4, v5, v6, v7], _ =>
    have hx3 : xs.length = 8 := hx
    match xs, hx3 with
    | [y0, y1, y2, y3, y4, y5, y6, y7], _ =>
      have g0 : DataW.trod enc Try.prog w base spare held m 9 (([v0, v1, v2, v3, v4, v5, v6, v7].drop 0).take (Try.prog.cellsOf 9)) = some y0 := hf 0 _ rfl
      have g1 : DataW.trod enc Try.prog w base spare held m 3 (([v0, v1, v2, v3, v4, v5, v6, v7].drop 1).take (Try.prog.cellsOf 3)) = some y1 := hf 1 _ rfl
      have g2 : DataW.trod enc Try.prog w base spare held m 3 (([v0, v1, v2, v3, v4, v5, v6, v7].drop 2).take (Try.prog.cellsOf 3)) = some y2 := hf 2 _ rfl
      have g3 : DataW.trod enc Try.prog w base spare held m 3 (([v0, v1, v2, v3, v4, v5, v6, v7].drop 3).take (Try.prog.cellsOf 3)) = some y3 := hf 3 _ rfl
      have g4 : DataW.trod enc Try.prog w base spare held m 3 (([v0, v1, v2, v3, v4, v5, v6, v7].drop 4).take (Try.prog.cellsOf 3)) = some y4 := hf 4 _ rfl
      have g5 : DataW.trod enc Try.prog w base spare held m 3 (([v0, v1, v2, v3, v4, v5, v6, v7].drop 5).take (Try.prog.cellsOf 3)) = some y5 := hf 5 _ rfl
      have g6 : DataW.trod enc Try.prog w base spare held m 40 (([v0, v1, v2, v3, v4, v5, v6, v7].drop 6).take (Try.prog.cellsOf 40)) = some y6 := hf 6 _ rfl
      have g7 : DataW.trod enc Try.prog w base spare held m 41 (([v0, v1, v2, v3, v4, v5, v6, v7].drop 7).take (Try.prog.cellsOf 41)) = some y7 := hf 7 _ rfl
      rw [Try.cells9] at g0
      rw [Try.cells3] at g1 g2 g3 g4 g5
      rw [Try.cells40] at g6
      rw [Try.cells41] at g7
      simp only [List.drop_zero, List.drop_succ_cons, List.take_succ_cons, List.take_zero] at g0 g1 g2 g3 g4 g5 g6 g7
      obtain ⟨a0, e0, _, hs⟩ := DataW.trod_string Try.underlying9 g0
      obtain ⟨a1, e1, _, _⟩ := DataW.trod_int Try.underlying3 g1
      obtain ⟨a2, e2, _, _⟩ := DataW.trod_int Try.underlying3 g2
      obtain ⟨a3, e3, _, _⟩ := DataW.trod_int Try.underlying3 g3
      obtain ⟨a4, e4, _, _⟩ := DataW.trod_int Try.underlying3 g4
      obtain ⟨a5, e5, _, _⟩ := DataW.trod_int Try.underlying3 g5
      simp at e0 e1 e2 e3 e4 e5
      obtain ⟨p6, n6, c6, rfl⟩ := slice_of Try.underlying40 g6
      obtain ⟨p7, n7, c7, rfl⟩ := slice_of Try.underlying41 g7
      obtain ⟨l6, q6, b6, m6, s6⟩ := gopen_slice (⟨none, [], 0⟩ : Yx) 1 (by omega) Yx.cells Yx.cells_length (fun f => f.In w ∧ f.l.length ≤ maxLen) Try.underlying40 Try.cells133 (fun a b => open_way a b) g6
      obtain ⟨l7, q7, b7, m7, _⟩ := gopen_slice (0 : Int) 1 (by omega) icells (fun _ => rfl) (fun _ => True) Try.underlying41 Try.cells3 (fun a b => open_int1 a b) g7
      subst e0 e1 e2 e3 e4 e5 q6 q7
      unfold maxLen at hs m6 m7 s6
      exact ⟨⟨a0, a1, a2, a3, a4, a5, p6, l6, c6, p7, l7, c7⟩, rfl, ⟨b6, fun y hy => (s6 y hy).1, b7⟩, ⟨by show l6.length ≤ _; omega, fun y hy => by have := (s6 y hy).2; omega, by show l7.length ≤ _; omega, by show a0.size ≤ _; omega⟩⟩
end
end Go.Proofs.Ytficfhcmbhlagab
