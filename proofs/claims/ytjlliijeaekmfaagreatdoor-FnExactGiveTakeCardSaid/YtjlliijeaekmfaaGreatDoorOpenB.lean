import Derived.Test.YtjlliijeaekmfaaGreatDoorOpenF
import Derived.Test.YtjlliijeaekmfaaGreatDoorBook2
namespace Go.Proofs.YtjlliijeaekmfaaGreatDoor
set_option maxRecDepth 100000
open Go.ChangeShapes Go.WideShapes Go.ChangeAt Go.RowKit Go.Deep
theorem Tryz.cells129 : Tryz.prog.cellsOf 129 = 3 := by kernel_rfl
theorem Tryz.cells51 : Tryz.prog.cellsOf 51 = 1 := by kernel_rfl
theorem Tryz.cells22 : Tryz.prog.cellsOf 22 = 1 := by kernel_rfl
theorem Tryz.cells23 : Tryz.prog.cellsOf 23 = 1 := by kernel_rfl
theorem Tryz.cells25 : Tryz.prog.cellsOf 25 = 3 := by kernel_rfl
section
variable {H : Type} {enc : TypeId × Value -> H} {w : World} {base : Nat} {spare : Nat -> Bool} {held : Bool}
theorem slice_of {t e : TypeId} {fuel : Nat} {v : Value} {x : DataW H × List MemPlace} (ht : Tryz.prog.underlying t = some (.slice e)) (h : DataW.trod enc Tryz.prog w base spare held fuel t [v] = some x) : ∃ a len cap, v = .slice a len cap := by
 rcases open_slice ht h with ⟨hcs, _⟩ | ⟨ad, len, cap, m, n, D, Pl, hcs, _⟩
 · simp at hcs; exact ⟨_, _, _, hcs⟩
 · simp at hcs; exact ⟨_, _, _, hcs⟩
theorem open_held {n : Nat} {cs : List Value} {x : DataW H × List MemPlace} (hlen : cs.length = 3) (h : DataW.trod enc Tryz.prog w base spare held n 129 cs = some x) :
 ∃ f : Hx, cs = f.cells /\ f.In w /\ f.Wide := by
 obtain ⟨xs, m, _, _, _, hx, hf⟩ := DataW.trod_struct Tryz.underlying129 h
 match cs, hlen with
 | [v0, v1, v2], _ =>
  have hx3 : xs.length = 3 := hx
  match xs, hx3 with
  | [y0, y1, y2], _ =>
   have g0 : DataW.trod enc Tryz.prog w base spare held m 9 (([v0, v1, v2].drop 0).take (Tryz.prog.cellsOf 9)) = some y0 := hf 0 _ rfl; have g1 : DataW.trod enc Tryz.prog w base spare held m 51 (([v0, v1, v2].drop 1).take (Tryz.prog.cellsOf 51)) = some y1 := hf 1 _ rfl; have g2 : DataW.trod enc Tryz.prog w base spare held m 51 (([v0, v1, v2].drop 2).take (Tryz.prog.cellsOf 51)) = some y2 := hf 2 _ rfl; rw [Tryz.cells9] at g0; rw [Tryz.cells51] at g1 g2; simp only [List.drop_zero, List.drop_succ_cons, List.take_succ_cons, List.take_zero] at g0 g1 g2; obtain ⟨a0, e0, _, hs⟩ := DataW.trod_string Tryz.underlying9 g0; simp at e0; obtain ⟨a1, n1, c1, rfl⟩ := slice_of Tryz.underlying51 g1; obtain ⟨a2, n2, c2, rfl⟩ := slice_of Tryz.underlying51 g2; obtain ⟨l1, e1, b1, m1⟩ := open_boxes g1; obtain ⟨l2, e2, b2, m2⟩ := open_boxes g2; subst e0 e1 e2; unfold maxLen at hs m1 m2; exact ⟨⟨a0, a1, l1, c1, a2, l2, c2⟩, rfl, ⟨b1, b2⟩, ⟨by show l1.length <= _; omega, by show l2.length <= _; omega, by show a0.size <= _; omega⟩⟩
theorem open_helds {fuel : Nat} {a : Option Addr} {len cap : Nat} {x : DataW H × List MemPlace} (h : DataW.trod enc Tryz.prog w base spare held fuel 23 [.slice a len cap] = some x) :
 ∃ l : List Hx, l.length = len /\ Xs 3 Hx.cells w a l /\ len <= maxLen /\ ∀ f ∈ l, f.In w /\ f.Wide := by
 rcases open_slice Tryz.underlying23 h with ⟨hcs, _⟩ | ⟨ad, len', cap', m, n, D, Pl, hcs, _, hl, hm, hmm, _, hel⟩
 · simp at hcs
   obtain ⟨rfl, rfl, rfl⟩ := hcs; exact ⟨[], rfl, Or.inl rfl, Nat.zero_le _, by simp⟩
 · simp at hcs
   obtain ⟨rfl, rfl, rfl⟩ := hcs; have hlm : len <= m := by rw [hmm]; split <;> omega
   by_cases h0 : len = 0
   · subst h0
     exact ⟨[], rfl, Or.inl rfl, Nat.zero_le _, by simp⟩
   obtain ⟨bl, off, spot⟩ := ad
   have hs : spot = none := by
    obtain ⟨cs', hc, ht⟩ := hel 0 (by omega); rw [Tryz.cells129] at hc; obtain ⟨_, hlen, hcell⟩ := World.cells?_some hc; have c0 := hcell 0 (by omega); rw [List.getElem?_eq_getElem (by omega)] at c0; have hs := World.cell?_spot c0
    simpa [Addr.add] using hs
   subst hs
   have key : ∀ i, ∃ f : Hx, i < len -> CellsAt w bl (off + i * 3) f.cells /\ (f.In w /\ f.Wide) := by
    intro i
    by_cases hi : i < len
    · obtain ⟨cs', hc, ht⟩ := hel i (by omega)
      rw [Tryz.cells129] at hc; obtain ⟨_, hlen, hcell⟩ := World.cells?_some hc; obtain ⟨f, rfl, hs⟩ := open_held hlen ht; refine ⟨f, fun _ => ⟨fun j v hj => ?_, hs⟩⟩; have hj3 : j < 3 := (List.getElem?_eq_some_iff.1 hj).1; have := hcell j hj3; rw [hj] at this
      simpa only [add_plain] using this
    · exact ⟨⟨ByteArray.empty, none, [], 0, none, [], 0⟩, fun h => absurd h hi⟩
   obtain ⟨g, hg⟩ := Classical.axiomOfChoice key; refine ⟨(List.range len).map g, by simp, Or.inr ⟨bl, off, rfl, fun k hk => ?_⟩, by omega, ?_⟩
   · have hk' : k < len := by simpa using hk
     have := (hg k hk').1
     simpa using this
   · intro f hf
     simp only [List.mem_map, List.mem_range] at hf; obtain ⟨i, hi, rfl⟩ := hf; exact (hg i hi).2
theorem open_book {n : Nat} {cs : List Value} {x : DataW H × List MemPlace} (hlen : cs.length = 3) (h : DataW.trod enc Tryz.prog w base spare held n 25 cs = some x) :
 ∃ b : Bk, cs = [.int .i64 b.now, .slice b.fa b.fl.length b.fc, .slice b.ha b.hl.length b.hc] /\ Xs 3 Fx.cells w b.fa b.fl /\ b.fl.length <= maxLen /\ (∀ f ∈ b.fl, f.n.size <= maxLen) /\ Xs 3 Hx.cells w b.ha b.hl /\ b.hl.length <= maxLen /\ ∀ h ∈ b.hl, h.In w /\ h.Wide := by
 obtain ⟨xs, m, _, _, _, hx, hf⟩ := DataW.trod_struct Tryz.underlying25 h
 match cs, hlen with
 | [v0, v1, v2], _ =>
  have hx3 : xs.length = 3 := hx
  match xs, hx3 with
  | [y0, y1, y2], _ =>
   have g0 : DataW.trod enc Tryz.prog w base spare held m 3 (([v0, v1, v2].drop 0).take (Tryz.prog.cellsOf 3)) = some y0 := hf 0 _ rfl; have g1 : DataW.trod enc Tryz.prog w base spare held m 22 (([v0, v1, v2].drop 1).take (Tryz.prog.cellsOf 22)) = some y1 := hf 1 _ rfl; have g2 : DataW.trod enc Tryz.prog w base spare held m 23 (([v0, v1, v2].drop 2).take (Tryz.prog.cellsOf 23)) = some y2 := hf 2 _ rfl; rw [Tryz.cells3] at g0; rw [Tryz.cells22] at g1; rw [Tryz.cells23] at g2; simp only [List.drop_zero, List.drop_succ_cons, List.take_succ_cons, List.take_zero] at g0 g1 g2; obtain ⟨a0, e0, _, _⟩ := DataW.trod_int Tryz.underlying3 g0; simp at e0; obtain ⟨a1, n1, c1, rfl⟩ := slice_of Tryz.underlying22 g1; obtain ⟨a2, n2, c2, rfl⟩ := slice_of Tryz.underlying23 g2; obtain ⟨l1, e1, b1, m1, s1⟩ := open_flds g1; obtain ⟨l2, e2, b2, m2, s2⟩ := open_helds g2; subst e0 e1 e2; exact ⟨⟨a0, a1, l1, c1, a2, l2, c2⟩, rfl, b1, m1, s1, b2, m2, s2⟩
end
end Go.Proofs.YtjlliijeaekmfaaGreatDoor
