import Derived.Test.YtiojdbffjdoniaaGreatDoorOpen
import Derived.Test.YtiojdbffjdoniaaGreatDoorBook2
namespace Go.Proofs.YtiojdbffjdoniaaGreatDoor
set_option maxRecDepth 100000
open Go.ChangeShapes Go.WideShapes Go.ChangeAt Go.RowKit Go.Deep
theorem Tryz.cells154 : Tryz.prog.cellsOf 154 = 3 := by kernel_rfl
theorem Tryz.cells53 : Tryz.prog.cellsOf 53 = 1 := by kernel_rfl
theorem Tryz.cells46 : Tryz.prog.cellsOf 46 = 1 := by kernel_rfl
theorem Tryz.cells47 : Tryz.prog.cellsOf 47 = 1 := by kernel_rfl
theorem Tryz.cells49 : Tryz.prog.cellsOf 49 = 3 := by kernel_rfl
section
variable {H : Type} {enc : TypeId × Value -> H} {w : World} {base : Nat} {spare : Nat -> Bool} {held : Bool}
theorem jS {t e : TypeId} {fuel : Nat} {v : Value} {x : DataW H × List MemPlace} (ht : Tryz.prog.underlying t = some (.slice e)) (h : DataW.trod enc Tryz.prog w base spare held fuel t [v] = some x) : ∃ a len cap, v = .slice a len cap := by
 rcases open_slice ht h with ⟨hcs, _⟩ | ⟨ad, len, cap, m, n, D, Pl, hcs, _⟩
 · simp at hcs; exact ⟨_, _, _, hcs⟩
 · simp at hcs; exact ⟨_, _, _, hcs⟩
theorem IK {n : Nat} {cs : List Value} {x : DataW H × List MemPlace} (hlen : cs.length = 3) (h : DataW.trod enc Tryz.prog w base spare held n 154 cs = some x) :
 ∃ f : Hx, cs = f.cells /\ f.In w /\ f.Wide := by
 obtain ⟨xs, m, _, _, _, hx, hf⟩ := DataW.trod_struct Tryz.underlying154 h
 match cs, hlen with
 | [v0, v1, v2], _ =>
  have hx3 : xs.length = 3 := hx
  match xs, hx3 with
  | [y0, y1, y2], _ =>
   have g0 : DataW.trod enc Tryz.prog w base spare held m 9 (([v0, v1, v2].drop 0).take (Tryz.prog.cellsOf 9)) = some y0 := hf 0 _ rfl; have g1 : DataW.trod enc Tryz.prog w base spare held m 53 (([v0, v1, v2].drop 1).take (Tryz.prog.cellsOf 53)) = some y1 := hf 1 _ rfl; have g2 : DataW.trod enc Tryz.prog w base spare held m 53 (([v0, v1, v2].drop 2).take (Tryz.prog.cellsOf 53)) = some y2 := hf 2 _ rfl; rw [Tryz.cells9] at g0; rw [Tryz.cells53] at g1 g2; simp only [List.drop_zero, lds, lts, List.take_zero] at g0 g1 g2; obtain ⟨a0, e0, _, hs⟩ := DataW.trod_string Tryz.underlying9 g0; simp at e0; obtain ⟨a1, n1, c1, rfl⟩ := jS Tryz.underlying53 g1; obtain ⟨a2, n2, c2, rfl⟩ := jS Tryz.underlying53 g2; obtain ⟨l1, e1, b1, m1⟩ := pM g1; obtain ⟨l2, e2, b2, m2⟩ := pM g2; subst e0 e1 e2; unfold maxLen at hs m1 m2; exact ⟨⟨a0, a1, l1, c1, a2, l2, c2⟩, rfl, ⟨b1, b2⟩, ⟨by show l1.length <= _; omega, by show l2.length <= _; omega, by show a0.size <= _; omega⟩⟩
theorem FP {fuel : Nat} {a : Option Addr} {len cap : Nat} {x : DataW H × List MemPlace} (h : DataW.trod enc Tryz.prog w base spare held fuel 47 [.slice a len cap] = some x) :
 ∃ l : List Hx, l.length = len /\ Xs 3 Hx.cells w a l /\ len <= maxLen /\ ∀ f ∈ l, f.In w /\ f.Wide := by
 rcases open_slice Tryz.underlying47 h with ⟨hcs, _⟩ | ⟨ad, len', cap', m, n, D, Pl, hcs, _, hl, hm, hmm, _, hel⟩
 · simp at hcs
   obtain ⟨rfl, rfl, rfl⟩ := hcs; exact ⟨[], rfl, Or.inl rfl, nz _, by simp⟩
 · simp at hcs
   obtain ⟨rfl, rfl, rfl⟩ := hcs; have hlm : len <= m := by rw [hmm]; split <;> omega
   by_cases h0 : len = 0
   · subst h0
     exact ⟨[], rfl, Or.inl rfl, nz _, by simp⟩
   obtain ⟨bl, off, spot⟩ := ad
   have hs : spot = none := by
    obtain ⟨cs', hc, ht⟩ := hel 0 (by omega); rw [Tryz.cells154] at hc; obtain ⟨_, hlen, hcell⟩ := World.cells?_some hc; have c0 := hcell 0 (by omega); rw [lge (by omega)] at c0; have hs := World.cell?_spot c0
    simpa [Addr.add] using hs
   subst hs
   have key : ∀ i, ∃ f : Hx, i < len -> aN w bl (off + i * 3) f.cells /\ (f.In w /\ f.Wide) := by
    intro i
    by_cases hi : i < len
    · obtain ⟨cs', hc, ht⟩ := hel i (by omega)
      rw [Tryz.cells154] at hc; obtain ⟨_, hlen, hcell⟩ := World.cells?_some hc; obtain ⟨f, rfl, hs⟩ := IK hlen ht; refine ⟨f, fun _ => ⟨fun j v hj => ?_, hs⟩⟩; have hj3 : j < 3 := (lgs.1 hj).1; have := hcell j hj3; rw [hj] at this
      simpa only [add_plain] using this
    · exact ⟨⟨ByteArray.empty, none, [], 0, none, [], 0⟩, fun h => absurd h hi⟩
   obtain ⟨g, hg⟩ := Classical.axiomOfChoice key; refine ⟨(List.range len).map g, by simp, Or.inr ⟨bl, off, rfl, fun k hk => ?_⟩, by omega, ?_⟩
   · have hk' : k < len := by simpa using hk
     have := (hg k hk').1
     simpa using this
   · intro f hf
     simp only [List.mem_map, List.mem_range] at hf; obtain ⟨i, hi, rfl⟩ := hf; exact (hg i hi).2
theorem J1 {n : Nat} {cs : List Value} {x : DataW H × List MemPlace} (hlen : cs.length = 3) (h : DataW.trod enc Tryz.prog w base spare held n 49 cs = some x) :
 ∃ b : Bk, cs = [.int .i64 b.now, .slice b.fa b.fl.length b.fc, .slice b.ha b.hl.length b.hc] /\ Xs 3 Fx.cells w b.fa b.fl /\ b.fl.length <= maxLen /\ (∀ f ∈ b.fl, f.n.size <= maxLen) /\ Xs 3 Hx.cells w b.ha b.hl /\ b.hl.length <= maxLen /\ ∀ h ∈ b.hl, h.In w /\ h.Wide := by
 obtain ⟨xs, m, _, _, _, hx, hf⟩ := DataW.trod_struct Tryz.underlying49 h
 match cs, hlen with
 | [v0, v1, v2], _ =>
  have hx3 : xs.length = 3 := hx
  match xs, hx3 with
  | [y0, y1, y2], _ =>
   have g0 : DataW.trod enc Tryz.prog w base spare held m 3 (([v0, v1, v2].drop 0).take (Tryz.prog.cellsOf 3)) = some y0 := hf 0 _ rfl; have g1 : DataW.trod enc Tryz.prog w base spare held m 46 (([v0, v1, v2].drop 1).take (Tryz.prog.cellsOf 46)) = some y1 := hf 1 _ rfl; have g2 : DataW.trod enc Tryz.prog w base spare held m 47 (([v0, v1, v2].drop 2).take (Tryz.prog.cellsOf 47)) = some y2 := hf 2 _ rfl; rw [Tryz.cells3] at g0; rw [Tryz.cells46] at g1; rw [Tryz.cells47] at g2; simp only [List.drop_zero, lds, lts, List.take_zero] at g0 g1 g2; obtain ⟨a0, e0, _, _⟩ := DataW.trod_int Tryz.underlying3 g0; simp at e0; obtain ⟨a1, n1, c1, rfl⟩ := jS Tryz.underlying46 g1; obtain ⟨a2, n2, c2, rfl⟩ := jS Tryz.underlying47 g2; obtain ⟨l1, e1, b1, m1, s1⟩ := IT g1; obtain ⟨l2, e2, b2, m2, s2⟩ := FP g2; subst e0 e1 e2; exact ⟨⟨a0, a1, l1, c1, a2, l2, c2⟩, rfl, b1, m1, s1, b2, m2, s2⟩
end
end Go.Proofs.YtiojdbffjdoniaaGreatDoor
