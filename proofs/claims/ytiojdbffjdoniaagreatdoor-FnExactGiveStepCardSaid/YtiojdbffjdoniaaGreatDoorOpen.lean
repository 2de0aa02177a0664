import Derived.ProofKit
import Derived.Deep.Slices
import Derived.Test.YtiojdbffjdoniaaGreatDoorFld
namespace Go.Proofs.YtiojdbffjdoniaaGreatDoor
set_option maxRecDepth 100000
open Go.ChangeShapes Go.WideShapes Go.ChangeAt Go.RowKit Go.Deep
theorem Tryz.cells162 : Tryz.prog.cellsOf 162 = 6 := by kernel_rfl
theorem Tryz.cells3 : Tryz.prog.cellsOf 3 = 1 := by kernel_rfl
section
variable {H : Type} {enc : TypeId × Value -> H} {w : World} {base : Nat} {spare : Nat -> Bool} {held : Bool}
theorem NA {n : Nat} {cs : List Value} {x : DataW H × List MemPlace} (hlen : cs.length = 6) (h : DataW.trod enc Tryz.prog w base spare held n 162 cs = some x) :
 ∃ b : Bx, cs = [.int .i64 b.x, .int .i64 b.y, .int .i64 b.lo, .int .i64 b.hi, .int .i64 b.i, .int .i64 b.o] := by
 obtain ⟨xs, m, _, _, _, hx, hf⟩ := DataW.trod_struct Tryz.underlying162 h
 match cs, hlen with
 | [v0, v1, v2, v3, v4, v5], _ =>
  have hx6 : xs.length = 6 := hx
  match xs, hx6 with
  | [y0, y1, y2, y3, y4, y5], _ =>
   have g0 : DataW.trod enc Tryz.prog w base spare held m 3 (([v0, v1, v2, v3, v4, v5].drop 0).take (Tryz.prog.cellsOf 3)) = some y0 := hf 0 _ rfl; have g1 : DataW.trod enc Tryz.prog w base spare held m 3 (([v0, v1, v2, v3, v4, v5].drop 1).take (Tryz.prog.cellsOf 3)) = some y1 := hf 1 _ rfl; have g2 : DataW.trod enc Tryz.prog w base spare held m 3 (([v0, v1, v2, v3, v4, v5].drop 2).take (Tryz.prog.cellsOf 3)) = some y2 := hf 2 _ rfl; have g3 : DataW.trod enc Tryz.prog w base spare held m 3 (([v0, v1, v2, v3, v4, v5].drop 3).take (Tryz.prog.cellsOf 3)) = some y3 := hf 3 _ rfl; have g4 : DataW.trod enc Tryz.prog w base spare held m 3 (([v0, v1, v2, v3, v4, v5].drop 4).take (Tryz.prog.cellsOf 3)) = some y4 := hf 4 _ rfl; have g5 : DataW.trod enc Tryz.prog w base spare held m 3 (([v0, v1, v2, v3, v4, v5].drop 5).take (Tryz.prog.cellsOf 3)) = some y5 := hf 5 _ rfl; rw [Tryz.cells3] at g0 g1 g2 g3 g4 g5; obtain ⟨a0, e0, _, _⟩ := DataW.trod_int Tryz.underlying3 g0; obtain ⟨a1, e1, _, _⟩ := DataW.trod_int Tryz.underlying3 g1; obtain ⟨a2, e2, _, _⟩ := DataW.trod_int Tryz.underlying3 g2; obtain ⟨a3, e3, _, _⟩ := DataW.trod_int Tryz.underlying3 g3; obtain ⟨a4, e4, _, _⟩ := DataW.trod_int Tryz.underlying3 g4; obtain ⟨a5, e5, _, _⟩ := DataW.trod_int Tryz.underlying3 g5; simp at e0 e1 e2 e3 e4 e5; subst e0 e1 e2 e3 e4 e5; exact ⟨⟨a0, a1, a2, a3, a4, a5⟩, rfl⟩
theorem pM {fuel : Nat} {a : Option Addr} {len cap : Nat} {x : DataW H × List MemPlace} (h : DataW.trod enc Tryz.prog w base spare held fuel 53 [.slice a len cap] = some x) :
 ∃ l : List Bx, l.length = len /\ iL w a l /\ len <= maxLen := by
 rcases open_slice Tryz.underlying53 h with ⟨hcs, _⟩ | ⟨ad, len', cap', m, n, D, Pl, hcs, _, hl, hm, hmm, _, hel⟩
 · simp at hcs
   obtain ⟨rfl, rfl, rfl⟩ := hcs; exact ⟨[], rfl, Or.inl rfl, nz _⟩
 · simp at hcs
   obtain ⟨rfl, rfl, rfl⟩ := hcs; have hlm : len <= m := by rw [hmm]; split <;> omega
   by_cases h0 : len = 0
   · subst h0
     exact ⟨[], rfl, Or.inl rfl, nz _⟩
   obtain ⟨bl, off, spot⟩ := ad
   have hs : spot = none := by
    obtain ⟨cs', hc, ht⟩ := hel 0 (by omega); rw [Tryz.cells162] at hc; obtain ⟨_, hlen, hcell⟩ := World.cells?_some hc; have c0 := hcell 0 (by omega); rw [lge (by omega)] at c0; have hs := World.cell?_spot c0
    simpa [Addr.add] using hs
   subst hs
   have key : ∀ i, ∃ b : Bx, i < len -> eC w bl (off + i * 6) b := by
    intro i
    by_cases hi : i < len
    · obtain ⟨cs', hc, ht⟩ := hel i (by omega)
      rw [Tryz.cells162] at hc; obtain ⟨_, hlen, hcell⟩ := World.cells?_some hc; obtain ⟨b, rfl⟩ := NA hlen ht; have c0 := hcell 0 (by omega); have c1 := hcell 1 (by omega); have c2 := hcell 2 (by omega); have c3 := hcell 3 (by omega); have c4 := hcell 4 (by omega); have c5 := hcell 5 (by omega); refine ⟨b, fun _ => ?_⟩; simp only [add_plain] at c0 c1 c2 c3 c4 c5; exact ⟨by simpa using c0, c1, c2, c3, c4, c5⟩
    · exact ⟨⟨0, 0, 0, 0, 0, 0⟩, fun h => absurd h hi⟩
   obtain ⟨g, hg⟩ := Classical.axiomOfChoice key; refine ⟨(List.range len).map g, by simp, Or.inr ⟨bl, off, rfl, fun k hk => ?_⟩, by omega⟩
   · have hk' : k < len := by simpa using hk
     have := hg k hk'
     simpa using this
end
theorem Tryz.cells151 : Tryz.prog.cellsOf 151 = 3 := by kernel_rfl
theorem Tryz.cells9 : Tryz.prog.cellsOf 9 = 1 := by kernel_rfl
section
variable {H : Type} {enc : TypeId × Value -> H} {w : World} {base : Nat} {spare : Nat -> Bool} {held : Bool}
theorem M6 {n : Nat} {cs : List Value} {x : DataW H × List MemPlace} (hlen : cs.length = 3) (h : DataW.trod enc Tryz.prog w base spare held n 151 cs = some x) :
 ∃ f : Fx, cs = f.cells /\ f.n.size <= maxLen := by
 obtain ⟨xs, m, _, _, _, hx, hf⟩ := DataW.trod_struct Tryz.underlying151 h
 match cs, hlen with
 | [v0, v1, v2], _ =>
  have hx3 : xs.length = 3 := hx
  match xs, hx3 with
  | [y0, y1, y2], _ =>
   have g0 : DataW.trod enc Tryz.prog w base spare held m 9 (([v0, v1, v2].drop 0).take (Tryz.prog.cellsOf 9)) = some y0 := hf 0 _ rfl; have g1 : DataW.trod enc Tryz.prog w base spare held m 3 (([v0, v1, v2].drop 1).take (Tryz.prog.cellsOf 3)) = some y1 := hf 1 _ rfl; have g2 : DataW.trod enc Tryz.prog w base spare held m 3 (([v0, v1, v2].drop 2).take (Tryz.prog.cellsOf 3)) = some y2 := hf 2 _ rfl; rw [Tryz.cells9] at g0; rw [Tryz.cells3] at g1 g2; obtain ⟨a0, e0, _, hs⟩ := DataW.trod_string Tryz.underlying9 g0; obtain ⟨a1, e1, _, _⟩ := DataW.trod_int Tryz.underlying3 g1; obtain ⟨a2, e2, _, _⟩ := DataW.trod_int Tryz.underlying3 g2; simp at e0 e1 e2; subst e0 e1 e2; exact ⟨⟨a0, a1, a2⟩, rfl, hs⟩
theorem IT {fuel : Nat} {a : Option Addr} {len cap : Nat} {x : DataW H × List MemPlace} (h : DataW.trod enc Tryz.prog w base spare held fuel 46 [.slice a len cap] = some x) :
 ∃ l : List Fx, l.length = len /\ Xs 3 Fx.cells w a l /\ len <= maxLen /\ ∀ f ∈ l, f.n.size <= maxLen := by
 rcases open_slice Tryz.underlying46 h with ⟨hcs, _⟩ | ⟨ad, len', cap', m, n, D, Pl, hcs, _, hl, hm, hmm, _, hel⟩
 · simp at hcs
   obtain ⟨rfl, rfl, rfl⟩ := hcs; exact ⟨[], rfl, Or.inl rfl, nz _, by simp⟩
 · simp at hcs
   obtain ⟨rfl, rfl, rfl⟩ := hcs; have hlm : len <= m := by rw [hmm]; split <;> omega
   by_cases h0 : len = 0
   · subst h0
     exact ⟨[], rfl, Or.inl rfl, nz _, by simp⟩
   obtain ⟨bl, off, spot⟩ := ad
   have hs : spot = none := by
    obtain ⟨cs', hc, ht⟩ := hel 0 (by omega); rw [Tryz.cells151] at hc; obtain ⟨_, hlen, hcell⟩ := World.cells?_some hc; have c0 := hcell 0 (by omega); rw [lge (by omega)] at c0; have hs := World.cell?_spot c0
    simpa [Addr.add] using hs
   subst hs
   have key : ∀ i, ∃ f : Fx, i < len -> aN w bl (off + i * 3) f.cells /\ f.n.size <= maxLen := by
    intro i
    by_cases hi : i < len
    · obtain ⟨cs', hc, ht⟩ := hel i (by omega)
      rw [Tryz.cells151] at hc; obtain ⟨_, hlen, hcell⟩ := World.cells?_some hc; obtain ⟨f, rfl, hs⟩ := M6 hlen ht; refine ⟨f, fun _ => ⟨fun j v hj => ?_, hs⟩⟩; have hj3 : j < 3 := (lgs.1 hj).1; have := hcell j hj3; rw [hj] at this
      simpa only [add_plain] using this
    · exact ⟨⟨ByteArray.empty, 0, 0⟩, fun h => absurd h hi⟩
   obtain ⟨g, hg⟩ := Classical.axiomOfChoice key; refine ⟨(List.range len).map g, by simp, Or.inr ⟨bl, off, rfl, fun k hk => ?_⟩, by omega, ?_⟩
   · have hk' : k < len := by simpa using hk
     have := (hg k hk').1
     simpa using this
   · intro f hf
     simp only [List.mem_map, List.mem_range] at hf; obtain ⟨i, hi, rfl⟩ := hf; exact (hg i hi).2
end
end Go.Proofs.YtiojdbffjdoniaaGreatDoor
