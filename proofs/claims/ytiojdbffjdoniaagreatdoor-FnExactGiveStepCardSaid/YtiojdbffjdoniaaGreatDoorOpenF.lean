import Derived.Test.YtiojdbffjdoniaaGreatDoorFld
import Derived.Test.YtiojdbffjdoniaaGreatDoorOpen
namespace Go.Proofs.YtiojdbffjdoniaaGreatDoor
set_option maxRecDepth 100000
open Go.ChangeShapes Go.WideShapes Go.ChangeAt Go.RowKit Go.Deep
theorem Tryz.cells151 : Tryz.prog.cellsOf 151 = 3 := by kernel_rfl
theorem Tryz.cells9 : Tryz.prog.cellsOf 9 = 1 := by kernel_rfl
section
variable {H : Type} {enc : TypeId × Value -> H} {w : World} {base : Nat} {spare : Nat -> Bool} {held : Bool}
theorem MD {n : Nat} {cs : List Value} {x : DataW H × List MemPlace} (hlen : cs.length = 3) (h : DataW.trod enc Tryz.prog w base spare held n 151 cs = some x) :
 ∃ f : Fx, cs = f.cells /\ f.n.size <= maxLen := by
 obtain ⟨xs, m, _, _, _, hx, hf⟩ := DataW.trod_struct Tryz.underlying151 h
 match cs, hlen with
 | [v0, v1, v2], _ =>
  have hx3 : xs.length = 3 := hx
  match xs, hx3 with
  | [y0, y1, y2], _ =>
   have g0 : DataW.trod enc Tryz.prog w base spare held m 9 (([v0, v1, v2].drop 0).take (Tryz.prog.cellsOf 9)) = some y0 := hf 0 _ rfl; have g1 : DataW.trod enc Tryz.prog w base spare held m 3 (([v0, v1, v2].drop 1).take (Tryz.prog.cellsOf 3)) = some y1 := hf 1 _ rfl; have g2 : DataW.trod enc Tryz.prog w base spare held m 3 (([v0, v1, v2].drop 2).take (Tryz.prog.cellsOf 3)) = some y2 := hf 2 _ rfl; rw [Tryz.cells9] at g0; rw [Tryz.cells3] at g1 g2; obtain ⟨a0, e0, _, hs⟩ := DataW.trod_string Tryz.underlying9 g0; obtain ⟨a1, e1, _, _⟩ := DataW.trod_int Tryz.underlying3 g1; obtain ⟨a2, e2, _, _⟩ := DataW.trod_int Tryz.underlying3 g2; simp at e0 e1 e2; subst e0 e1 e2; exact ⟨⟨a0, a1, a2⟩, rfl, hs⟩
theorem IV {fuel : Nat} {a : Option Addr} {len cap : Nat} {x : DataW H × List MemPlace} (h : DataW.trod enc Tryz.prog w base spare held fuel 46 [.slice a len cap] = some x) :
 ∃ l : List Fx, l.length = len /\ Xs 3 Fx.cells w a l /\ len <= maxLen /\ ∀ f ∈ l, f.n.size <= maxLen := by
 rcases open_slice Tryz.underlying46 h with ⟨hcs, _⟩ | ⟨ad, len', cap', m, n, D, Pl, hcs, _, hl, hm, hmm, _, hel⟩
 · simp at hcs
   obtain ⟨rfl, rfl, rfl⟩ := hcs; exact ⟨[], rfl, Or.inl rfl, nz _, by simp⟩
 · simp at hcs
   obtain ⟨rfl, rfl, rfl⟩ := hcs; have hlm : len <= m := by rw [hmm]; split <;> omega
   by_cases h0 : len = 0
   · subst h0
     exact ⟨[], rfl, Or.inl rfl, nz _, by simp⟩
   obtain ⟨bl, off, spot⟩ := ad
   have hs : spot = none := by
    obtain ⟨cs', hc, ht⟩ := hel 0 (by omega); rw [Tryz.cells151] at hc; obtain ⟨_, hlen, hcell⟩ := World.cells?_some hc; have c0 := hcell 0 (by omega); rw [lge (by omega)] at c0; have hs := World.cell?_spot c0
    simpa [Addr.add] using hs
   subst hs
   have key : ∀ i, ∃ f : Fx, i < len -> aM w bl (off + i * 3) f.cells /\ f.n.size <= maxLen := by
    intro i
    by_cases hi : i < len
    · obtain ⟨cs', hc, ht⟩ := hel i (by omega)
      rw [Tryz.cells151] at hc; obtain ⟨_, hlen, hcell⟩ := World.cells?_some hc; obtain ⟨f, rfl, hs⟩ := MD hlen ht; refine ⟨f, fun _ => ⟨fun j v hj => ?_, hs⟩⟩; have hj3 : j < 3 := (lgs.1 hj).1; have := hcell j hj3; rw [hj] at this
      simpa only [add_plain] using this
    · exact ⟨⟨ByteArray.empty, 0, 0⟩, fun h => absurd h hi⟩
   obtain ⟨g, hg⟩ := Classical.axiomOfChoice key; refine ⟨(List.range len).map g, by simp, Or.inr ⟨bl, off, rfl, fun k hk => ?_⟩, by omega, ?_⟩
   · have hk' : k < len := by simpa using hk
     have := (hg k hk').1
     simpa using this
   · intro f hf
     simp only [List.mem_map, List.mem_range] at hf; obtain ⟨i, hi, rfl⟩ := hf; exact (hg i hi).2
end
end Go.Proofs.YtiojdbffjdoniaaGreatDoor
