import Derived.BigQuiet
import Derived.Test.YtaokdhebbnkheaaPlain
namespace Go.Proofs.Ytaokdhebbnkheaa
open Go.RowKit
/-- A world behind W in which all that lay in W lies as it lay. -/
structure Aft (W : World) where
  w : World
  h : Below W.heap.size W w
set_option maxRecDepth 100000 in
theorem Aft.call {P : Program} {f : FuncId} {args : Array Value} {W : World} {v : Value} (s : Aft W)
    (h : Calls P f args s.w fun e w' => e = .returned v ∧ Below s.w.heap.size s.w w') : Calls P f args s.w fun e w'' => e = .returned v ∧ ∃ s' : Aft W, w'' = s'.w :=
  h.mono fun _ w' ⟨he, hb⟩ => ⟨he, ⟨w', bstep s.h hb⟩, rfl⟩
set_option maxRecDepth 100000 in
theorem wp_region_aft {P : Program} {id : Nat} {Q : Exit → Act → World → Prop} {a : Act} {w : World} {l : List Oper} (hm : P.follows .mixedOrders = true) (hB : Region.lexB .any l.toArray = true)
    (h : wpQuiet P l.toArray (fun w' => ∃ s : Aft w, w' = s.w) (fun a' => ∀ w', (∃ s : Aft w, w' = s.w) → Q .normal a' w') l a) : (Code.region id l.toArray true).wp P Q a w :=
  wp_region_quiet (C := fun w' => ∃ s : Aft w, w' = s.w) hm hB ⟨⟨w.drew, (Below.refl _ _).drew⟩, rfl⟩ (by simpa using h)
set_option maxRecDepth 100000 in
theorem Aft.cell {W : World} {a : Addr} {v : Value} (h : W.cell? a = some v) (s : Aft W) : s.w.cell? a = some v := (s.h.cell (cell_lt h)).trans h
end Go.Proofs.Ytaokdhebbnkheaa
