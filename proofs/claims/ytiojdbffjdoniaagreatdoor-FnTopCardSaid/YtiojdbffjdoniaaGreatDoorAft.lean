import Derived.BigQuiet
import Derived.Test.YtiojdbffjdoniaaGreatDoorSq
namespace Go.Proofs.YtiojdbffjdoniaaGreatDoor
set_option maxRecDepth 100000
open Go.RowKit
structure bO (W : World) where
 w : World
 h : Below W.heap.size W w
theorem bO.call {P : Program} {f : FuncId} {args : Array Value} {W : World} {v : Value} (s : bO W)
 (h : Calls P f args s.w fun e w' => e = .returned v /\ Below s.w.heap.size s.w w') : Calls P f args s.w fun e w'' => e = .returned v /\ ∃ s' : bO W, w'' = s'.w :=
 h.mono fun _ w' ⟨he, hb⟩ => ⟨he, ⟨w', aD s.h hb⟩, rfl⟩
theorem bO.same {P : Program} {f : FuncId} {args : Array Value} {W : World} {v : Value} (s : bO W)
 (h : Calls P f args s.w fun e w' => e = .returned v /\ w' = s.w) : Calls P f args s.w fun e w'' => e = .returned v /\ ∃ s' : bO W, w'' = s'.w :=
 h.mono fun _ _ ⟨he, hb⟩ => ⟨he, s, hb⟩
theorem aR {P : Program} {id : Nat} {Q : Exit -> Act -> World -> Prop} {a : Act} {w : World} {l : List Oper} (hm : P.follows .mixedOrders = true) (hB : Region.lexB .any l.toArray = true)
 (h : wpQuiet P l.toArray (fun w' => ∃ s : bO w, w' = s.w) (fun a' => ∀ w', (∃ s : bO w, w' = s.w) -> Q .normal a' w') l a) : (Code.region id l.toArray true).wp P Q a w :=
 wp_region_quiet (C := fun w' => ∃ s : bO w, w' = s.w) hm hB ⟨⟨w.drew, (br _ _).drew⟩, rfl⟩ (by simpa using h)
theorem bO.cell {W : World} {a : Addr} {v : Value} (h : W.cell? a = some v) (s : bO W) : s.w.cell? a = some v := (s.h.cell (aA h)).trans h
end Go.Proofs.YtiojdbffjdoniaaGreatDoor
