import Derived.Test.YtiojdbffjdoniaaGreatDoorDv
import Derived.Deep.DeepCutAuto
import Derived.Deep.CutBlock
import Derived.Test.YtiojdbffjdoniaaGreatDoorGc
namespace Go.Proofs.YtiojdbffjdoniaaGreatDoor
open Go.RowKit Go.Shelf
attribute [local go_sem] Oper.semAt_some
structure K6 (Wd : World) (A k : Nat) (l : List Hx) (y : Hx) (h0 h4 h12 : Value) (L : Nat -> Prop) (vs : Nat -> Value) (w' : World) : Prop where
 v0 : L 0 -> ∃ p, vs 0 = .slice (some ⟨p, 0, none⟩) 0 0 /\ Wd.heap.size <= p /\ (¬ L 5 -> w'.heap[p]? = some (.cells #[] 42))
 v1 : L 1 -> vs 1 = .pointer (some ⟨A, 2, none⟩)
 v2 : L 2 -> vs 2 = h0
 v3 : L 3 -> vs 3 = .int .i64 (k : Int)
 v4 : L 4 -> vs 4 = h4
 v5 : L 5 -> ¬ L 8 -> w'.ownsRow Wd.heap.size 42 3 (vs 5) k (aQ Hx.cells (l.take k))
 v6 : L 6 -> vs 6 = y.val
 v7 : L 7 -> ∃ V, vs 7 = .slice (some ⟨V, 0, none⟩) 1 1 /\ (¬ L 8 -> w'.heap[V]? = some (.cells #[.string y.n, .slice y.ta y.tl.length y.tc, .slice y.na y.nl.length y.nc] 42))
 v8 : L 8 -> ¬ L 13 -> w'.ownsRow Wd.heap.size 42 3 (vs 8) (k + 1) (aQ Hx.cells (l.take k) ++ y.cells)
 v9 : L 9 -> vs 9 = .pointer (some ⟨A, 2, none⟩)
 v10 : L 10 -> vs 10 = h0
 v11 : L 11 -> vs 11 = .int .i64 (k : Int)
 v12 : L 12 -> vs 12 = h12
 v13 : L 13 -> ¬ L 15 -> w'.ownsRow Wd.heap.size 42 3 (vs 13) (l.length + 1) (aQ Hx.cells (l.take k) ++ y.cells ++ aQ Hx.cells (l.drop k))
 v14 : L 14 -> vs 14 = .pointer (some ⟨A, 2, none⟩)
 w15 : L 15 -> ∃ w0, Below Wd.heap.size Wd w0 /\ w0.ownsRow Wd.heap.size 42 3 (vs 13) (l.length + 1) (aQ Hx.cells (l.take k) ++ y.cells ++ aQ Hx.cells (l.drop k)) /\ w' = w0.setCell ⟨A, 2, none⟩ (vs 13)
 bw : ¬ L 15 -> Below Wd.heap.size Wd w'
theorem K6.ext {Wd : World} {A k : Nat} {l : List Hx} {y : Hx} {h0 h4 h12 : Value} (L L' : Nat -> Prop) (vs : Nat -> Value) (w' : World) (h : ∀ j, L j ↔ L' j) (q : K6 Wd A k l y h0 h4 h12 L vs w') : K6 Wd A k l y h0 h4 h12 L' vs w' := by
 obtain rfl : L = L' := funext fun j => propext (h j); exact q
theorem K6.zL {Wd : World} {A k : Nat} {l : List Hx} {y : Hx} {h0 h4 h12 : Value} {L : Nat -> Prop} {vs : Nat -> Value} {w' w'' : World} (q : K6 Wd A k l y h0 h4 h12 L vs w') (h15 : ¬ L 15) (hb : Below w'.heap.size w' w'') : K6 Wd A k l y h0 h4 h12 L vs w'' :=
 ⟨fun h => by obtain ⟨p, e, h1, h2⟩ := q.v0 h; exact ⟨p, e, h1, fun h5 => aY (h2 h5) hb⟩, q.v1, q.v2, q.v3, q.v4, fun h g => nU (q.v5 h g) hb, q.v6, fun h => by obtain ⟨V, e, h2⟩ := q.v7 h; exact ⟨V, e, fun h5 => aY (h2 h5) hb⟩, fun h g => nU (q.v8 h g) hb, q.v9, q.v10, q.v11, q.v12, fun h g => nU (q.v13 h g) hb, q.v14, fun h => absurd h h15, fun h => aD (q.bw h) hb⟩
theorem K6.add1 {Wd : World} {A k : Nat} {l : List Hx} {y : Hx} {h0 h4 h12 : Value} {L : Nat -> Prop} {vs : Nat -> Value} {w' : World} {v : Value} (q : K6 Wd A k l y h0 h4 h12 L vs w') (hv : v = .pointer (some ⟨A, 2, none⟩)) : K6 Wd A k l y h0 h4 h12 (fun j => L j ∨ j = 1) (aH vs 1 v) w' :=
 ⟨fun h => by obtain ⟨p, e, h1, h2⟩ := q.v0 (aV h); exact ⟨p, e, h1, fun h5 => h2 (fun s => h5 (.inl s))⟩, fun _ => hv, fun h => q.v2 (aV h), fun h => q.v3 (aV h), fun h => q.v4 (aV h), fun h g => q.v5 (aV h) (fun s => g (.inl s)), fun h => q.v6 (aV h), fun h => by obtain ⟨V, e, h2⟩ := q.v7 (aV h); exact ⟨V, e, fun h5 => h2 (fun s => h5 (.inl s))⟩, fun h g => q.v8 (aV h) (fun s => g (.inl s)), fun h => q.v9 (aV h), fun h => q.v10 (aV h), fun h => q.v11 (aV h), fun h => q.v12 (aV h), fun h g => q.v13 (aV h) (fun s => g (.inl s)), fun h => q.v14 (aV h), fun h => q.w15 (aV h), fun h => q.bw (fun s => h (.inl s))⟩
theorem K6.add2 {Wd : World} {A k : Nat} {l : List Hx} {y : Hx} {h0 h4 h12 : Value} {L : Nat -> Prop} {vs : Nat -> Value} {w' : World} {v : Value} (q : K6 Wd A k l y h0 h4 h12 L vs w') (hv : v = h0) : K6 Wd A k l y h0 h4 h12 (fun j => L j ∨ j = 2) (aH vs 2 v) w' :=
 ⟨fun h => by obtain ⟨p, e, h1, h2⟩ := q.v0 (aV h); exact ⟨p, e, h1, fun h5 => h2 (fun s => h5 (.inl s))⟩, fun h => q.v1 (aV h), fun _ => hv, fun h => q.v3 (aV h), fun h => q.v4 (aV h), fun h g => q.v5 (aV h) (fun s => g (.inl s)), fun h => q.v6 (aV h), fun h => by obtain ⟨V, e, h2⟩ := q.v7 (aV h); exact ⟨V, e, fun h5 => h2 (fun s => h5 (.inl s))⟩, fun h g => q.v8 (aV h) (fun s => g (.inl s)), fun h => q.v9 (aV h), fun h => q.v10 (aV h), fun h => q.v11 (aV h), fun h => q.v12 (aV h), fun h g => q.v13 (aV h) (fun s => g (.inl s)), fun h => q.v14 (aV h), fun h => q.w15 (aV h), fun h => q.bw (fun s => h (.inl s))⟩
theorem K6.add3 {Wd : World} {A k : Nat} {l : List Hx} {y : Hx} {h0 h4 h12 : Value} {L : Nat -> Prop} {vs : Nat -> Value} {w' : World} {v : Value} (q : K6 Wd A k l y h0 h4 h12 L vs w') (hv : v = .int .i64 (k : Int)) : K6 Wd A k l y h0 h4 h12 (fun j => L j ∨ j = 3) (aH vs 3 v) w' :=
 ⟨fun h => by obtain ⟨p, e, h1, h2⟩ := q.v0 (aV h); exact ⟨p, e, h1, fun h5 => h2 (fun s => h5 (.inl s))⟩, fun h => q.v1 (aV h), fun h => q.v2 (aV h), fun _ => hv, fun h => q.v4 (aV h), fun h g => q.v5 (aV h) (fun s => g (.inl s)), fun h => q.v6 (aV h), fun h => by obtain ⟨V, e, h2⟩ := q.v7 (aV h); exact ⟨V, e, fun h5 => h2 (fun s => h5 (.inl s))⟩, fun h g => q.v8 (aV h) (fun s => g (.inl s)), fun h => q.v9 (aV h), fun h => q.v10 (aV h), fun h => q.v11 (aV h), fun h => q.v12 (aV h), fun h g => q.v13 (aV h) (fun s => g (.inl s)), fun h => q.v14 (aV h), fun h => q.w15 (aV h), fun h => q.bw (fun s => h (.inl s))⟩
theorem K6.add4 {Wd : World} {A k : Nat} {l : List Hx} {y : Hx} {h0 h4 h12 : Value} {L : Nat -> Prop} {vs : Nat -> Value} {w' : World} {v : Value} (q : K6 Wd A k l y h0 h4 h12 L vs w') (hv : v = h4) : K6 Wd A k l y h0 h4 h12 (fun j => L j ∨ j = 4) (aH vs 4 v) w' :=
 ⟨fun h => by obtain ⟨p, e, h1, h2⟩ := q.v0 (aV h); exact ⟨p, e, h1, fun h5 => h2 (fun s => h5 (.inl s))⟩, fun h => q.v1 (aV h), fun h => q.v2 (aV h), fun h => q.v3 (aV h), fun _ => hv, fun h g => q.v5 (aV h) (fun s => g (.inl s)), fun h => q.v6 (aV h), fun h => by obtain ⟨V, e, h2⟩ := q.v7 (aV h); exact ⟨V, e, fun h5 => h2 (fun s => h5 (.inl s))⟩, fun h g => q.v8 (aV h) (fun s => g (.inl s)), fun h => q.v9 (aV h), fun h => q.v10 (aV h), fun h => q.v11 (aV h), fun h => q.v12 (aV h), fun h g => q.v13 (aV h) (fun s => g (.inl s)), fun h => q.v14 (aV h), fun h => q.w15 (aV h), fun h => q.bw (fun s => h (.inl s))⟩
theorem K6.add6 {Wd : World} {A k : Nat} {l : List Hx} {y : Hx} {h0 h4 h12 : Value} {L : Nat -> Prop} {vs : Nat -> Value} {w' : World} {v : Value} (q : K6 Wd A k l y h0 h4 h12 L vs w') (hv : v = y.val) : K6 Wd A k l y h0 h4 h12 (fun j => L j ∨ j = 6) (aH vs 6 v) w' :=
 ⟨fun h => by obtain ⟨p, e, h1, h2⟩ := q.v0 (aV h); exact ⟨p, e, h1, fun h5 => h2 (fun s => h5 (.inl s))⟩, fun h => q.v1 (aV h), fun h => q.v2 (aV h), fun h => q.v3 (aV h), fun h => q.v4 (aV h), fun h g => q.v5 (aV h) (fun s => g (.inl s)), fun _ => hv, fun h => by obtain ⟨V, e, h2⟩ := q.v7 (aV h); exact ⟨V, e, fun h5 => h2 (fun s => h5 (.inl s))⟩, fun h g => q.v8 (aV h) (fun s => g (.inl s)), fun h => q.v9 (aV h), fun h => q.v10 (aV h), fun h => q.v11 (aV h), fun h => q.v12 (aV h), fun h g => q.v13 (aV h) (fun s => g (.inl s)), fun h => q.v14 (aV h), fun h => q.w15 (aV h), fun h => q.bw (fun s => h (.inl s))⟩
theorem K6.add9 {Wd : World} {A k : Nat} {l : List Hx} {y : Hx} {h0 h4 h12 : Value} {L : Nat -> Prop} {vs : Nat -> Value} {w' : World} {v : Value} (q : K6 Wd A k l y h0 h4 h12 L vs w') (hv : v = .pointer (some ⟨A, 2, none⟩)) : K6 Wd A k l y h0 h4 h12 (fun j => L j ∨ j = 9) (aH vs 9 v) w' :=
 ⟨fun h => by obtain ⟨p, e, h1, h2⟩ := q.v0 (aV h); exact ⟨p, e, h1, fun h5 => h2 (fun s => h5 (.inl s))⟩, fun h => q.v1 (aV h), fun h => q.v2 (aV h), fun h => q.v3 (aV h), fun h => q.v4 (aV h), fun h g => q.v5 (aV h) (fun s => g (.inl s)), fun h => q.v6 (aV h), fun h => by obtain ⟨V, e, h2⟩ := q.v7 (aV h); exact ⟨V, e, fun h5 => h2 (fun s => h5 (.inl s))⟩, fun h g => q.v8 (aV h) (fun s => g (.inl s)), fun _ => hv, fun h => q.v10 (aV h), fun h => q.v11 (aV h), fun h => q.v12 (aV h), fun h g => q.v13 (aV h) (fun s => g (.inl s)), fun h => q.v14 (aV h), fun h => q.w15 (aV h), fun h => q.bw (fun s => h (.inl s))⟩
theorem K6.add10 {Wd : World} {A k : Nat} {l : List Hx} {y : Hx} {h0 h4 h12 : Value} {L : Nat -> Prop} {vs : Nat -> Value} {w' : World} {v : Value} (q : K6 Wd A k l y h0 h4 h12 L vs w') (hv : v = h0) : K6 Wd A k l y h0 h4 h12 (fun j => L j ∨ j = 10) (aH vs 10 v) w' :=
 ⟨fun h => by obtain ⟨p, e, h1, h2⟩ := q.v0 (aV h); exact ⟨p, e, h1, fun h5 => h2 (fun s => h5 (.inl s))⟩, fun h => q.v1 (aV h), fun h => q.v2 (aV h), fun h => q.v3 (aV h), fun h => q.v4 (aV h), fun h g => q.v5 (aV h) (fun s => g (.inl s)), fun h => q.v6 (aV h), fun h => by obtain ⟨V, e, h2⟩ := q.v7 (aV h); exact ⟨V, e, fun h5 => h2 (fun s => h5 (.inl s))⟩, fun h g => q.v8 (aV h) (fun s => g (.inl s)), fun h => q.v9 (aV h), fun _ => hv, fun h => q.v11 (aV h), fun h => q.v12 (aV h), fun h g => q.v13 (aV h) (fun s => g (.inl s)), fun h => q.v14 (aV h), fun h => q.w15 (aV h), fun h => q.bw (fun s => h (.inl s))⟩
theorem K6.add11 {Wd : World} {A k : Nat} {l : List Hx} {y : Hx} {h0 h4 h12 : Value} {L : Nat -> Prop} {vs : Nat -> Value} {w' : World} {v : Value} (q : K6 Wd A k l y h0 h4 h12 L vs w') (hv : v = .int .i64 (k : Int)) : K6 Wd A k l y h0 h4 h12 (fun j => L j ∨ j = 11) (aH vs 11 v) w' :=
 ⟨fun h => by obtain ⟨p, e, h1, h2⟩ := q.v0 (aV h); exact ⟨p, e, h1, fun h5 => h2 (fun s => h5 (.inl s))⟩, fun h => q.v1 (aV h), fun h => q.v2 (aV h), fun h => q.v3 (aV h), fun h => q.v4 (aV h), fun h g => q.v5 (aV h) (fun s => g (.inl s)), fun h => q.v6 (aV h), fun h => by obtain ⟨V, e, h2⟩ := q.v7 (aV h); exact ⟨V, e, fun h5 => h2 (fun s => h5 (.inl s))⟩, fun h g => q.v8 (aV h) (fun s => g (.inl s)), fun h => q.v9 (aV h), fun h => q.v10 (aV h), fun _ => hv, fun h => q.v12 (aV h), fun h g => q.v13 (aV h) (fun s => g (.inl s)), fun h => q.v14 (aV h), fun h => q.w15 (aV h), fun h => q.bw (fun s => h (.inl s))⟩
theorem K6.add12 {Wd : World} {A k : Nat} {l : List Hx} {y : Hx} {h0 h4 h12 : Value} {L : Nat -> Prop} {vs : Nat -> Value} {w' : World} {v : Value} (q : K6 Wd A k l y h0 h4 h12 L vs w') (hv : v = h12) : K6 Wd A k l y h0 h4 h12 (fun j => L j ∨ j = 12) (aH vs 12 v) w' :=
 ⟨fun h => by obtain ⟨p, e, h1, h2⟩ := q.v0 (aV h); exact ⟨p, e, h1, fun h5 => h2 (fun s => h5 (.inl s))⟩, fun h => q.v1 (aV h), fun h => q.v2 (aV h), fun h => q.v3 (aV h), fun h => q.v4 (aV h), fun h g => q.v5 (aV h) (fun s => g (.inl s)), fun h => q.v6 (aV h), fun h => by obtain ⟨V, e, h2⟩ := q.v7 (aV h); exact ⟨V, e, fun h5 => h2 (fun s => h5 (.inl s))⟩, fun h g => q.v8 (aV h) (fun s => g (.inl s)), fun h => q.v9 (aV h), fun h => q.v10 (aV h), fun h => q.v11 (aV h), fun _ => hv, fun h g => q.v13 (aV h) (fun s => g (.inl s)), fun h => q.v14 (aV h), fun h => q.w15 (aV h), fun h => q.bw (fun s => h (.inl s))⟩
theorem K6.add14 {Wd : World} {A k : Nat} {l : List Hx} {y : Hx} {h0 h4 h12 : Value} {L : Nat -> Prop} {vs : Nat -> Value} {w' : World} {v : Value} (q : K6 Wd A k l y h0 h4 h12 L vs w') (hv : v = .pointer (some ⟨A, 2, none⟩)) : K6 Wd A k l y h0 h4 h12 (fun j => L j ∨ j = 14) (aH vs 14 v) w' :=
 ⟨fun h => by obtain ⟨p, e, h1, h2⟩ := q.v0 (aV h); exact ⟨p, e, h1, fun h5 => h2 (fun s => h5 (.inl s))⟩, fun h => q.v1 (aV h), fun h => q.v2 (aV h), fun h => q.v3 (aV h), fun h => q.v4 (aV h), fun h g => q.v5 (aV h) (fun s => g (.inl s)), fun h => q.v6 (aV h), fun h => by obtain ⟨V, e, h2⟩ := q.v7 (aV h); exact ⟨V, e, fun h5 => h2 (fun s => h5 (.inl s))⟩, fun h g => q.v8 (aV h) (fun s => g (.inl s)), fun h => q.v9 (aV h), fun h => q.v10 (aV h), fun h => q.v11 (aV h), fun h => q.v12 (aV h), fun h g => q.v13 (aV h) (fun s => g (.inl s)), fun _ => hv, fun h => q.w15 (aV h), fun h => q.bw (fun s => h (.inl s))⟩
theorem K6.add0 {Wd : World} {A k : Nat} {l : List Hx} {y : Hx} {h0 h4 h12 : Value} {L : Nat -> Prop} {vs : Nat -> Value} {w' : World} {v : Value} (q : K6 Wd A k l y h0 h4 h12 L vs w') (hv : ∃ p, v = .slice (some ⟨p, 0, none⟩) 0 0 /\ Wd.heap.size <= p /\ w'.heap[p]? = some (.cells #[] 42)) : K6 Wd A k l y h0 h4 h12 (fun j => L j ∨ j = 0) (aH vs 0 v) w' :=
 ⟨fun _ => by obtain ⟨p, e, h1, h2⟩ := hv; exact ⟨p, e, h1, fun _ => h2⟩, fun h => q.v1 (aV h), fun h => q.v2 (aV h), fun h => q.v3 (aV h), fun h => q.v4 (aV h), fun h g => q.v5 (aV h) (fun s => g (.inl s)), fun h => q.v6 (aV h), fun h => by obtain ⟨V, e, h2⟩ := q.v7 (aV h); exact ⟨V, e, fun h5 => h2 (fun s => h5 (.inl s))⟩, fun h g => q.v8 (aV h) (fun s => g (.inl s)), fun h => q.v9 (aV h), fun h => q.v10 (aV h), fun h => q.v11 (aV h), fun h => q.v12 (aV h), fun h g => q.v13 (aV h) (fun s => g (.inl s)), fun h => q.v14 (aV h), fun h => q.w15 (aV h), fun h => q.bw (fun s => h (.inl s))⟩
theorem K6.add5 {Wd : World} {A k : Nat} {l : List Hx} {y : Hx} {h0 h4 h12 : Value} {L : Nat -> Prop} {vs : Nat -> Value} {w' : World} {v : Value} (q : K6 Wd A k l y h0 h4 h12 L vs w') (hv : w'.ownsRow Wd.heap.size 42 3 v k (aQ Hx.cells (l.take k))) : K6 Wd A k l y h0 h4 h12 (fun j => L j ∨ j = 5) (aH vs 5 v) w' :=
 ⟨fun h => by obtain ⟨p, e, h1, h2⟩ := q.v0 (aV h); exact ⟨p, e, h1, fun h5 => absurd (.inr rfl) h5⟩, fun h => q.v1 (aV h), fun h => q.v2 (aV h), fun h => q.v3 (aV h), fun h => q.v4 (aV h), fun _ _ => hv, fun h => q.v6 (aV h), fun h => by obtain ⟨V, e, h2⟩ := q.v7 (aV h); exact ⟨V, e, fun h5 => h2 (fun s => h5 (.inl s))⟩, fun h g => q.v8 (aV h) (fun s => g (.inl s)), fun h => q.v9 (aV h), fun h => q.v10 (aV h), fun h => q.v11 (aV h), fun h => q.v12 (aV h), fun h g => q.v13 (aV h) (fun s => g (.inl s)), fun h => q.v14 (aV h), fun h => q.w15 (aV h), fun h => q.bw (fun s => h (.inl s))⟩
theorem K6.add7 {Wd : World} {A k : Nat} {l : List Hx} {y : Hx} {h0 h4 h12 : Value} {L : Nat -> Prop} {vs : Nat -> Value} {w' : World} {v : Value} (q : K6 Wd A k l y h0 h4 h12 L vs w') (hv : ∃ V, v = .slice (some ⟨V, 0, none⟩) 1 1 /\ w'.heap[V]? = some (.cells #[.string y.n, .slice y.ta y.tl.length y.tc, .slice y.na y.nl.length y.nc] 42)) : K6 Wd A k l y h0 h4 h12 (fun j => L j ∨ j = 7) (aH vs 7 v) w' :=
 ⟨fun h => by obtain ⟨p, e, h1, h2⟩ := q.v0 (aV h); exact ⟨p, e, h1, fun h5 => h2 (fun s => h5 (.inl s))⟩, fun h => q.v1 (aV h), fun h => q.v2 (aV h), fun h => q.v3 (aV h), fun h => q.v4 (aV h), fun h g => q.v5 (aV h) (fun s => g (.inl s)), fun h => q.v6 (aV h), fun _ => by obtain ⟨V, e, h2⟩ := hv; exact ⟨V, e, fun _ => h2⟩, fun h g => q.v8 (aV h) (fun s => g (.inl s)), fun h => q.v9 (aV h), fun h => q.v10 (aV h), fun h => q.v11 (aV h), fun h => q.v12 (aV h), fun h g => q.v13 (aV h) (fun s => g (.inl s)), fun h => q.v14 (aV h), fun h => q.w15 (aV h), fun h => q.bw (fun s => h (.inl s))⟩
theorem K6.add8 {Wd : World} {A k : Nat} {l : List Hx} {y : Hx} {h0 h4 h12 : Value} {L : Nat -> Prop} {vs : Nat -> Value} {w' w'' : World} {v : Value} (q : K6 Wd A k l y h0 h4 h12 L vs w') (h5 : L 5) (h13 : ¬ L 13) (h15 : ¬ L 15) (hv : w''.ownsRow Wd.heap.size 42 3 v (k + 1) (aQ Hx.cells (l.take k) ++ y.cells)) (hb : Below Wd.heap.size Wd w'') : K6 Wd A k l y h0 h4 h12 (fun j => L j ∨ j = 8) (aH vs 8 v) w'' :=
 ⟨fun h => by obtain ⟨p, e, h1, _⟩ := q.v0 (aV h); exact ⟨p, e, h1, fun g => absurd (.inl h5) g⟩, fun h => q.v1 (aV h), fun h => q.v2 (aV h), fun h => q.v3 (aV h), fun h => q.v4 (aV h), fun _ g => absurd (.inr rfl) g, fun h => q.v6 (aV h), fun h => by obtain ⟨V, e, _⟩ := q.v7 (aV h); exact ⟨V, e, fun g => absurd (.inr rfl) g⟩, fun _ _ => hv, fun h => q.v9 (aV h), fun h => q.v10 (aV h), fun h => q.v11 (aV h), fun h => q.v12 (aV h), fun h => absurd (aV h) h13, fun h => q.v14 (aV h), fun h => absurd (aV h) h15, fun _ => hb⟩
theorem K6.add13 {Wd : World} {A k : Nat} {l : List Hx} {y : Hx} {h0 h4 h12 : Value} {L : Nat -> Prop} {vs : Nat -> Value} {w' w'' : World} {v : Value} (q : K6 Wd A k l y h0 h4 h12 L vs w') (h5 : L 5) (h8 : L 8) (h15 : ¬ L 15) (hv : w''.ownsRow Wd.heap.size 42 3 v (l.length + 1) (aQ Hx.cells (l.take k) ++ y.cells ++ aQ Hx.cells (l.drop k))) (hb : Below Wd.heap.size Wd w'') : K6 Wd A k l y h0 h4 h12 (fun j => L j ∨ j = 13) (aH vs 13 v) w'' :=
 ⟨fun h => by obtain ⟨p, e, h1, _⟩ := q.v0 (aV h); exact ⟨p, e, h1, fun g => absurd (.inl h5) g⟩, fun h => q.v1 (aV h), fun h => q.v2 (aV h), fun h => q.v3 (aV h), fun h => q.v4 (aV h), fun _ g => absurd (.inl h8) g, fun h => q.v6 (aV h), fun h => by obtain ⟨V, e, _⟩ := q.v7 (aV h); exact ⟨V, e, fun g => absurd (.inl h8) g⟩, fun _ g => absurd (.inr rfl) g, fun h => q.v9 (aV h), fun h => q.v10 (aV h), fun h => q.v11 (aV h), fun h => q.v12 (aV h), fun _ _ => hv, fun h => q.v14 (aV h), fun h => absurd (aV h) h15, fun _ => hb⟩
theorem K6.add15 {Wd : World} {A k : Nat} {l : List Hx} {y : Hx} {h0 h4 h12 : Value} {L : Nat -> Prop} {vs : Nat -> Value} {w' : World} {v : Value} (q : K6 Wd A k l y h0 h4 h12 L vs w') (h5 : L 5) (h8 : L 8) (h13 : L 13) (h15 : ¬ L 15) : K6 Wd A k l y h0 h4 h12 (fun j => L j ∨ j = 15) (aH vs 15 v) (w'.setCell ⟨A, 2, none⟩ (vs 13)) :=
 ⟨fun h => by obtain ⟨p, e, h1, _⟩ := q.v0 (aV h); exact ⟨p, e, h1, fun g => absurd (.inl h5) g⟩, fun h => q.v1 (aV h), fun h => q.v2 (aV h), fun h => q.v3 (aV h), fun h => q.v4 (aV h), fun _ g => absurd (.inl h8) g, fun h => q.v6 (aV h), fun h => by obtain ⟨V, e, _⟩ := q.v7 (aV h); exact ⟨V, e, fun g => absurd (.inl h8) g⟩, fun _ g => absurd (.inl h13) g, fun h => q.v9 (aV h), fun h => q.v10 (aV h), fun h => q.v11 (aV h), fun h => q.v12 (aV h), fun _ g => absurd (.inr rfl) g, fun h => q.v14 (aV h), fun _ => ⟨w', q.bw h15, q.v13 h13 h15, rfl⟩, fun h => absurd (.inr rfl) h⟩
set_option maxRecDepth 100000
set_option maxHeartbeats 16000000
open Go.BigFrame
def nI (l : List Hx) (nm : ByteArray) : Nat := (l.takeWhile (fun h => gG h.n nm)).length
def jW (l : List Hx) (y : Hx) : List Hx := l.take (nI l y.n) ++ y :: l.drop (nI l y.n)
theorem yD {l : List Hx} {nm : ByteArray} {k : Nat} (hk : k <= l.length) (hlo : ∀ j (h : j < l.length), j < k -> gG l[j].n nm = true) (hhi : ∀ h : k < l.length, gG l[k].n nm = false) : nI l nm = k := by
 induction l generalizing k with
 | nil => simp at hk; subst hk; rfl
 | cons a r ih =>
  cases k with
  | zero =>
   have := hhi (by simp); simp only [List.getElem_cons_zero] at this
   simp [nI, this]
  | succ m =>
   have h0 := hlo 0 (by simp) (by omega); simp only [List.getElem_cons_zero] at h0; have := ih (k := m) (by simpa using hk) (fun j h hj => by have := hlo (j + 1) (by simpa using h) (by omega); simpa using this) (fun h => by have := hhi (by simpa using h); simpa using this); simp only [nI] at this ⊢
   simp [h0, this]
theorem NP {w W : World} {g cap k : Nat} {l : List Hx} (h : bJ 42 3 Hx.cells w g cap l l.length) (hc : l.length <= cap) (hN : Below w.heap.size w W) : ∀ j u, (aQ Hx.cells (l.take k))[j]? = some u -> W.cell? ((⟨g, 0, none⟩ : Addr).add j) = some u :=
 nX Hx.cells_length (by decide) (fun i hi => by
  rw [List.getElem_take]
  exact (h.xs' Hx.cells_length (nlq _) hc i (by simp at hi; omega)).zL hN)
theorem MC {w W : World} {g cap k : Nat} {l : List Hx} (h : bJ 42 3 Hx.cells w g cap l l.length) (hc : l.length <= cap) (hN : Below w.heap.size w W) : ∀ j u, (aQ Hx.cells (l.drop k))[j]? = some u -> W.cell? ((⟨g, k * 3, none⟩ : Addr).add j) = some u :=
 nX Hx.cells_length (by decide) (fun i hi => by
  rw [List.getElem_drop]; have := (h.xs' Hx.cells_length (nlq _) hc (k + i) (by simp at hi; omega)).zL hN
  rwa [Nat.zero_add, Nat.add_mul] at this)
theorem JO (b : Bk) (y : Hx) (z : Nat) (w : World) (hO : bM 42 3 Hx.cells w z (.slice b.ha b.hl.length b.hc) b.hl) (hn : b.hl.length <= 64) :
 Calls Tryz.prog 76 #[b.val, y.val] w fun e w' => (∃ a' c', e = .returned (Bk.val ⟨b.now, b.fa, b.fl, b.fc, a', jW b.hl y, c'⟩) /\ bM 42 3 Hx.cells w' w.heap.size (.slice a' (jW b.hl y).length c') (jW b.hl y)) /\ Below w.heap.size w w' := by
 obtain ⟨j0, hih, hy0, hy1, hy2⟩ := info_parts Tryz.info42; have N1 : Below w.heap.size w (w.alloc b.obj) := aA (br _ _) _; have A1 := wnq w b.obj; obtain ⟨U1, hU1⟩ : ∃ U, w.alloc b.obj = U := ⟨_, rfl⟩; have z1 : U1.heap.size = w.heap.size + 1 := by rw [← hU1]; simp
 rw [hU1] at N1 A1; have M2 : Below U1.heap.size U1 (U1.alloc (.cells #[.string y.n, .slice y.ta y.tl.length y.tc, .slice y.na y.nl.length y.nc] 42)) := aA (br _ _) _; have X2 := wnq U1 (.cells #[.string y.n, .slice y.ta y.tl.length y.tc, .slice y.na y.nl.length y.nc] 42); obtain ⟨U2, hU2⟩ : ∃ U, U1.alloc (.cells #[.string y.n, .slice y.ta y.tl.length y.tc, .slice y.na y.nl.length y.nc] 42) = U := ⟨_, rfl⟩; have z2 : U2.heap.size = w.heap.size + 2 := by rw [← hU2]; simp [z1]
 rw [hU2] at M2 X2; have M3 : Below U2.heap.size U2 (U2.alloc (.cells #[.int .i64 0, .slice none 0 0, .slice none 0 0] 29)) := aA (br _ _) _; have R3 := wnq U2 (.cells #[.int .i64 0, .slice none 0 0, .slice none 0 0] 29); obtain ⟨U3, hU3⟩ : ∃ U, U2.alloc (.cells #[.int .i64 0, .slice none 0 0, .slice none 0 0] 29) = U := ⟨_, rfl⟩; rw [hU3] at M3 R3; have N3 : Below w.heap.size w U3 := aD (aD N1 M2) M3; have HA3 : Hid _ := aY (aY A1 M2) M3; have HY3 : Hid (U3.heap[w.heap.size + 1]? = some (.cells #[.string y.n, .slice y.ta y.tl.length y.tc, .slice y.na y.nl.length y.nc] 42)) := by rw [Hid, ← z1]; exact aY X2 M3
 have HR3 : Hid (U3.heap[w.heap.size + 2]? = some (.cells #[.int .i64 0, .slice none 0 0, .slice none 0 0] 29)) := by rw [Hid, ← z2]; exact R3
 clear N1 M2 M3 A1 X2 R3
 go_enter Tryz.func76, Tryz.ntmps76
 go_upto_block 0 with fail
 clear hU1 hU2 hU3; have HO : Hid _ := hO
 go_cut [5] (fun iv wx => ∃ k : Nat, k <= b.hl.length /\ iv = .int .i64 (k : Int) /\ Below U3.heap.size U3 wx /\ nI b.hl y.n = k)
 case first =>
  go_wp2_with fail
  go_loopw [5] (fun iv wr => ∃ k : Nat, k <= b.hl.length /\ iv = .int .i64 (k : Int) /\ Below U3.heap.size U3 wr /\ Hid (∀ j (h : j < b.hl.length), j < k -> gG b.hl[j].n y.n = true)) (fun iv _ => b.hl.length - (intOf iv).toNat)
  case atStart => exact ⟨0, nz _, rfl, br _ _, fun j h hj => by omega⟩
  case round =>
   obtain ⟨k, hk, rfl, hB, hlo⟩ := hrel; have HB : Hid (Below U3.heap.size U3 wr) := hB; have a2 : wr.cell? ⟨w.heap.size, 2, none⟩ = some (.slice b.ha b.hl.length b.hc) := aK (aY HA3.out hB) rfl
   by_cases hlt : k < b.hl.length
   · obtain ⟨g, ha, hcap, hrow⟩ : ∃ g, b.ha = some ⟨g, 0, none⟩ /\ b.hl.length <= b.hc /\ bJ 42 3 Hx.cells w g b.hc b.hl b.hl.length := by
      rcases hO with ⟨_, e⟩ | ⟨g, cap, e, _, h2, h3⟩
      · rw [e] at hlt; simp at hlt
      · simp only [Value.slice.injEq] at e
        obtain ⟨e1, _, rfl⟩ := e; exact ⟨g, e1, h2, h3⟩
     obtain ⟨c0, _, _⟩ := eY (hrow.xs' Hx.cells_length (nlq _) hcap k hlt); rw [Nat.zero_add] at c0; have c0 := ((aD N3 hB).cell (aB c0)).trans c0; have y0 : wr.cell? ⟨w.heap.size + 1, 0, none⟩ = some (.string y.n) := aK (aY HY3.out hB) rfl; rw [ha] at a2; obtain ⟨x, hx⟩ : ∃ x, x = b.hl[k] := ⟨_, rfl⟩; rw [← hx] at c0; have HXk : Hid (x = b.hl[k]) := hx; clear hx ha hrow hO hB
     cases hq : gG x.n y.n with
     | true =>
      have HLo : Hid (∀ j (h : j < b.hl.length), j < k + 1 -> gG b.hl[j].n y.n = true) := fun j h hj => by
       by_cases e : j = k
       · subst e; rw [← HXk.out]; exact hq
       · exact hlo.out j h (by omega)
      clear hlo; unfold gG at hq; go_wp2_with fail
      go_quiet (fail)
      go_wp2
      go_roundw
      case rel => exact ⟨k + 1, by omega, by go_num, (below_drewN HB.out _), HLo⟩
      case measure => simp [intOf]; omega
     | false =>
      have HPut : Hid (nI b.hl y.n = k) := yD hk hlo.out (fun h => by have e := HXk.out; rw [← e]; exact hq); clear hlo; unfold gG at hq; go_wp2_with fail
      go_quiet (fail)
      go_wp2
      all_goals go_meet
      all_goals exact ⟨k, hk, rfl, (below_drewN HB.out _), HPut.out⟩
   · have HPut : Hid (nI b.hl y.n = k) := yD hk hlo.out (fun h => absurd h hlt)
     clear hlo hO hB; go_wp2_with fail
     go_quiet (fail)
     go_wp2
     all_goals go_meet
     all_goals exact ⟨k, hk, rfl, (below_drewN HB.out _), HPut.out⟩
 case rest =>
  obtain ⟨k, hk, rfl, hB, hpi⟩ := hcut
  have HPI : Hid (jW b.hl y = b.hl.take k ++ y :: b.hl.drop k) := by
   show jW b.hl y = _
   unfold jW; rw [hpi]
  obtain ⟨a12, h12⟩ : ∃ a12 : Option Addr, (b.ha = none /\ b.hl = [] /\ b.hc = 0 /\ a12 = none /\ k = 0) ∨ ∃ g, b.ha = some ⟨g, 0, none⟩ /\ b.hl.length <= b.hc /\ bJ 42 3 Hx.cells w g b.hc b.hl b.hl.length /\ ((k < b.hc /\ a12 = some ⟨g, k * 3, none⟩) ∨ (¬ k < b.hc /\ a12 = some ⟨g, 0, none⟩)) := by
   rcases hO with ⟨e, hl0⟩ | ⟨g, cap, e, _, hcap, hrow⟩
   · simp only [Value.slice.injEq] at e
     exact ⟨none, .inl ⟨e.1, hl0, e.2.2, rfl, by rw [hl0] at hk; simpa using hk⟩⟩
   · simp only [Value.slice.injEq] at e
     obtain ⟨e1, _, rfl⟩ := e
     by_cases hkc : k < b.hc
     · exact ⟨_, .inr ⟨g, e1, hcap, hrow, .inl ⟨hkc, rfl⟩⟩⟩
     · exact ⟨_, .inr ⟨g, e1, hcap, hrow, .inr ⟨hkc, rfl⟩⟩⟩
  have HA : Hid _ := h12
  have HN : Hid (b.ha = none -> k = 0) := fun e => by
   rcases h12 with h | ⟨g, e0, _⟩
   · exact h.2.2.2.2
   · rw [e] at e0; cases e0
  have HN2 : Hid (a12 = none -> b.hl = [] /\ b.hc = 0 /\ k = 0) := fun e => by
   rcases h12 with h | ⟨g, _, _, _, ⟨_, e3⟩ | ⟨_, e3⟩⟩
   · exact ⟨h.2.1, h.2.2.1, h.2.2.2.2⟩
   · rw [e] at e3; cases e3
   · rw [e] at e3; cases e3
  have Nd : Below w.heap.size w wc.drew := (aD N3 hB).drew; have Ar := aY HA3.out hB; have Yr := aY HY3.out hB; have Rr := aY HR3.out hB; obtain ⟨Wd, hWd⟩ : ∃ Wd, wc.drew = Wd := ⟨_, rfl⟩; have HA2 : Hid (Wd.heap[w.heap.size]? = some b.obj) := by rw [Hid, ← hWd]; exact Ar
  have Y2 : Wd.heap[w.heap.size + 1]? = some (.cells #[.string y.n, .slice y.ta y.tl.length y.tc, .slice y.na y.nl.length y.nc] 42) := by rw [← hWd]; exact Yr
  have HR2 : Hid (Wd.heap[w.heap.size + 2]? = some (.cells #[.int .i64 0, .slice none 0 0, .slice none 0 0] 29)) := by rw [Hid, ← hWd]; exact Rr
  have a2 : Wd.cell? ⟨w.heap.size, 2, none⟩ = some (.slice b.ha b.hl.length b.hc) := aK HA2.out rfl; obtain ⟨y0, y1, y2⟩ := aJ Y2; rw [hWd] at Nd; have hsd := Nd.size; have hAw : w.heap.size + 2 < Wd.heap.size := (bH HR2.out)
  have HT5 : Hid (∀ ad, b.ha = some ad -> ∀ w', Below Wd.heap.size Wd w' -> ∀ j u, (aQ Hx.cells (b.hl.take k))[j]? = some u -> w'.cell? (ad.add j) = some u) := fun ad e w' h => by
   rcases h12 with ⟨e0, _⟩ | ⟨g, e0, hcap, hrow, _⟩
   · rw [e0] at e; cases e
   · rw [e0] at e; cases e
     exact NP hrow hcap (aD Nd h)
  have HD5 : Hid (∀ ad, a12 = some ad -> ∀ w', Below Wd.heap.size Wd w' -> ∀ j u, (aQ Hx.cells (b.hl.drop k))[j]? = some u -> w'.cell? (ad.add j) = some u) := fun ad e w' h j u hj => by
   rcases h12 with ⟨_, _, _, e3, _⟩ | ⟨g, _, hcap, hrow, ⟨_, e3⟩ | ⟨hkc, e3⟩⟩
   · rw [e3] at e; cases e
   · rw [e3] at e; cases e
     exact MC hrow hcap (aD Nd h) j u hj
   · rw [List.drop_of_length_le (by omega)] at hj; simp [aQ] at hj
  clear Ar Yr Rr Y2 hB h12 hO hpi; go_wp2_with fail
  refine wpIn_wide.1 (rN (F := Fence.wide) (n := 0) (by kernel_rfl) [some 24, some 25, some 26, some 27, some 28, some 29, some 30, some 31, some 32, some 33, some 34, some 35, some 36, some 37, some 38] (K6 Wd w.heap.size k b.hl y (.slice b.ha b.hl.length b.hc) (.slice b.ha k b.hc) (.slice a12 (b.hl.length - k) (b.hc - k))) (by kernel_rfl) ?h0 K6.ext ?step ?fin)
  case h0 =>
   exact ⟨fun h => h.elim, fun h => h.elim, fun h => h.elim, fun h => h.elim, fun h => h.elim, fun h => h.elim, fun h => h.elim, fun h => h.elim, fun h => h.elim, fun h => h.elim, fun h => h.elim, fun h => h.elim, fun h => h.elim, fun h => h.elim, fun h => h.elim, fun h => h.elim, fun _ => by rw [hWd]; exact br _ _⟩
  case step =>
   intro L ii o vs w' ho hnl hde hcl hK; have hi : ii < 16 := (lgs.1 ho).1; have HK : Hid (K6 Wd w.heap.size k b.hl y (.slice b.ha b.hl.length b.hc) (.slice b.ha k b.hc) (.slice a12 (b.hl.length - k) (b.hc - k)) L vs w') := hK; clear hK
   match ii, hi with
   | 0, _ =>
    simp at ho; subst ho; have h15 : ¬ L 15 := fun h => hnl (hcl 15 _ h rfl (eP 0) (by simp) rfl); have hbw := HK.out.bw h15; have hb1 : Below w'.heap.size w' (w'.alloc (.cells #[] 42)) := aA (br _ _) _; have HQ : Hid _ := (HK.out.zL h15 hb1).add0 ⟨w'.heap.size, rfl, hbw.size, wnq w' _⟩; clear hb1; simp only [aE, Act.put]; gi_wp2; exact ⟨_, by simp [aH], HQ.out⟩
   | 1, _ =>
    simp at ho; subst ho; have h15 : ¬ L 15 := fun h => hnl (hcl 15 _ h rfl (eP 1) (by simp) rfl); have hbw := HK.out.bw h15; simp only [aE, Act.put]; gi_wp2; exact ⟨.pointer (some ⟨w.heap.size, 2, none⟩), by simp [aH], HK.out.add1 rfl⟩
   | 2, _ =>
    simp at ho; subst ho; have h15 : ¬ L 15 := fun h => hnl (hcl 15 _ h rfl (eP 2) (by simp) rfl); have hbw := HK.out.bw h15; have d1 := HK.out.v1 (Zq hde 1); have k2 := (hbw.cell (aB a2)).trans a2; simp only [aE, Act.put]; rw [d1]; gi_wp2; exact ⟨.slice b.ha b.hl.length b.hc, by simp [aH, d1], HK.out.add2 rfl⟩
   | 3, _ =>
    simp at ho; subst ho; have h15 : ¬ L 15 := fun h => hnl (hcl 15 _ h rfl (eP 3) (by simp) rfl); have hbw := HK.out.bw h15; simp only [aE, Act.put]; gi_wp2; exact ⟨.int .i64 ((k : Nat) : Int), by simp [aH], HK.out.add3 rfl⟩
   | 4, _ =>
    simp at ho; subst ho; have h15 : ¬ L 15 := fun h => hnl (hcl 15 _ h rfl (eP 4) (by simp) rfl); have hbw := HK.out.bw h15; have d2 := HK.out.v2 (Zq hde 2); have d3 := HK.out.v3 (Zq hde 3); have HQ : Hid _ := HK.out.add4 (v := .slice b.ha k b.hc) rfl
    rcases HA.out with ⟨e0, e1, e2, -, rfl⟩ | ⟨g, e0, e1, -, -⟩
    · have d2 : vs 2 = .slice none 0 0 := by rw [d2, e0, e1, e2]; rfl
      have E0 : Hid (b.ha = none /\ b.hc = 0) := ⟨e0, e2⟩; clear e0 e1 e2; simp only [aE, Act.put]; rw [d2, d3]; gi_wp2; exact ⟨.slice b.ha 0 b.hc, by simp [aH, d2, d3, E0.out], HQ.out⟩
    · have d2 : vs 2 = .slice (some ⟨g, 0, none⟩) b.hl.length b.hc := by rw [d2, e0]
      have E0 : Hid _ := e0; clear e0; simp only [aE, Act.put]; rw [d2, d3]; gi_wp2; exact ⟨.slice b.ha k b.hc, by simp [aH, d2, d3, E0.out], HQ.out⟩
   | 5, _ =>
    simp at ho; subst ho; have h15 : ¬ L 15 := fun h => hnl (hcl 15 _ h rfl (eP 5) (by simp) rfl); have hbw := HK.out.bw h15; have d4 := HK.out.v4 (Zq hde 4); obtain ⟨p, d0, hp1, hp2⟩ := HK.out.v0 (Zq hde 0); have hp := hp2 hnl; simp only [aE, Act.put, List.setIfInBounds_toArray, List.set_cons_succ, List.set_cons_zero]; rw [d0, d4]; refine lG w' rfl (.tmp 24) (.tmp 28) 27 rfl 42 j0 _ 3 64 Tryz.underlying27 hih hy0 hy1 hy2 rfl (by decide) p rfl hp b.ha k b.hc (aQ Hx.cells (b.hl.take k)) rfl HN.out (by rw [cX Hx.cells_length, List.length_take]; congr 1; omega) (fun ad e j u hj => HT5.out ad e w' hbw j u hj) (jM jD _) (by unfold maxLen; omega) (by omega) Wd.heap.size hp1 (fun v' w2 hown hb2 => ?_); have HQ : Hid _ := (HK.out.zL h15 hb2).add5 hown; clear hown hb2 hp hp2; gi_wp2; exact ⟨_, by simp [aH, d0, d4], HQ.out⟩
   | 6, _ =>
    simp at ho; subst ho; have h15 : ¬ L 15 := fun h => hnl (hcl 15 _ h rfl (eP 6) (by simp) rfl); have hbw := HK.out.bw h15; have k0 := (hbw.cell (aB y0)).trans y0; have k1 := (hbw.cell (aB y1)).trans y1; have k2 := (hbw.cell (aB y2)).trans y2; simp only [aE, Act.put]; gi_wp2; exact ⟨y.val, by simp [aH], HK.out.add6 rfl⟩
   | 7, _ =>
    simp at ho; subst ho; have h15 : ¬ L 15 := fun h => hnl (hcl 15 _ h rfl (eP 7) (by simp) rfl); have hbw := HK.out.bw h15; have d6 := HK.out.v6 (Zq hde 6); have hb1 : Below w'.heap.size w' (w'.alloc (.cells #[.string y.n, .slice y.ta y.tl.length y.tc, .slice y.na y.nl.length y.nc] 42)) := aA (br _ _) _; have HQ : Hid _ := (HK.out.zL h15 hb1).add7 ⟨w'.heap.size, rfl, wnq w' _⟩; clear hb1; simp only [aE, Act.put]; rw [d6]; gi_wp2; exact ⟨_, by simp [aH, d6], HQ.out⟩
   | 8, _ =>
    simp at ho; subst ho; have h15 : ¬ L 15 := fun h => hnl (hcl 15 _ h rfl (eP 8) (by simp) rfl); have hbw := HK.out.bw h15; have h5 : L 5 := Zq hde 5; have h13 : ¬ L 13 := fun h => hnl (hcl 13 _ h rfl (eD 8) (by simp) rfl); have ho5 := HK.out.v5 h5 hnl; obtain ⟨V, d7, hV2⟩ := HK.out.v7 (Zq hde 7); have hV := hV2 hnl; obtain ⟨u5, e5⟩ : ∃ u, vs 5 = u := ⟨_, rfl⟩; rw [e5] at ho5; simp only [aE, Act.put, List.setIfInBounds_toArray, List.set_cons_succ, List.set_cons_zero]; rw [d7, e5]
    refine wpListIn_append_own w' rfl (.tmp 29) (.tmp 31) 27 rfl Wd.heap.size 42 j0 _ 3 64 Tryz.underlying27 hih hy0 hy1 hy2 rfl (by decide) u5 k (aQ Hx.cells (b.hl.take k)) rfl ho5 ⟨V, 0, none⟩ 1 1 y.cells rfl (by simp [Hx.cells]) (fun j u hj => by
     rw [Addr.add_lit, Nat.zero_add]
     match j, hj with
     | 0, hj => simp [Hx.cells] at hj; subst hj; exact aK hV rfl
     | 1, hj => simp [Hx.cells] at hj; subst hj; exact aK hV rfl
     | 2, hj => simp [Hx.cells] at hj; subst hj; exact aK hV rfl) (jD y) (by unfold maxLen; omega) (by omega) hbw.size (fun v' w2 hown hgr _ => ?_)
    have hb2 : Below Wd.heap.size Wd w2 := hbw.grown hgr hbw.size (fun q hq => i5 ho5 hq); have HQ : Hid _ := HK.out.add8 h5 h13 h15 hown hb2; clear hown hgr ho5 hV hV2; gi_wp2; exact ⟨_, by simp [aH, d7, e5], HQ.out⟩
   | 9, _ =>
    simp at ho; subst ho; have h15 : ¬ L 15 := fun h => hnl (hcl 15 _ h rfl (eP 9) (by simp) rfl); have hbw := HK.out.bw h15; simp only [aE, Act.put]; gi_wp2; exact ⟨.pointer (some ⟨w.heap.size, 2, none⟩), by simp [aH], HK.out.add9 rfl⟩
   | 10, _ =>
    simp at ho; subst ho; have h15 : ¬ L 15 := fun h => hnl (hcl 15 _ h rfl (eP 10) (by simp) rfl); have hbw := HK.out.bw h15; have d9 := HK.out.v9 (Zq hde 9); have k2 := (hbw.cell (aB a2)).trans a2; simp only [aE, Act.put]; rw [d9]; gi_wp2; exact ⟨.slice b.ha b.hl.length b.hc, by simp [aH, d9], HK.out.add10 rfl⟩
   | 11, _ =>
    simp at ho; subst ho; have h15 : ¬ L 15 := fun h => hnl (hcl 15 _ h rfl (eP 11) (by simp) rfl); have hbw := HK.out.bw h15; simp only [aE, Act.put]; gi_wp2; exact ⟨.int .i64 ((k : Nat) : Int), by simp [aH], HK.out.add11 rfl⟩
   | 12, _ =>
    simp at ho; subst ho; have h15 : ¬ L 15 := fun h => hnl (hcl 15 _ h rfl (eP 12) (by simp) rfl); have hbw := HK.out.bw h15; have d10 := HK.out.v10 (Zq hde 10); have d11 := HK.out.v11 (Zq hde 11); have HQ : Hid _ := HK.out.add12 (v := .slice a12 (b.hl.length - k) (b.hc - k)) rfl
    rcases HA.out with ⟨e0, e1, e2, e3, rfl⟩ | ⟨g, e0, e1, -, h3⟩
    · have d10 : vs 10 = .slice none 0 0 := by rw [d10, e0, e1, e2]; rfl
      have E0 : Hid (b.hl = [] /\ b.hc = 0 /\ a12 = none) := ⟨e1, e2, e3⟩; clear e0 e1 e2 e3; simp only [aE, Act.put]; rw [d10, d11]; gi_wp2; exact ⟨.slice a12 (b.hl.length - 0) (b.hc - 0), by simp [aH, d10, d11, E0.out], HQ.out⟩
    · have d10 : vs 10 = .slice (some ⟨g, 0, none⟩) b.hl.length b.hc := by rw [d10, e0]
      clear e0
      rcases h3 with ⟨hkc, e3⟩ | ⟨hkc, e3⟩
      · have E3 : Hid _ := e3
        clear e3; simp only [aE, Act.put]; rw [d10, d11]; gi_wp2; exact ⟨.slice a12 (b.hl.length - k) (b.hc - k), by simp [aH, d10, d11, E3.out], HQ.out⟩
      · have hkc2 : b.hc - k = 0 := by omega
        have E3 : Hid _ := e3; clear e3; simp only [aE, Act.put]; rw [d10, d11]; gi_wp2; exact ⟨.slice a12 (b.hl.length - k) (b.hc - k), by simp [aH, d10, d11, E3.out, hkc2]; omega, by have h := HQ.out; have e : b.hc = k := (by omega); simp only [e, Nat.sub_self] at h ⊢; exact h⟩
   | 13, _ =>
    simp at ho; subst ho; have h15 : ¬ L 15 := fun h => hnl (hcl 15 _ h rfl (eP 13) (by simp) rfl); have hbw := HK.out.bw h15; have d12 := HK.out.v12 (Zq hde 12); have h8 : L 8 := Zq hde 8; have h5 : L 5 := hcl 8 _ h8 rfl (eD 5) (by simp) rfl; have ho8 := HK.out.v8 h8 hnl; obtain ⟨u8, e8⟩ : ∃ u, vs 8 = u := ⟨_, rfl⟩
    cases a12 with
    | none =>
     obtain ⟨hl0, hc0, hk0⟩ := HN2.out rfl
     obtain ⟨g8, cap8, e9, hc8⟩ : ∃ g8 cap8, vs 8 = .slice (some ⟨g8, 0, none⟩) 1 cap8 /\ 1 <= cap8 := by
      rw [hk0] at ho8; obtain ⟨_, ⟨_, e⟩ | ⟨g8, cap8, _, e, _, _, hnc, _⟩⟩ := ho8
      · omega
      · exact ⟨g8, cap8, e, hnc⟩
     have HQ : Hid _ := HK.out.add13 (v := vs 8) h5 h8 h15 (by rw [hl0, hk0] at ho8 ⊢; simpa [aQ] using ho8) hbw; have d12 : vs 12 = .slice none 0 0 := by rw [d12, hl0, hc0, hk0]; rfl
     clear ho8 hl0 hc0 hk0; simp only [aE, Act.put]; rw [d12, e9]; gi_wp2; exact ⟨vs 8, by simp [aH, d12, e9], HQ.out⟩
    | some ad =>
     rw [e8] at ho8; simp only [aE, Act.put, List.setIfInBounds_toArray, List.set_cons_succ, List.set_cons_zero]; rw [d12, e8]; refine wpListIn_append_own w' rfl (.tmp 32) (.tmp 36) 27 rfl Wd.heap.size 42 j0 _ 3 64 Tryz.underlying27 hih hy0 hy1 hy2 rfl (by decide) u8 (k + 1) (aQ Hx.cells (b.hl.take k) ++ y.cells) rfl ho8 ad (b.hl.length - k) (b.hc - k) (aQ Hx.cells (b.hl.drop k)) rfl (by rw [cX Hx.cells_length, List.length_drop]) (fun j u hj => HD5.out ad rfl w' hbw j u hj) (jM jD _) (by unfold maxLen; omega) (by omega) hbw.size (fun v' w2 hown hgr _ => ?_); have hb2 : Below Wd.heap.size Wd w2 := hbw.grown hgr hbw.size (fun q hq => i5 ho8 hq); have hown2 : w2.ownsRow Wd.heap.size 42 3 v' (b.hl.length + 1) (aQ Hx.cells (b.hl.take k) ++ y.cells ++ aQ Hx.cells (b.hl.drop k)) := by rw [show b.hl.length + 1 = k + 1 + (b.hl.length - k) by omega]; exact hown
     have HQ : Hid _ := HK.out.add13 h5 h8 h15 hown2 hb2; clear hown hown2 hgr ho8; gi_wp2; exact ⟨_, by simp [aH, d12, e8], HQ.out⟩
   | 14, _ =>
    simp at ho; subst ho; have h15 : ¬ L 15 := fun h => hnl (hcl 15 _ h rfl (eD 14) (by simp) rfl); have hbw := HK.out.bw h15; simp only [aE, Act.put]; gi_wp2; exact ⟨.pointer (some ⟨w.heap.size, 2, none⟩), by simp [aH], HK.out.add14 rfl⟩
   | 15, _ =>
    simp at ho; subst ho; have d14 := HK.out.v14 (Zq hde 14); have hbw := HK.out.bw hnl; have h13 : L 13 := Zq hde 13; have h8 : L 8 := hcl 13 _ h13 rfl (eD 8) (by simp) rfl; have h5 : L 5 := hcl 8 _ h8 rfl (eD 5) (by simp) rfl; have ho13 := HK.out.v13 h13 hnl
    obtain ⟨a8, c8, e13⟩ : ∃ a c, vs 13 = .slice a (b.hl.length + 1) c := by
     obtain ⟨_, ⟨_, e⟩ | ⟨g8, cap8, _, e, _⟩⟩ := ho13
     · omega
     · exact ⟨_, _, e⟩
    have k2 := (hbw.cell (aB a2)).trans a2; have kf : ∀ i, w'.frozen? ⟨w.heap.size, i, none⟩ = false := fun i => by simp [World.frozen?, aY HA2.out hbw]
    have HQ : Hid _ := HK.out.add15 (v := undef) h5 h8 h13 hnl; rw [e13] at HQ; simp only [aE, Act.put]; rw [d14, e13]; clear ho13; gi_wp2_with fail
    exact ⟨undef, by simp [aH, d14, e13], by have h := HQ.out; simpa using h⟩
   | q + 16, h => exact absurd h (by omega)
  case fin =>
   intro L vs w' hL6 hK; obtain ⟨w9, hb9, ho9, hw9⟩ := hK.w15 (hL6 15 (by decide))
   have hX9 : bM 42 3 Hx.cells w9 Wd.heap.size (vs 13) (b.hl.take k ++ y :: b.hl.drop k) := jZ Hx.cells_length (by
    rw [show (b.hl.take k ++ y :: b.hl.drop k).length = b.hl.length + 1 by simp; omega]; have e : aQ Hx.cells (b.hl.take k ++ y :: b.hl.drop k) = aQ Hx.cells (b.hl.take k) ++ y.cells ++ aQ Hx.cells (b.hl.drop k) := by simp [aQ]
    rw [e]; exact ho9)
   obtain ⟨a', c', e13⟩ := hX9.slice; rw [e13] at hX9 hw9; rw [hw9]; clear hw9 ho9 hL6 hK; simp only [aE, Act.put]; generalize vs 0 = u0; generalize vs 1 = u1; generalize vs 2 = u2; generalize vs 3 = u3; generalize vs 4 = u4; generalize vs 5 = u5; generalize vs 6 = u6; generalize vs 7 = u7; generalize vs 8 = u8; generalize vs 9 = u9; generalize vs 10 = u10; generalize vs 11 = u11; generalize vs 12 = u12; generalize vs 13 = u13; generalize vs 14 = u14; have hlen : (b.hl.take k ++ y :: b.hl.drop k).length = (b.hl.take k ++ y :: b.hl.drop k).length := rfl; have A9 := aX (aY HA2.out hb9) 2 (.slice a' (b.hl.take k ++ y :: b.hl.drop k).length c'); have bA : bC (fun q => q = w.heap.size) w9 (w9.setCell ⟨w.heap.size, 2, none⟩ (.slice a' (b.hl.take k ++ y :: b.hl.drop k).length c')) := (bC.refl (fun q => q = w.heap.size) w9).set (g := w.heap.size) rfl _ _; have R9 := cA (aY HR2.out hb9) bA (by show ¬ (w.heap.size + 2 = w.heap.size); omega); have N9 := bA.under (aD Nd hb9) (nlq _) (fun q hq => by have hq' : q = w.heap.size := hq; omega); have X9 := hX9.butRow bA (fun q n f hq _ e => by have e' : q = w.heap.size := e; omega); obtain ⟨Wf, hWf⟩ : ∃ Wf, w9.setCell ⟨w.heap.size, 2, none⟩ (.slice a' (b.hl.take k ++ y :: b.hl.drop k).length c') = Wf := ⟨_, rfl⟩; rw [hWf] at A9 R9 N9 X9 ⊢; obtain ⟨e0, e1, e2⟩ := aJ A9; obtain ⟨r0, r1, r2⟩ := aJ R9; have rf : ∀ i, Wf.frozen? ⟨w.heap.size + 2, i, none⟩ = false := fun i => by simp [World.frozen?, R9]
   have hsf := hb9.size; have HX : Hid (bM 42 3 Hx.cells Wf Wd.heap.size (.slice a' (b.hl.take k ++ y :: b.hl.drop k).length c') (b.hl.take k ++ y :: b.hl.drop k)) := X9; obtain ⟨lq, hlq⟩ : ∃ lq, (b.hl.take k ++ y :: b.hl.drop k).length = lq := ⟨_, rfl⟩; have HLq : Hid ((b.hl.take k ++ y :: b.hl.drop k).length = lq) := hlq; rw [hlq] at e2; clear A9 R9 bA hX9 X9 hb9 hWf hlen hlq; go_wp2_with fail
   have hS : bC (fun q => q = w.heap.size + 2) Wf (((Wf.setCell ⟨w.heap.size + 2, 0, none⟩ (.int .i64 b.now)).setCell ⟨w.heap.size + 2, 1, none⟩ (.slice b.fa b.fl.length b.fc)).setCell ⟨w.heap.size + 2, 2, none⟩ (.slice a' lq c')) := (((bC.refl (fun q => q = w.heap.size + 2) Wf).set (g := w.heap.size + 2) rfl _ _).set (g := w.heap.size + 2) rfl _ _).set (g := w.heap.size + 2) rfl _ _; exact bpr (v := Bk.val ⟨b.now, b.fa, b.fl, b.fc, a', b.hl.take k ++ y :: b.hl.drop k, c'⟩) (by simp only [Bk.val, HLq.out]; simp [results, Tryz.results76, go_sem, r0, r1, r2]) rfl ⟨⟨a', c', by rw [HPI.out], by rw [HPI.out]; exact (HX.out.butRow hS (fun q n f hq _ e => by have e' : q = w.heap.size + 2 := e; omega)).weak (by omega)⟩, hS.under N9 (nlq _) (fun q hq => by have hq' : q = w.heap.size + 2 := hq; omega)⟩
end Go.Proofs.YtiojdbffjdoniaaGreatDoor
namespace Go.Proofs.YtiojdbffjdoniaaGreatDoor
set_option maxRecDepth 100000
set_option maxHeartbeats 16000000
open Go.RowKit Go.Shelf
attribute [local go_sem] Oper.semAt_some
def Hx.key (h : Hx) : ByteArray × List Bx × List Bx := (h.n, h.tl, h.nl)
theorem qR {l m : List Hx} (h : l.map Hx.key = m.map Hx.key) : aI l m := by
 have hl : m.length = l.length := by have := congrArg List.length h; simpa using this.symm
 refine ⟨hl, fun k hk => ?_⟩; have h2 : (l.map Hx.key)[k]? = (m.map Hx.key)[k]? := by rw [h]
 rw [List.getElem?_map, List.getElem?_map, lge hk, lge (by omega : k < m.length)] at h2; simp only [Option.map_some, Option.some.injEq, Hx.key, Prod.mk.injEq] at h2; exact ⟨h2.1, h2.2.1, h2.2.2⟩
theorem qI (l : List Hx) (nm : ByteArray) : nI l nm = ((l.map Hx.key).takeWhile (fun k => gG k.1 nm)).length := by
 unfold nI; rw [List.takeWhile_map, List.length_map]; rfl
theorem xI {l m : List Hx} {u v : Hx} (h : aI l m) (g : u.Like v) : aI (jW l u) (jW m v) := by
 have hm : l.map Hx.key = m.map Hx.key := h.map Hx.key (fun a b e => by simp [Hx.key, e.n, e.t, e.x]); have hi : nI l u.n = nI m v.n := by rw [qI, qI, hm, g.n]
 refine qR ?_; unfold jW; rw [hi, List.map_append, List.map_append, List.map_cons, List.map_cons, List.map_take, List.map_take, List.map_drop, List.map_drop, hm]
 simp [Hx.key, g.n, g.t, g.x]
theorem OY (l : List Hx) (nm : ByteArray) : nI l nm <= l.length := (List.takeWhile_sublist _).length_le
theorem MK (l : List Hx) (u : Hx) : (jW l u).length = l.length + 1 := by
 have := OY l u.n; unfold jW
 simp
 omega
theorem L9 {l : List Hx} {u h : Hx} (m : h ∈ jW l u) : h = u ∨ h ∈ l := by
 unfold jW at m
 rcases lma.1 m with m | m
 · exact .inr (List.mem_of_mem_take m)
 · rcases List.mem_cons.1 m with m | m
   · exact .inl m
   · exact .inr (List.mem_of_mem_drop m)
def cW (b : Bk) (x : Wx) : Int := gV b (decide (0 <= jY b.hl x.n)) x
def fI (b : Bk) (x : Wx) : List Hx := jR b x.n (nI b.hl x.n) (decide (0 <= jY b.hl x.n)) x
theorem vA (x : Wx) (way lev late : Int) (w : World) (hi : x.In w) (hf : x.Fit) :
 Calls Tryz.prog 77 #[x.val, .int .i64 way, .int .i64 lev, .int .i64 late] w fun e w' => (∃ v, e = .returned v /\ aF w' w.heap.size v (aR x way lev late)) /\ Below w.heap.size w w' :=
 cw.1 (oQ 4 (by omega) x way lev late w hi hf.wn hf.ln hf.yn)
def xQ (b : Bk) (x : Wx) (z : Nat) (e : Ending) (w' : World) : Prop :=
 (aS b = false /\ e = .returned (.tuple #[Bk.val ⟨0, none, [], 0, none, [], 0⟩, fY 0 0 0, .int .i64 1])) ∨
 (aS b = true /\ ∃ b' : Bk, e = .returned (.tuple #[b'.val, fV b (decide (0 <= jY b.hl x.n)) x, .int .i64 (cW b x)]) /\ b'.now = b.now /\ b'.fl = b.fl /\ aI (fI b x) b'.hl /\ cS z w' b')
abbrev PE (n0 : Nat) (XX : World) (y : Bk) : World := ((XX.setCell ⟨n0 + 2, 0, none⟩ (.int .i64 y.now)).setCell ⟨n0 + 2, 1, none⟩ (.slice y.fa y.fl.length y.fc)).setCell ⟨n0 + 2, 2, none⟩ (.slice y.ha y.hl.length y.hc)
theorem JD (n0 : Nat) (XX : World) (y : Bk) : bC (fun q => q = n0 + 2) XX (PE n0 XX y) :=
 (((bC.refl (fun q => q = n0 + 2) XX).set (g := n0 + 2) rfl _ _).set (g := n0 + 2) rfl _ _).set (g := n0 + 2) rfl _ _
def PY (j : Nat) : List Nat := [j]
def LU (j : Nat) : Bool := j == 14
def QN (d iw kw : Int) (_ : Nat) (v : Value) : Prop := v = fY d iw kw
abbrev L6 (n0 : Nat) (XX : World) (y : Bk) (d i k : Int) : World := (((((XX.setCell ⟨n0 + 2, 0, none⟩ (.int .i64 y.now)).setCell ⟨n0 + 2, 1, none⟩ (.slice y.fa y.fl.length y.fc)).setCell ⟨n0 + 2, 2, none⟩ (.slice y.ha y.hl.length y.hc)).setCell ⟨n0 + 3, 0, none⟩ (.int .i64 d)).setCell ⟨n0 + 3, 1, none⟩ (.int .i64 i)).setCell ⟨n0 + 3, 2, none⟩ (.int .i64 k)
theorem sA (n0 : Nat) (XX : World) (y : Bk) (d i k : Int) : bC (fun q => q = n0 + 2 ∨ q = n0 + 3) XX (L6 n0 XX y d i k) :=
 ((((((bC.refl _ XX).set (g := n0 + 2) (.inl rfl) _ _).set (g := n0 + 2) (.inl rfl) _ _).set (g := n0 + 2) (.inl rfl) _ _).set (g := n0 + 3) (.inr rfl) _ _).set (g := n0 + 3) (.inr rfl) _ _).set (g := n0 + 3) (.inr rfl) _ _
def GZ (n0 C : Nat) (y : Bk) (x : Wx) (d iw kw : Int) (Z : Nat) (j : Nat) (vs : Nat -> Value) (w : World) : Prop :=
 match j with
 | 0 => vs 0 = y.val
 | 1 => vs 1 = .pointer (some ⟨n0 + 1, 0, none⟩)
 | 2 => vs 2 = .string x.n
 | 3 => vs 3 = x.val
 | 4 => vs 4 = .pointer (some ⟨C, 1, none⟩)
 | 5 => vs 5 = .int .i64 iw
 | 6 => vs 6 = .pointer (some ⟨C, 2, none⟩)
 | 7 => vs 7 = .int .i64 kw
 | 8 => vs 8 = .pointer (some ⟨C, 0, none⟩)
 | 9 => vs 9 = .int .i64 d
 | 10 => aF w Z (vs 10) (aR x iw kw d)
 | 11 => ∃ ta tc, vs 11 = Hx.val ⟨x.n, ta, (aR x iw kw d), tc, none, [], 0⟩ /\ aF w Z (.slice ta (aR x iw kw d).length tc) (aR x iw kw d)
 | 12 => ∃ ta tc a c, vs 12 = Bk.val ⟨y.now, y.fa, y.fl, y.fc, a, jW y.hl ⟨x.n, ta, (aR x iw kw d), tc, none, [], 0⟩, c⟩ /\ bM 42 3 Hx.cells w Z (.slice a (jW y.hl ⟨x.n, ta, (aR x iw kw d), tc, none, [], 0⟩).length c) (jW y.hl ⟨x.n, ta, (aR x iw kw d), tc, none, [], 0⟩) /\ aF w Z (.slice ta (aR x iw kw d).length tc) (aR x iw kw d)
 | 13 => ∃ b2 : Bk, vs 13 = b2.val /\ b2.now = y.now /\ b2.fl = y.fl /\ aI (jW y.hl ⟨x.n, none, (aR x iw kw d), 0, none, [], 0⟩) b2.hl /\ cS Z w b2
 | 14 => vs 14 = fY d iw kw
 | _ => True
theorem GZ.zL {n0 C : Nat} {y : Bk} {x : Wx} {d iw kw : Int} {Z : Nat} (j : Nat) (vs : Nat -> Value) (w w' : World) (h : GZ n0 C y x d iw kw Z j vs w) (hb : Below w.heap.size w w') : GZ n0 C y x d iw kw Z j vs w' := by
 unfold GZ at h ⊢
 split
 all_goals first
  | exact h
  | exact aF.zL h hb
  | exact (by obtain ⟨ta, tc, e, o⟩ := h; exact ⟨ta, tc, e, aF.zL o hb⟩)
  | exact (by obtain ⟨ta, tc, a, c, e, o, p⟩ := h; exact ⟨ta, tc, a, c, e, bM.zL o hb, aF.zL p hb⟩)
  | exact (by obtain ⟨b2, e, e1, e2, l, s⟩ := h; exact ⟨b2, e, e1, e2, l, s.zL hb⟩)
  | trivial
theorem GZ.loc {n0 C : Nat} {y : Bk} {x : Wx} {d iw kw : Int} {Z : Nat} (j : Nat) (vs vs' : Nat -> Value) (w : World) (he : ∀ q ∈ PY j, vs q = vs' q) (h : GZ n0 C y x d iw kw Z j vs w) : GZ n0 C y x d iw kw Z j vs' w := by
 unfold GZ at h ⊢
 split
 all_goals first
  | (rw [← he _ (by simp [PY])]; exact h)
  | trivial
theorem GZ.free {n0 C : Nat} {y : Bk} {x : Wx} {d iw kw : Int} {Z : Nat} (j : Nat) (vs : Nat -> Value) (w : World) (hf : LU j = true) (h : GZ n0 C y x d iw kw Z j vs w) : QN d iw kw j (vs j) := by
 simp [LU] at hf
 subst hf; exact h
def RW (n0 : Nat) (w7 : World) (y : Bk) (x : Wx) (d iw kw : Int) (t : Nat) (vs : Nat -> Value) (w' : World) : Prop :=
 ∃ (w0 : World) (b2 : Bk), Below w7.heap.size w7 w0 /\ vs 13 = b2.val /\ b2.now = y.now /\ b2.fl = y.fl /\ aI (jW y.hl ⟨x.n, none, aR x iw kw d, 0, none, [], 0⟩) b2.hl /\ cS w7.heap.size w0 b2 /\ w' = if t = 16 then PE n0 w0 b2 else w0
theorem xY (b : Bk) (x : Wx) (w : World) (hok : mJ b w) (hq : fM w b) (hx : gU w x) :
 Calls Tryz.prog 29 #[b.val, x.val] w fun e w' => xQ b x w.heap.size e w' /\ Below w.heap.size w w' := by
 have N1 : Below w.heap.size w (w.alloc b.obj) := aA (br _ _) _; have A1 := wnq w b.obj; obtain ⟨U1, hU1⟩ : ∃ U, w.alloc b.obj = U := ⟨_, rfl⟩; have z1 : U1.heap.size = w.heap.size + 1 := by rw [← hU1]; simp
 rw [hU1] at N1 A1; have M2 : Below U1.heap.size U1 (U1.alloc x.obj) := aA (br _ _) _; have X2 := wnq U1 x.obj; obtain ⟨U2, hU2⟩ : ∃ U, U1.alloc x.obj = U := ⟨_, rfl⟩; have z2 : U2.heap.size = w.heap.size + 2 := by rw [← hU2]; simp [z1]
 rw [hU2] at M2 X2; have M3 : Below U2.heap.size U2 (U2.alloc (.cells #[.int .i64 0, .slice none 0 0, .slice none 0 0] 29)) := aA (br _ _) _; have R3 := wnq U2 (.cells #[.int .i64 0, .slice none 0 0, .slice none 0 0] 29); obtain ⟨U3, hU3⟩ : ∃ U, U2.alloc (.cells #[.int .i64 0, .slice none 0 0, .slice none 0 0] 29) = U := ⟨_, rfl⟩; have z3 : U3.heap.size = w.heap.size + 3 := by rw [← hU3]; simp [z2]
 rw [hU3] at M3 R3; have M4 : Below U3.heap.size U3 (U3.alloc (gQ 0 0 0)) := aA (br _ _) _; have Q4 := wnq U3 (gQ 0 0 0); obtain ⟨U4, hU4⟩ : ∃ U, U3.alloc (gQ 0 0 0) = U := ⟨_, rfl⟩; have z4 : U4.heap.size = w.heap.size + 4 := by rw [← hU4]; simp [z3]
 rw [hU4] at M4 Q4; have N4 : Below w.heap.size w U4 := aD (aD (aD N1 M2) M3) M4; have A4 := aY (aY (aY A1 M2) M3) M4; have X4 := aY (aY X2 M3) M4; have R4 := aY R3 M4; rw [z1] at X4; rw [z2] at R4; rw [z3] at Q4; obtain ⟨k0, k1, k2⟩ := aJ A4; obtain ⟨p0, p1, p2, p3, p4, p5, p6, p7⟩ := fQ X4; have HA4 : Hid _ := A4; have HX4 : Hid _ := X4; have HR4 : Hid _ := R4; have HQ4 : Hid _ := Q4; clear N1 M2 M3 M4 A1 X2 R3 Q4 A4 X4 R4
 go_enter Tryz.func29, Tryz.ntmps29
 go_wp2_with fail
 clear hU1 hU2 hU3 hU4; refine (hok U4 N4).mono ?_; rintro e w1 ⟨rfl, hb1⟩; have N1 := aD N4 hb1; have HA1 : Hid _ := aY HA4.out hb1; have HX1 : Hid _ := aY HX4.out hb1; have HR1 : Hid _ := aY HR4.out hb1; have HQ1 : Hid _ := aY HQ4.out hb1; have hs1 := hb1.size; clear hb1 N4 hok HA4 HX4 HR4 HQ4 k0 k1 k2 p0 p1 p2 p3 p4 p5 p6 p7
 cases hbk : aS b with
 | false =>
  have HBK : Hid (aS b = false) := hbk; obtain ⟨r0, r1, r2⟩ := aJ HR1.out; have rf : ∀ i, w1.frozen? ⟨w.heap.size + 2, i, none⟩ = false := fun i => by simp [World.frozen?, HR1.out]
  obtain ⟨s0, s1, s2⟩ := aJ HQ1.out; have sf : ∀ i, w1.frozen? ⟨w.heap.size + 3, i, none⟩ = false := fun i => by simp [World.frozen?, HQ1.out]
  clear hbk; have HN : Hid (Below w.heap.size w w1) := N1; go_wp2_with fail
  exact bpr (v := .tuple #[Bk.val ⟨0, none, [], 0, none, [], 0⟩, fY 0 0 0, .int .i64 1]) (by simp [results, Tryz.results29, go_sem, r0, r1, r2, s0, s1, s2]) rfl ⟨.inl ⟨HBK.out, rfl⟩, (sA w.heap.size w1 ⟨0, none, [], 0, none, [], 0⟩ 0 0 0).under HN.out (nlq _) (fun k hk => by rcases hk with hk | hk <;> omega)⟩
 | true =>
  have HBK : Hid (aS b = true) := hbk; clear hbk; obtain ⟨k0, k1, k2⟩ := aJ HA1.out; go_wp2_with fail
  refine (iE b w1 (hq.hf.zL N1) hq.hnf (hq.hh.zL N1) hq.hnh (fun h m => ⟨(hq.hgood h m).1.zL N1, (hq.hgood h m).2⟩)).mono ?_; rintro e w2 ⟨⟨y, rfl, e1, e2, hlk, hA⟩, hb2⟩; have hbx : Below w2.heap.size w2 (w2.alloc y.obj) := aA (br _ _) _; have Y3 := wnq w2 y.obj; have N3 := aD (aD N1 hb2) hbx; have HA3 : Hid _ := aY (aY HA1.out hb2) hbx; have HX3 : Hid _ := aY (aY HX1.out hb2) hbx; have HR3 : Hid _ := aY (aY HR1.out hb2) hbx; have HQ3 : Hid _ := aY (aY HQ1.out hb2) hbx; have HS3 : Hid _ := hA.zL hbx; have hs2 := hb2.size; obtain ⟨w3, hw3⟩ : ∃ w3, w2.alloc y.obj = w3 := ⟨_, rfl⟩; rw [hw3] at Y3 N3 HA3 HX3 HR3 HQ3 HS3; have HY3 : Hid _ := Y3; have HE1 : Hid (y.now = b.now) := e1; have HE2 : Hid (y.fl = b.fl) := e2; have HLK : Hid (aI b.hl y.hl) := hlk; have hs3 : w2.heap.size < w3.heap.size := (bH Y3)
  have HEnd : Hid (∀ (XX : World) (y : Bk) (d i k c : Int), y.now = b.now -> y.fl = b.fl -> Below w.heap.size w XX -> cS w1.heap.size XX y -> aI (fI b x) y.hl -> fV b (decide (0 <= jY b.hl x.n)) x = fY d i k -> cW b x = c -> xQ b x w.heap.size (.returned (.tuple #[y.val, fY d i k, .int .i64 c])) (L6 w.heap.size XX y d i k) /\ Below w.heap.size w (L6 w.heap.size XX y d i k)) := fun XX y d i k c h1 h2 hN hS hl hv hc => by
   refine ⟨.inr ⟨HBK.out, y, by rw [hv, hc], h1, h2, hl, (hS.but (sA w.heap.size XX y d i k) (fun k hk => by rcases hk with hk | hk <;> omega)).weak (by omega)⟩, (sA w.heap.size XX y d i k).under hN (nlq _) (fun k hk => by rcases hk with hk | hk <;> omega)⟩
  clear k0 k1 k2 Y3 hA hbx hb2 N1 HA1 HX1 HR1 HQ1 e1 e2 hlk; have hM0 : Below w3.heap.size w3 w3 := br _ _; have A5 := aY HA3.out hM0; have X5 := aY HX3.out hM0; have R5 := aY HR3.out hM0; have Q5 := aY HQ3.out hM0; have Y5 := aY HY3.out hM0; obtain ⟨k0, k1, k2⟩ := aJ A5; obtain ⟨p0, p1, p2, p3, p4, p5, p6, p7⟩ := fQ X5; obtain ⟨c0, c1, c2⟩ := aJ Y5; obtain ⟨r0, r1, r2⟩ := aJ R5; have rf : ∀ i, w3.frozen? ⟨w.heap.size + 2, i, none⟩ = false := fun i => by simp [World.frozen?, R5]
  obtain ⟨s0, s1, s2⟩ := aJ Q5; have sf : ∀ i, w3.frozen? ⟨w.heap.size + 3, i, none⟩ = false := fun i => by simp [World.frozen?, Q5]
  clear A5 X5 R5 Q5 Y5; go_wp2_with fail
  clear hw3 k0 k1 k2 p0 p1 p2 p3 p4 p5 p6 p7 c0 c1 c2 r0 r1 r2 rf s0 s1 s2 sf; refine (pU b.fl x b.fa b.fc w3 (hq.hf.zL N3) hq.hnf hq.hs (hx.hi.zL N3) hx.hf).mono ?_; rintro e w4 ⟨rfl, hb4⟩; have N4 := aD N3 hb4; have HM4 : Hid (Below w3.heap.size w3 w4) := hb4; obtain ⟨v1, hv1⟩ : ∃ v, dE b.fl x = v := ⟨_, rfl⟩; rw [hv1]; have HV1 : Hid (dE b.fl x = v1) := hv1; clear hv1 hb4 hM0; have A5 := aY HA3.out HM4.out; have X5 := aY HX3.out HM4.out; have R5 := aY HR3.out HM4.out; have Q5 := aY HQ3.out HM4.out; have Y5 := aY HY3.out HM4.out; obtain ⟨k0, k1, k2⟩ := aJ A5; obtain ⟨p0, p1, p2, p3, p4, p5, p6, p7⟩ := fQ X5; obtain ⟨c0, c1, c2⟩ := aJ Y5; obtain ⟨r0, r1, r2⟩ := aJ R5; have rf : ∀ i, w4.frozen? ⟨w.heap.size + 2, i, none⟩ = false := fun i => by simp [World.frozen?, R5]
  obtain ⟨s0, s1, s2⟩ := aJ Q5; have sf : ∀ i, w4.frozen? ⟨w.heap.size + 3, i, none⟩ = false := fun i => by simp [World.frozen?, Q5]
  clear A5 X5 R5 Q5 Y5
  cases v1 with
  | false =>
   have HC : Hid (cW b x = 2 /\ fI b x = b.hl /\ fV b (decide (0 <= jY b.hl x.n)) x = fY 0 0 0) := by
    have h6 : cW b x = 2 := by unfold cW gV; rw [HV1.out]; rfl
    exact ⟨h6, by unfold fI jR; unfold cW at h6; rw [h6]; rfl, by unfold fV; unfold cW at h6; rw [h6]; rfl⟩
   have HN : Hid (Below w.heap.size w w4) := N4; go_wp2_with fail
   exact bpr (v := .tuple #[y.val, fY 0 0 0, .int .i64 2]) (by simp [results, Tryz.results29, go_sem, r0, r1, r2, s0, s1, s2]) rfl (HEnd.out w4 y 0 0 0 2 HE1.out HE2.out HN.out (HS3.out.zL HM4.out) (by rw [HC.out.2.1]; exact HLK.out) HC.out.2.2 HC.out.1)
  | true =>
  go_wp2_with fail
  refine (t8 b x.n w4 (hq.hh.zL N4) hq.hnh).mono ?_; rintro e w5 ⟨rfl, hb5⟩; have N5 := aD N4 hb5; have HM5 : Hid (Below w3.heap.size w3 w5) := aD HM4.out hb5; clear hb5 k0 k1 k2 p0 p1 p2 p3 p4 p5 p6 p7 c0 c1 c2 r0 r1 r2 rf s0 s1 s2 sf; have A5 := aY HA3.out HM5.out; have X5 := aY HX3.out HM5.out; have R5 := aY HR3.out HM5.out; have Q5 := aY HQ3.out HM5.out; have Y5 := aY HY3.out HM5.out; obtain ⟨k0, k1, k2⟩ := aJ A5; obtain ⟨p0, p1, p2, p3, p4, p5, p6, p7⟩ := fQ X5; obtain ⟨c0, c1, c2⟩ := aJ Y5; obtain ⟨r0, r1, r2⟩ := aJ R5; have rf : ∀ i, w5.frozen? ⟨w.heap.size + 2, i, none⟩ = false := fun i => by simp [World.frozen?, R5]
  obtain ⟨s0, s1, s2⟩ := aJ Q5; have sf : ∀ i, w5.frozen? ⟨w.heap.size + 3, i, none⟩ = false := fun i => by simp [World.frozen?, Q5]
  clear A5 X5 R5 Q5 Y5; obtain ⟨at0, hat⟩ : ∃ at0, jY b.hl x.n = at0 := ⟨_, rfl⟩; have HAT : Hid (jY b.hl x.n = at0) := hat; rw [hat]; clear hat
  rcases n9 b.hl x.n with h | ⟨j, hj, h⟩
  case inr =>
   obtain rfl : at0 = (j : Int) := HAT.out.symm.trans h
   have HC : Hid (cW b x = 3 /\ fI b x = b.hl /\ fV b (decide (0 <= jY b.hl x.n)) x = fY 0 0 0) := by
    have h6 : cW b x = 3 := by unfold cW gV; rw [HV1.out, h]; simp
    exact ⟨h6, by unfold fI jR; unfold cW at h6; rw [h6]; rfl, by unfold fV; unfold cW at h6; rw [h6]; rfl⟩
   have hge : decide ((0 : Int) <= (j : Int)) = true := by simp
   clear h hj; have HN : Hid (Below w.heap.size w w5) := N5; go_wp2_with fail
   exact bpr (v := .tuple #[y.val, fY 0 0 0, .int .i64 3]) (by simp [results, Tryz.results29, go_sem, r0, r1, r2, s0, s1, s2]) rfl (HEnd.out w5 y 0 0 0 3 HE1.out HE2.out HN.out (HS3.out.zL HM5.out) (by rw [HC.out.2.1]; exact HLK.out) HC.out.2.2 HC.out.1)
  obtain rfl : at0 = -1 := HAT.out.symm.trans h; have HF : Hid (decide (0 <= jY b.hl x.n) = false) := by show decide (0 <= jY b.hl x.n) = false; rw [h]; rfl
  clear h
  by_cases h16 : 16 <= b.hl.length
  · have hd16 : decide ((16 : Int) <= (b.hl.length : Int)) = true := by simp; omega
    have HC : Hid (cW b x = 4 /\ fI b x = b.hl /\ fV b (decide (0 <= jY b.hl x.n)) x = fY 0 0 0) := by
     have h6 : cW b x = 4 := by unfold cW gV; rw [HV1.out, HF.out, if_neg (by decide), if_neg (by decide), if_pos h16]
     exact ⟨h6, by unfold fI jR; unfold cW at h6; rw [h6]; rfl, by unfold fV; unfold cW at h6; rw [h6]; rfl⟩
    have HN : Hid (Below w.heap.size w w5) := N5; go_wp2_with fail
    exact bpr (v := .tuple #[y.val, fY 0 0 0, .int .i64 4]) (by simp [results, Tryz.results29, go_sem, r0, r1, r2, s0, s1, s2]) rfl (HEnd.out w5 y 0 0 0 4 HE1.out HE2.out HN.out (HS3.out.zL HM5.out) (by rw [HC.out.2.1]; exact HLK.out) HC.out.2.2 HC.out.1)
  have hd16 : decide ((16 : Int) <= (b.hl.length : Int)) = false := by simp; omega
  obtain ⟨d, iw, kw, fr, hbest⟩ := xE (tC b x); have HB : Hid (eA (tC b x) = .tuple #[fY d iw kw, .bool fr]) := hbest; go_wp2_with fail
  refine (zN b x w5 (hq.zL N5) (hx.zL N5)).mono ?_; rintro e w6 ⟨rfl, hb6⟩; rw [hbest]; have hbc : Below w6.heap.size w6 (w6.alloc (gQ d iw kw)) := aA (br _ _) _; have C7 := wnq w6 (gQ d iw kw); have NN := aD (aD N5 hb6) hbc; have HM7 : Hid (Below w3.heap.size w3 (w6.alloc (gQ d iw kw))) := aD (aD HM5.out hb6) hbc; obtain ⟨w7, hw7⟩ : ∃ w7, w6.alloc (gQ d iw kw) = w7 := ⟨_, rfl⟩; rw [hw7] at C7 NN HM7; have HC7 : Hid (w7.heap[w6.heap.size]? = some (gQ d iw kw)) := C7; have hs6 := hb6.size; have hs67 : w6.heap.size < w7.heap.size := (bH C7); have hs35 := HM5.out.size; clear hbc C7 hb6 hbest k0 k1 k2 p0 p1 p2 p3 p4 p5 p6 p7 c0 c1 c2 r0 r1 r2 rf s0 s1 s2 sf; have A5 := aY HA3.out HM7.out; have X5 := aY HX3.out HM7.out; have R5 := aY HR3.out HM7.out; have Q5 := aY HQ3.out HM7.out; have Y5 := aY HY3.out HM7.out; obtain ⟨k0, k1, k2⟩ := aJ A5; obtain ⟨p0, p1, p2, p3, p4, p5, p6, p7⟩ := fQ X5; obtain ⟨c0, c1, c2⟩ := aJ Y5; obtain ⟨r0, r1, r2⟩ := aJ R5; have rf : ∀ i, w7.frozen? ⟨w.heap.size + 2, i, none⟩ = false := fun i => by simp [World.frozen?, R5]
  obtain ⟨s0, s1, s2⟩ := aJ Q5; have sf : ∀ i, w7.frozen? ⟨w.heap.size + 3, i, none⟩ = false := fun i => by simp [World.frozen?, Q5]
  clear A5 X5 R5 Q5 Y5; obtain ⟨o0, o1, o2⟩ := aJ HC7.out
  cases fr with
  | false =>
   have HC : Hid (cW b x = 5 /\ fI b x = b.hl /\ fV b (decide (0 <= jY b.hl x.n)) x = fY 0 0 0) := by
    have h6 : cW b x = 5 := by unfold cW gV; rw [HV1.out, HF.out, if_neg (by decide), if_neg (by decide), if_neg h16, MG HB.out]
    exact ⟨h6, by unfold fI jR; unfold cW at h6; rw [h6]; rfl, by unfold fV; unfold cW at h6; rw [h6]; rfl⟩
   have HN : Hid (Below w.heap.size w w7) := NN; go_wp2_with fail
   exact bpr (v := .tuple #[y.val, fY 0 0 0, .int .i64 5]) (by simp [results, Tryz.results29, go_sem, r0, r1, r2, s0, s1, s2]) rfl (HEnd.out w7 y 0 0 0 5 HE1.out HE2.out HN.out (HS3.out.zL HM7.out) (by rw [HC.out.2.1]; exact HLK.out) HC.out.2.2 HC.out.1)
  | true =>
  have HC : Hid (cW b x = 0 /\ fI b x = jW b.hl ⟨x.n, none, aR x iw kw d, 0, none, [], 0⟩ /\ fV b (decide (0 <= jY b.hl x.n)) x = fY d iw kw) := by
   obtain ⟨r, hr⟩ := GK HB.out; have h6 : cW b x = 0 := by unfold cW gV; rw [HV1.out, HF.out, if_neg (by decide), if_neg (by decide), if_neg h16, hr]
   exact ⟨h6, by unfold fI jR; unfold cW at h6; rw [h6, hr]; rfl, by unfold fV; unfold cW at h6; rw [h6, hr]; rfl⟩
  have HS7 : Hid (cS w1.heap.size w7 y) := HS3.out.zL HM7.out; have hyl : y.hl.length = b.hl.length := HLK.out.len; have hy64 : y.hl.length <= 64 := by omega
  have HFit : Hid (∀ h ∈ y.hl, h.Fit) := HLK.out.fit (fun h m => (hq.hgood h m).2); have HMs : Hid (w3.heap.size < w7.heap.size) := by show w3.heap.size < w7.heap.size; omega
  clear hyl; go_wp2_with fail
  clear hw7; refine wpIn_wide.1 (dA (F := Fence.wide) (n := 0) (by kernel_rfl) 8 15 16 [some 47, some 48, some 49, some 50, some 51, some 52, some 53, some 54, some 55, some 56, some 57, some 58, some 59, some 60, some 61] (by decide) (by decide) LU PY (GZ w.heap.size w6.heap.size y x d iw kw w7.heap.size) (QN d iw kw) (RW w.heap.size w7 y x d iw kw) GZ.zL GZ.loc GZ.free (by kernel_rfl) (by kernel_rfl) (by kernel_rfl) (by kernel_rfl) (by kernel_rfl) ?step ?free ?g0 ?gf ?store ?fin)
  case step =>
   intro ii o vs w' hi' ho hB hd
   match ii, hi' with
   | 0, _ =>
    simp at ho; subst ho; have k0 := (hB.cell (aB c0)).trans c0; have k1 := (hB.cell (aB c1)).trans c1; have k2 := (hB.cell (aB c2)).trans c2; simp only [aE, Act.put]; gi_wp2; exact ⟨_, by simp [aH], rfl, br _ _⟩
   | 1, _ | 4, _ | 6, _ | 8, _ =>
    simp at ho; subst ho; simp only [aE, Act.put]; gi_wp2; exact ⟨_, by simp [aH], rfl, br _ _⟩
   | 2, _ =>
    simp at ho; subst ho; have d1 : vs 1 = _ := Zq hd 1; have k0 := (hB.cell (aB p0)).trans p0; simp only [aE, Act.put]; rw [d1]; gi_wp2; exact ⟨_, by simp [aH, d1], rfl, br _ _⟩
   | 3, _ =>
    simp at ho; subst ho; have k0 := (hB.cell (aB p0)).trans p0; have k1 := (hB.cell (aB p1)).trans p1; have k2 := (hB.cell (aB p2)).trans p2; have k3 := (hB.cell (aB p3)).trans p3; have k4 := (hB.cell (aB p4)).trans p4; have k5 := (hB.cell (aB p5)).trans p5; have k6 := (hB.cell (aB p6)).trans p6; have k7 := (hB.cell (aB p7)).trans p7; simp only [aE, Act.put]; gi_wp2; exact ⟨_, by simp [aH], rfl, br _ _⟩
   | 5, _ =>
    simp at ho; subst ho; have d4 : vs 4 = _ := Zq hd 4; have k1 := (hB.cell (aB o1)).trans o1; simp only [aE, Act.put]; rw [d4]; gi_wp2; exact ⟨_, by simp [aH, d4], rfl, br _ _⟩
   | 7, _ =>
    simp at ho; subst ho; have d6 : vs 6 = _ := Zq hd 6; have k2 := (hB.cell (aB o2)).trans o2; simp only [aE, Act.put]; rw [d6]; gi_wp2; exact ⟨_, by simp [aH, d6], rfl, br _ _⟩
   | 9, _ =>
    simp at ho; subst ho; have d8 : vs 8 = _ := Zq hd 8; have k0 := (hB.cell (aB o0)).trans o0; simp only [aE, Act.put]; rw [d8]; gi_wp2; exact ⟨_, by simp [aH, d8], rfl, br _ _⟩
   | 10, _ =>
    simp at ho; subst ho; have d3 : vs 3 = _ := Zq hd 3; have d5 : vs 5 = _ := Zq hd 5; have d7 : vs 7 = _ := Zq hd 7; have d9 : vs 9 = _ := Zq hd 9; simp only [aE, Act.put]; rw [d3, d5, d7, d9]; gi_wp2_with fail
    refine ⟨trivial, rfl, ?_⟩; refine (cw.2 (vA x iw kw d w' (hx.hi.zL (aD NN hB)) hx.hf)).mono ?_; rintro e w5 ⟨⟨v5, rfl, hO5⟩, hb5⟩; have HO5 : Hid _ := hO5.weak (base' := w7.heap.size) hB.size; clear hO5; gi_wp2; exact ⟨_, by simp [aH, d3, d5, d7, d9], HO5.out, hb5⟩
   | 11, _ =>
    simp at ho; subst ho; have d2 : vs 2 = _ := Zq hd 2; have d10 : aF w' w7.heap.size (vs 10) (aR x iw kw d) := Zq hd 10; obtain ⟨ta, tc, hv, _⟩ := d10.slice; rw [hv] at d10; have HO : Hid (aF w' w7.heap.size (.slice ta (aR x iw kw d).length tc) (aR x iw kw d)) := d10; clear d10; simp only [aE, Act.put]; rw [d2, hv]; gi_wp2; exact ⟨_, by simp [aH, d2, hv], ⟨ta, tc, rfl, HO.out⟩, br _ _⟩
   | 12, _ =>
    simp at ho; subst ho; have d0 : vs 0 = _ := Zq hd 0; have d11 := Zq hd 11; obtain ⟨ta, tc, hv, hO⟩ := d11; have HO : Hid (aF w' w7.heap.size (.slice ta (aR x iw kw d).length tc) (aR x iw kw d)) := hO; clear hO; simp only [aE, Act.put]; rw [d0, hv]; gi_wp2_with fail
    refine ⟨trivial, rfl, ?_⟩; refine (cw.2 (JO y ⟨x.n, ta, aR x iw kw d, tc, none, [], 0⟩ w1.heap.size w' (HS7.out.h.zL hB) hy64)).mono ?_; rintro e w5 ⟨⟨a', c', rfl, hX⟩, hb5⟩; have HX : Hid (bM 42 3 Hx.cells w5 w7.heap.size _ _) := hX.weak (base' := w7.heap.size) hB.size; have HO5 : Hid (aF w5 w7.heap.size (.slice ta (aR x iw kw d).length tc) (aR x iw kw d)) := HO.out.zL hb5; clear hX; gi_wp2; exact ⟨_, by simp [aH, d0, hv], ⟨ta, tc, a', c', rfl, HX.out, HO5.out⟩, hb5⟩
   | 13, _ =>
    simp at ho; subst ho; have d12 := Zq hd 12; obtain ⟨ta, tc, a', c', hv, hX, hO⟩ := d12; have HX : Hid (bM 42 3 Hx.cells w' w7.heap.size (.slice a' (jW y.hl ⟨x.n, ta, aR x iw kw d, tc, none, [], 0⟩).length c') (jW y.hl ⟨x.n, ta, aR x iw kw d, tc, none, [], 0⟩)) := hX; have HO : Hid (aF w' w7.heap.size (.slice ta (aR x iw kw d).length tc) (aR x iw kw d)) := hO; clear hX hO; simp only [aE, Act.put]; rw [hv]; gi_wp2_with fail
    refine ⟨trivial, rfl, ?_⟩
    refine (cw.2 (iE ⟨y.now, y.fa, y.fl, y.fc, a', jW y.hl ⟨x.n, ta, aR x iw kw d, tc, none, [], 0⟩, c'⟩ w' ((HS7.out.f.xs Fx.cells_length).zL hB) (by rw [HE2.out]; exact hq.hnf) (HX.out.xs Hx.cells_length) (by rw [MK]; omega) (fun h m => by
     rcases L9 m with rfl | m
     · exact ⟨⟨HO.out.xs, .inl rfl⟩, ⟨by have := mD x iw kw d; show (aR x iw kw d).length <= _; omega, by simp, hx.hf.sn⟩⟩
     · exact ⟨(HS7.out.inn h m).zL hB, HFit.out h m⟩))).mono ?_
    rintro e w5 ⟨⟨b2, rfl, e1, e2, hl, hS⟩, hb5⟩; have HS5 : Hid (cS w7.heap.size w5 b2) := hS.weak hB.size; have HE5 : Hid (b2.now = y.now /\ b2.fl = y.fl) := ⟨e1, e2⟩; have HL5 : Hid (aI (jW y.hl ⟨x.n, none, aR x iw kw d, 0, none, [], 0⟩) b2.hl) := aI.trans (m := jW y.hl ⟨x.n, ta, aR x iw kw d, tc, none, [], 0⟩) (xI (aI.refl _) ⟨rfl, rfl, rfl⟩) hl; clear hS e1 e2 hl; gi_wp2; exact ⟨_, by simp [aH, hv], ⟨b2, rfl, HE5.out.1, HE5.out.2, HL5.out, HS5.out⟩, hb5⟩
   | 14, _ =>
    simp at ho; subst ho; have k0 := (hB.cell (aB o0)).trans o0; have k1 := (hB.cell (aB o1)).trans o1; have k2 := (hB.cell (aB o2)).trans o2; simp only [aE, Act.put]; gi_wp2; exact ⟨_, by simp [aH], rfl, br _ _⟩
   | q + 15, h => exact absurd h (by omega)
  case free =>
   intro ii o vs w' t hi' hfi ho h12 h15 hG hd; obtain rfl : ii = 14 := by simpa [LU] using hfi
   obtain rfl : t = 16 := by omega
   simp at ho; subst ho; obtain ⟨w0, b2, hB0, hv, e1, e2, hl, hS, hw⟩ := hG; rw [if_pos rfl] at hw; have hb3 : bC (fun q => q = w.heap.size + 2) w0 w' := by rw [hw]; exact JD _ _ _
   have k0 := hb3.cell (p := ⟨w6.heap.size, 0, none⟩) (by show ¬ (w6.heap.size = w.heap.size + 2); omega) ((hB0.cell (aB o0)).trans o0); have k1 := hb3.cell (p := ⟨w6.heap.size, 1, none⟩) (by show ¬ (w6.heap.size = w.heap.size + 2); omega) ((hB0.cell (aB o1)).trans o1); have k2 := hb3.cell (p := ⟨w6.heap.size, 2, none⟩) (by show ¬ (w6.heap.size = w.heap.size + 2); omega) ((hB0.cell (aB o2)).trans o2); clear hw hb3 hv e1 e2 hl hS hB0; simp only [aE, Act.put]; gi_wp2
   first
    | exact ⟨_, by simp [aH], rfl, rfl⟩
    | exact ⟨_, by simp [aH], rfl⟩
  case g0 =>
   intro vs w' hB hp; obtain ⟨b2, e, h1, h2, h3, h4⟩ := hp 13 (by decide) rfl; exact ⟨w', b2, hB, e, h1, h2, h3, h4, rfl⟩
  case gf =>
   intro t vs w' ii v hfi hG; obtain rfl : ii = 14 := by simpa [LU] using hfi
   exact hG
  case store =>
   intro t o vs w' h12 h15 ho hG hd; obtain rfl : t = 15 := by omega
   simp at ho; subst ho; obtain ⟨w0, b2, hB0, hv, e1, e2, hl, hS, hw⟩ := hG; rw [if_neg (by decide)] at hw; subst hw; have M8 := aD HM7.out hB0; have R8 := aY HR3.out M8; obtain ⟨g0, g1, g2⟩ := aJ R8; have gf : ∀ i, w'.frozen? ⟨w.heap.size + 2, i, none⟩ = false := fun i => by simp [World.frozen?, R8]
   have HS8 : Hid (cS w7.heap.size w' b2) := hS; have HL8 : Hid (aI (jW y.hl ⟨x.n, none, aR x iw kw d, 0, none, [], 0⟩) b2.hl) := hl; have HE8 : Hid (b2.now = y.now /\ b2.fl = y.fl) := ⟨e1, e2⟩; clear R8 M8 hS hl e1 e2; simp only [aE, Act.put]; rw [hv]; gi_wp2; exact ⟨undef, by simp [aH, hv], w', b2, hB0, hv, HE8.out.1, HE8.out.2, HL8.out, HS8.out, by rw [if_pos rfl]⟩
  case fin =>
   intro vs w9 hG hp; have d14 : vs 14 = _ := hp 14 (by decide) rfl; obtain ⟨w8, b2, hB, hv, e1, e2, hl, hS, hw⟩ := hG; rw [if_pos rfl] at hw; subst hw; have HS8 : Hid (cS w7.heap.size w8 b2) := hS; have HE8 : Hid (b2.now = y.now /\ b2.fl = y.fl) := ⟨e1, e2⟩; have HL8 : Hid (aI (jW y.hl ⟨x.n, none, aR x iw kw d, 0, none, [], 0⟩) b2.hl) := hl; have HN8 : Hid (Below w.heap.size w w8) := aD NN hB; have hs7 : w3.heap.size < w7.heap.size := HMs.out; have M8 := aD HM7.out hB; clear hp hS e1 e2 hl; simp only [lds, List.drop_zero, aE, Act.put]; rw [hv, d14]; clear hv d14 k0 k1 k2 p0 p1 p2 p3 p4 p5 p6 p7 c0 c1 c2 r0 r1 r2 rf s0 s1 s2 sf o0 o1 o2; have R8 := aY HR3.out M8; have Q8 := aY HQ3.out M8; obtain ⟨r0, r1, r2⟩ := aJ R8; have rf : ∀ i, w8.frozen? ⟨w.heap.size + 2, i, none⟩ = false := fun i => by simp [World.frozen?, R8]
   obtain ⟨s0, s1, s2⟩ := aJ Q8; have sf : ∀ i, w8.frozen? ⟨w.heap.size + 3, i, none⟩ = false := fun i => by simp [World.frozen?, Q8]
   clear R8 Q8 M8 hB NN; generalize vs 0 = v0; generalize vs 1 = v1; generalize vs 2 = v2; generalize vs 3 = v3; generalize vs 4 = v4; generalize vs 5 = v5; generalize vs 6 = v6; generalize vs 7 = v7; generalize vs 8 = v8; generalize vs 9 = v9; generalize vs 10 = v10; generalize vs 11 = v11; generalize vs 12 = v12; generalize vs 15 = v15; gi_wp2_with fail
   go_wp2_with fail
   exact bpr (v := .tuple #[b2.val, fY d iw kw, .int .i64 0]) (by simp [results, Tryz.results29, go_sem, r0, r1, r2, s0, s1, s2]) rfl (HEnd.out w8 b2 d iw kw 0 (HE8.out.1.trans HE1.out) (HE8.out.2.trans HE2.out) HN8.out (HS8.out.weak (by omega)) (by rw [HC.out.2.1]; exact aI.trans (xI HLK.out ⟨rfl, rfl, rfl⟩) HL8.out) HC.out.2.2 HC.out.1)
end Go.Proofs.YtiojdbffjdoniaaGreatDoor
