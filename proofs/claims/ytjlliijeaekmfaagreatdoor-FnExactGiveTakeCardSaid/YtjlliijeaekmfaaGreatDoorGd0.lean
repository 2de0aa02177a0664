import Derived.Test.YtjlliijeaekmfaaGreatDoorFb
import Derived.Test.YtjlliijeaekmfaaGreatDoorAny
import Derived.Test.YtjlliijeaekmfaaGreatDoorGa
namespace Go.Proofs.YtjlliijeaekmfaaGreatDoor
open Go.RowKit Go.Shelf
attribute [local go_sem] Oper.semAt_some
structure K6 (Wd : World) (A k : Nat) (l : List Hx) (y : Hx) (h0 h4 h12 : Value) (L : Nat -> Prop) (vs : Nat -> Value) (w' : World) : Prop where
 v0 : L 0 -> ∃ p, vs 0 = .slice (some ⟨p, 0, none⟩) 0 0 /\ Wd.heap.size <= p /\ (¬ L 5 -> w'.heap[p]? = some (.cells #[] 87))
 v1 : L 1 -> vs 1 = .pointer (some ⟨A, 2, none⟩)
 v2 : L 2 -> vs 2 = h0
 v3 : L 3 -> vs 3 = .int .i64 (k : Int)
 v4 : L 4 -> vs 4 = h4
 v5 : L 5 -> ¬ L 8 -> w'.ownsRow Wd.heap.size 87 3 (vs 5) k (flatX Hx.cells (l.take k))
 v6 : L 6 -> vs 6 = y.val
 v7 : L 7 -> ∃ V, vs 7 = .slice (some ⟨V, 0, none⟩) 1 1 /\ (¬ L 8 -> w'.heap[V]? = some (.cells #[.string y.n, .slice y.ta y.tl.length y.tc, .slice y.na y.nl.length y.nc] 87))
 v8 : L 8 -> ¬ L 13 -> w'.ownsRow Wd.heap.size 87 3 (vs 8) (k + 1) (flatX Hx.cells (l.take k) ++ y.cells)
 v9 : L 9 -> vs 9 = .pointer (some ⟨A, 2, none⟩)
 v10 : L 10 -> vs 10 = h0
 v11 : L 11 -> vs 11 = .int .i64 (k : Int)
 v12 : L 12 -> vs 12 = h12
 v13 : L 13 -> ¬ L 15 -> w'.ownsRow Wd.heap.size 87 3 (vs 13) (l.length + 1) (flatX Hx.cells (l.take k) ++ y.cells ++ flatX Hx.cells (l.drop k))
 v14 : L 14 -> vs 14 = .pointer (some ⟨A, 2, none⟩)
 w15 : L 15 -> ∃ w0, Below Wd.heap.size Wd w0 /\ w0.ownsRow Wd.heap.size 87 3 (vs 13) (l.length + 1) (flatX Hx.cells (l.take k) ++ y.cells ++ flatX Hx.cells (l.drop k)) /\ w' = w0.setCell ⟨A, 2, none⟩ (vs 13)
 bw : ¬ L 15 -> Below Wd.heap.size Wd w'
theorem K6.ext {Wd : World} {A k : Nat} {l : List Hx} {y : Hx} {h0 h4 h12 : Value} (L L' : Nat -> Prop) (vs : Nat -> Value) (w' : World) (h : ∀ j, L j ↔ L' j) (q : K6 Wd A k l y h0 h4 h12 L vs w') : K6 Wd A k l y h0 h4 h12 L' vs w' := by
 obtain rfl : L = L' := funext fun j => propext (h j); exact q
theorem K6.later {Wd : World} {A k : Nat} {l : List Hx} {y : Hx} {h0 h4 h12 : Value} {L : Nat -> Prop} {vs : Nat -> Value} {w' w'' : World} (q : K6 Wd A k l y h0 h4 h12 L vs w') (h15 : ¬ L 15) (hb : Below w'.heap.size w' w'') : K6 Wd A k l y h0 h4 h12 L vs w'' :=
 ⟨fun h => by obtain ⟨p, e, h1, h2⟩ := q.v0 h; exact ⟨p, e, h1, fun h5 => blk (h2 h5) hb⟩, q.v1, q.v2, q.v3, q.v4, fun h g => own_later (q.v5 h g) hb, q.v6, fun h => by obtain ⟨V, e, h2⟩ := q.v7 h; exact ⟨V, e, fun h5 => blk (h2 h5) hb⟩, fun h g => own_later (q.v8 h g) hb, q.v9, q.v10, q.v11, q.v12, fun h g => own_later (q.v13 h g) hb, q.v14, fun h => absurd h h15, fun h => bstep (q.bw h) hb⟩
theorem K6.add1 {Wd : World} {A k : Nat} {l : List Hx} {y : Hx} {h0 h4 h12 : Value} {L : Nat -> Prop} {vs : Nat -> Value} {w' : World} {v : Value} (q : K6 Wd A k l y h0 h4 h12 L vs w') (hv : v = .pointer (some ⟨A, 2, none⟩)) : K6 Wd A k l y h0 h4 h12 (fun j => L j ∨ j = 1) (upd vs 1 v) w' :=
 ⟨fun h => by obtain ⟨p, e, h1, h2⟩ := q.v0 (lor h); exact ⟨p, e, h1, fun h5 => h2 (fun s => h5 (.inl s))⟩, fun _ => hv, fun h => q.v2 (lor h), fun h => q.v3 (lor h), fun h => q.v4 (lor h), fun h g => q.v5 (lor h) (fun s => g (.inl s)), fun h => q.v6 (lor h), fun h => by obtain ⟨V, e, h2⟩ := q.v7 (lor h); exact ⟨V, e, fun h5 => h2 (fun s => h5 (.inl s))⟩, fun h g => q.v8 (lor h) (fun s => g (.inl s)), fun h => q.v9 (lor h), fun h => q.v10 (lor h), fun h => q.v11 (lor h), fun h => q.v12 (lor h), fun h g => q.v13 (lor h) (fun s => g (.inl s)), fun h => q.v14 (lor h), fun h => q.w15 (lor h), fun h => q.bw (fun s => h (.inl s))⟩
theorem K6.add2 {Wd : World} {A k : Nat} {l : List Hx} {y : Hx} {h0 h4 h12 : Value} {L : Nat -> Prop} {vs : Nat -> Value} {w' : World} {v : Value} (q : K6 Wd A k l y h0 h4 h12 L vs w') (hv : v = h0) : K6 Wd A k l y h0 h4 h12 (fun j => L j ∨ j = 2) (upd vs 2 v) w' :=
 ⟨fun h => by obtain ⟨p, e, h1, h2⟩ := q.v0 (lor h); exact ⟨p, e, h1, fun h5 => h2 (fun s => h5 (.inl s))⟩, fun h => q.v1 (lor h), fun _ => hv, fun h => q.v3 (lor h), fun h => q.v4 (lor h), fun h g => q.v5 (lor h) (fun s => g (.inl s)), fun h => q.v6 (lor h), fun h => by obtain ⟨V, e, h2⟩ := q.v7 (lor h); exact ⟨V, e, fun h5 => h2 (fun s => h5 (.inl s))⟩, fun h g => q.v8 (lor h) (fun s => g (.inl s)), fun h => q.v9 (lor h), fun h => q.v10 (lor h), fun h => q.v11 (lor h), fun h => q.v12 (lor h), fun h g => q.v13 (lor h) (fun s => g (.inl s)), fun h => q.v14 (lor h), fun h => q.w15 (lor h), fun h => q.bw (fun s => h (.inl s))⟩
theorem K6.add3 {Wd : World} {A k : Nat} {l : List Hx} {y : Hx} {h0 h4 h12 : Value} {L : Nat -> Prop} {vs : Nat -> Value} {w' : World} {v : Value} (q : K6 Wd A k l y h0 h4 h12 L vs w') (hv : v = .int .i64 (k : Int)) : K6 Wd A k l y h0 h4 h12 (fun j => L j ∨ j = 3) (upd vs 3 v) w' :=
 ⟨fun h => by obtain ⟨p, e, h1, h2⟩ := q.v0 (lor h); exact ⟨p, e, h1, fun h5 => h2 (fun s => h5 (.inl s))⟩, fun h => q.v1 (lor h), fun h => q.v2 (lor h), fun _ => hv, fun h => q.v4 (lor h), fun h g => q.v5 (lor h) (fun s => g (.inl s)), fun h => q.v6 (lor h), fun h => by obtain ⟨V, e, h2⟩ := q.v7 (lor h); exact ⟨V, e, fun h5 => h2 (fun s => h5 (.inl s))⟩, fun h g => q.v8 (lor h) (fun s => g (.inl s)), fun h => q.v9 (lor h), fun h => q.v10 (lor h), fun h => q.v11 (lor h), fun h => q.v12 (lor h), fun h g => q.v13 (lor h) (fun s => g (.inl s)), fun h => q.v14 (lor h), fun h => q.w15 (lor h), fun h => q.bw (fun s => h (.inl s))⟩
theorem K6.add4 {Wd : World} {A k : Nat} {l : List Hx} {y : Hx} {h0 h4 h12 : Value} {L : Nat -> Prop} {vs : Nat -> Value} {w' : World} {v : Value} (q : K6 Wd A k l y h0 h4 h12 L vs w') (hv : v = h4) : K6 Wd A k l y h0 h4 h12 (fun j => L j ∨ j = 4) (upd vs 4 v) w' :=
 ⟨fun h => by obtain ⟨p, e, h1, h2⟩ := q.v0 (lor h); exact ⟨p, e, h1, fun h5 => h2 (fun s => h5 (.inl s))⟩, fun h => q.v1 (lor h), fun h => q.v2 (lor h), fun h => q.v3 (lor h), fun _ => hv, fun h g => q.v5 (lor h) (fun s => g (.inl s)), fun h => q.v6 (lor h), fun h => by obtain ⟨V, e, h2⟩ := q.v7 (lor h); exact ⟨V, e, fun h5 => h2 (fun s => h5 (.inl s))⟩, fun h g => q.v8 (lor h) (fun s => g (.inl s)), fun h => q.v9 (lor h), fun h => q.v10 (lor h), fun h => q.v11 (lor h), fun h => q.v12 (lor h), fun h g => q.v13 (lor h) (fun s => g (.inl s)), fun h => q.v14 (lor h), fun h => q.w15 (lor h), fun h => q.bw (fun s => h (.inl s))⟩
theorem K6.add6 {Wd : World} {A k : Nat} {l : List Hx} {y : Hx} {h0 h4 h12 : Value} {L : Nat -> Prop} {vs : Nat -> Value} {w' : World} {v : Value} (q : K6 Wd A k l y h0 h4 h12 L vs w') (hv : v = y.val) : K6 Wd A k l y h0 h4 h12 (fun j => L j ∨ j = 6) (upd vs 6 v) w' :=
 ⟨fun h => by obtain ⟨p, e, h1, h2⟩ := q.v0 (lor h); exact ⟨p, e, h1, fun h5 => h2 (fun s => h5 (.inl s))⟩, fun h => q.v1 (lor h), fun h => q.v2 (lor h), fun h => q.v3 (lor h), fun h => q.v4 (lor h), fun h g => q.v5 (lor h) (fun s => g (.inl s)), fun _ => hv, fun h => by obtain ⟨V, e, h2⟩ := q.v7 (lor h); exact ⟨V, e, fun h5 => h2 (fun s => h5 (.inl s))⟩, fun h g => q.v8 (lor h) (fun s => g (.inl s)), fun h => q.v9 (lor h), fun h => q.v10 (lor h), fun h => q.v11 (lor h), fun h => q.v12 (lor h), fun h g => q.v13 (lor h) (fun s => g (.inl s)), fun h => q.v14 (lor h), fun h => q.w15 (lor h), fun h => q.bw (fun s => h (.inl s))⟩
theorem K6.add9 {Wd : World} {A k : Nat} {l : List Hx} {y : Hx} {h0 h4 h12 : Value} {L : Nat -> Prop} {vs : Nat -> Value} {w' : World} {v : Value} (q : K6 Wd A k l y h0 h4 h12 L vs w') (hv : v = .pointer (some ⟨A, 2, none⟩)) : K6 Wd A k l y h0 h4 h12 (fun j => L j ∨ j = 9) (upd vs 9 v) w' :=
 ⟨fun h => by obtain ⟨p, e, h1, h2⟩ := q.v0 (lor h); exact ⟨p, e, h1, fun h5 => h2 (fun s => h5 (.inl s))⟩, fun h => q.v1 (lor h), fun h => q.v2 (lor h), fun h => q.v3 (lor h), fun h => q.v4 (lor h), fun h g => q.v5 (lor h) (fun s => g (.inl s)), fun h => q.v6 (lor h), fun h => by obtain ⟨V, e, h2⟩ := q.v7 (lor h); exact ⟨V, e, fun h5 => h2 (fun s => h5 (.inl s))⟩, fun h g => q.v8 (lor h) (fun s => g (.inl s)), fun _ => hv, fun h => q.v10 (lor h), fun h => q.v11 (lor h), fun h => q.v12 (lor h), fun h g => q.v13 (lor h) (fun s => g (.inl s)), fun h => q.v14 (lor h), fun h => q.w15 (lor h), fun h => q.bw (fun s => h (.inl s))⟩
theorem K6.add10 {Wd : World} {A k : Nat} {l : List Hx} {y : Hx} {h0 h4 h12 : Value} {L : Nat -> Prop} {vs : Nat -> Value} {w' : World} {v : Value} (q : K6 Wd A k l y h0 h4 h12 L vs w') (hv : v = h0) : K6 Wd A k l y h0 h4 h12 (fun j => L j ∨ j = 10) (upd vs 10 v) w' :=
 ⟨fun h => by obtain ⟨p, e, h1, h2⟩ := q.v0 (lor h); exact ⟨p, e, h1, fun h5 => h2 (fun s => h5 (.inl s))⟩, fun h => q.v1 (lor h), fun h => q.v2 (lor h), fun h => q.v3 (lor h), fun h => q.v4 (lor h), fun h g => q.v5 (lor h) (fun s => g (.inl s)), fun h => q.v6 (lor h), fun h => by obtain ⟨V, e, h2⟩ := q.v7 (lor h); exact ⟨V, e, fun h5 => h2 (fun s => h5 (.inl s))⟩, fun h g => q.v8 (lor h) (fun s => g (.inl s)), fun h => q.v9 (lor h), fun _ => hv, fun h => q.v11 (lor h), fun h => q.v12 (lor h), fun h g => q.v13 (lor h) (fun s => g (.inl s)), fun h => q.v14 (lor h), fun h => q.w15 (lor h), fun h => q.bw (fun s => h (.inl s))⟩
theorem K6.add11 {Wd : World} {A k : Nat} {l : List Hx} {y : Hx} {h0 h4 h12 : Value} {L : Nat -> Prop} {vs : Nat -> Value} {w' : World} {v : Value} (q : K6 Wd A k l y h0 h4 h12 L vs w') (hv : v = .int .i64 (k : Int)) : K6 Wd A k l y h0 h4 h12 (fun j => L j ∨ j = 11) (upd vs 11 v) w' :=
 ⟨fun h => by obtain ⟨p, e, h1, h2⟩ := q.v0 (lor h); exact ⟨p, e, h1, fun h5 => h2 (fun s => h5 (.inl s))⟩, fun h => q.v1 (lor h), fun h => q.v2 (lor h), fun h => q.v3 (lor h), fun h => q.v4 (lor h), fun h g => q.v5 (lor h) (fun s => g (.inl s)), fun h => q.v6 (lor h), fun h => by obtain ⟨V, e, h2⟩ := q.v7 (lor h); exact ⟨V, e, fun h5 => h2 (fun s => h5 (.inl s))⟩, fun h g => q.v8 (lor h) (fun s => g (.inl s)), fun h => q.v9 (lor h), fun h => q.v10 (lor h), fun _ => hv, fun h => q.v12 (lor h), fun h g => q.v13 (lor h) (fun s => g (.inl s)), fun h => q.v14 (lor h), fun h => q.w15 (lor h), fun h => q.bw (fun s => h (.inl s))⟩
theorem K6.add12 {Wd : World} {A k : Nat} {l : List Hx} {y : Hx} {h0 h4 h12 : Value} {L : Nat -> Prop} {vs : Nat -> Value} {w' : World} {v : Value} (q : K6 Wd A k l y h0 h4 h12 L vs w') (hv : v = h12) : K6 Wd A k l y h0 h4 h12 (fun j => L j ∨ j = 12) (upd vs 12 v) w' :=
 ⟨fun h => by obtain ⟨p, e, h1, h2⟩ := q.v0 (lor h); exact ⟨p, e, h1, fun h5 => h2 (fun s => h5 (.inl s))⟩, fun h => q.v1 (lor h), fun h => q.v2 (lor h), fun h => q.v3 (lor h), fun h => q.v4 (lor h), fun h g => q.v5 (lor h) (fun s => g (.inl s)), fun h => q.v6 (lor h), fun h => by obtain ⟨V, e, h2⟩ := q.v7 (lor h); exact ⟨V, e, fun h5 => h2 (fun s => h5 (.inl s))⟩, fun h g => q.v8 (lor h) (fun s => g (.inl s)), fun h => q.v9 (lor h), fun h => q.v10 (lor h), fun h => q.v11 (lor h), fun _ => hv, fun h g => q.v13 (lor h) (fun s => g (.inl s)), fun h => q.v14 (lor h), fun h => q.w15 (lor h), fun h => q.bw (fun s => h (.inl s))⟩
theorem K6.add14 {Wd : World} {A k : Nat} {l : List Hx} {y : Hx} {h0 h4 h12 : Value} {L : Nat -> Prop} {vs : Nat -> Value} {w' : World} {v : Value} (q : K6 Wd A k l y h0 h4 h12 L vs w') (hv : v = .pointer (some ⟨A, 2, none⟩)) : K6 Wd A k l y h0 h4 h12 (fun j => L j ∨ j = 14) (upd vs 14 v) w' :=
 ⟨fun h => by obtain ⟨p, e, h1, h2⟩ := q.v0 (lor h); exact ⟨p, e, h1, fun h5 => h2 (fun s => h5 (.inl s))⟩, fun h => q.v1 (lor h), fun h => q.v2 (lor h), fun h => q.v3 (lor h), fun h => q.v4 (lor h), fun h g => q.v5 (lor h) (fun s => g (.inl s)), fun h => q.v6 (lor h), fun h => by obtain ⟨V, e, h2⟩ := q.v7 (lor h); exact ⟨V, e, fun h5 => h2 (fun s => h5 (.inl s))⟩, fun h g => q.v8 (lor h) (fun s => g (.inl s)), fun h => q.v9 (lor h), fun h => q.v10 (lor h), fun h => q.v11 (lor h), fun h => q.v12 (lor h), fun h g => q.v13 (lor h) (fun s => g (.inl s)), fun _ => hv, fun h => q.w15 (lor h), fun h => q.bw (fun s => h (.inl s))⟩
theorem K6.add0 {Wd : World} {A k : Nat} {l : List Hx} {y : Hx} {h0 h4 h12 : Value} {L : Nat -> Prop} {vs : Nat -> Value} {w' : World} {v : Value} (q : K6 Wd A k l y h0 h4 h12 L vs w') (hv : ∃ p, v = .slice (some ⟨p, 0, none⟩) 0 0 /\ Wd.heap.size <= p /\ w'.heap[p]? = some (.cells #[] 87)) : K6 Wd A k l y h0 h4 h12 (fun j => L j ∨ j = 0) (upd vs 0 v) w' :=
 ⟨fun _ => by obtain ⟨p, e, h1, h2⟩ := hv; exact ⟨p, e, h1, fun _ => h2⟩, fun h => q.v1 (lor h), fun h => q.v2 (lor h), fun h => q.v3 (lor h), fun h => q.v4 (lor h), fun h g => q.v5 (lor h) (fun s => g (.inl s)), fun h => q.v6 (lor h), fun h => by obtain ⟨V, e, h2⟩ := q.v7 (lor h); exact ⟨V, e, fun h5 => h2 (fun s => h5 (.inl s))⟩, fun h g => q.v8 (lor h) (fun s => g (.inl s)), fun h => q.v9 (lor h), fun h => q.v10 (lor h), fun h => q.v11 (lor h), fun h => q.v12 (lor h), fun h g => q.v13 (lor h) (fun s => g (.inl s)), fun h => q.v14 (lor h), fun h => q.w15 (lor h), fun h => q.bw (fun s => h (.inl s))⟩
theorem K6.add5 {Wd : World} {A k : Nat} {l : List Hx} {y : Hx} {h0 h4 h12 : Value} {L : Nat -> Prop} {vs : Nat -> Value} {w' : World} {v : Value} (q : K6 Wd A k l y h0 h4 h12 L vs w') (hv : w'.ownsRow Wd.heap.size 87 3 v k (flatX Hx.cells (l.take k))) : K6 Wd A k l y h0 h4 h12 (fun j => L j ∨ j = 5) (upd vs 5 v) w' :=
 ⟨fun h => by obtain ⟨p, e, h1, h2⟩ := q.v0 (lor h); exact ⟨p, e, h1, fun h5 => absurd (.inr rfl) h5⟩, fun h => q.v1 (lor h), fun h => q.v2 (lor h), fun h => q.v3 (lor h), fun h => q.v4 (lor h), fun _ _ => hv, fun h => q.v6 (lor h), fun h => by obtain ⟨V, e, h2⟩ := q.v7 (lor h); exact ⟨V, e, fun h5 => h2 (fun s => h5 (.inl s))⟩, fun h g => q.v8 (lor h) (fun s => g (.inl s)), fun h => q.v9 (lor h), fun h => q.v10 (lor h), fun h => q.v11 (lor h), fun h => q.v12 (lor h), fun h g => q.v13 (lor h) (fun s => g (.inl s)), fun h => q.v14 (lor h), fun h => q.w15 (lor h), fun h => q.bw (fun s => h (.inl s))⟩
theorem K6.add7 {Wd : World} {A k : Nat} {l : List Hx} {y : Hx} {h0 h4 h12 : Value} {L : Nat -> Prop} {vs : Nat -> Value} {w' : World} {v : Value} (q : K6 Wd A k l y h0 h4 h12 L vs w') (hv : ∃ V, v = .slice (some ⟨V, 0, none⟩) 1 1 /\ w'.heap[V]? = some (.cells #[.string y.n, .slice y.ta y.tl.length y.tc, .slice y.na y.nl.length y.nc] 87)) : K6 Wd A k l y h0 h4 h12 (fun j => L j ∨ j = 7) (upd vs 7 v) w' :=
 ⟨fun h => by obtain ⟨p, e, h1, h2⟩ := q.v0 (lor h); exact ⟨p, e, h1, fun h5 => h2 (fun s => h5 (.inl s))⟩, fun h => q.v1 (lor h), fun h => q.v2 (lor h), fun h => q.v3 (lor h), fun h => q.v4 (lor h), fun h g => q.v5 (lor h) (fun s => g (.inl s)), fun h => q.v6 (lor h), fun _ => by obtain ⟨V, e, h2⟩ := hv; exact ⟨V, e, fun _ => h2⟩, fun h g => q.v8 (lor h) (fun s => g (.inl s)), fun h => q.v9 (lor h), fun h => q.v10 (lor h), fun h => q.v11 (lor h), fun h => q.v12 (lor h), fun h g => q.v13 (lor h) (fun s => g (.inl s)), fun h => q.v14 (lor h), fun h => q.w15 (lor h), fun h => q.bw (fun s => h (.inl s))⟩
theorem K6.add8 {Wd : World} {A k : Nat} {l : List Hx} {y : Hx} {h0 h4 h12 : Value} {L : Nat -> Prop} {vs : Nat -> Value} {w' w'' : World} {v : Value} (q : K6 Wd A k l y h0 h4 h12 L vs w') (h5 : L 5) (h13 : ¬ L 13) (h15 : ¬ L 15) (hv : w''.ownsRow Wd.heap.size 87 3 v (k + 1) (flatX Hx.cells (l.take k) ++ y.cells)) (hb : Below Wd.heap.size Wd w'') : K6 Wd A k l y h0 h4 h12 (fun j => L j ∨ j = 8) (upd vs 8 v) w'' :=
 ⟨fun h => by obtain ⟨p, e, h1, _⟩ := q.v0 (lor h); exact ⟨p, e, h1, fun g => absurd (.inl h5) g⟩, fun h => q.v1 (lor h), fun h => q.v2 (lor h), fun h => q.v3 (lor h), fun h => q.v4 (lor h), fun _ g => absurd (.inr rfl) g, fun h => q.v6 (lor h), fun h => by obtain ⟨V, e, _⟩ := q.v7 (lor h); exact ⟨V, e, fun g => absurd (.inr rfl) g⟩, fun _ _ => hv, fun h => q.v9 (lor h), fun h => q.v10 (lor h), fun h => q.v11 (lor h), fun h => q.v12 (lor h), fun h => absurd (lor h) h13, fun h => q.v14 (lor h), fun h => absurd (lor h) h15, fun _ => hb⟩
theorem K6.add13 {Wd : World} {A k : Nat} {l : List Hx} {y : Hx} {h0 h4 h12 : Value} {L : Nat -> Prop} {vs : Nat -> Value} {w' w'' : World} {v : Value} (q : K6 Wd A k l y h0 h4 h12 L vs w') (h5 : L 5) (h8 : L 8) (h15 : ¬ L 15) (hv : w''.ownsRow Wd.heap.size 87 3 v (l.length + 1) (flatX Hx.cells (l.take k) ++ y.cells ++ flatX Hx.cells (l.drop k))) (hb : Below Wd.heap.size Wd w'') : K6 Wd A k l y h0 h4 h12 (fun j => L j ∨ j = 13) (upd vs 13 v) w'' :=
 ⟨fun h => by obtain ⟨p, e, h1, _⟩ := q.v0 (lor h); exact ⟨p, e, h1, fun g => absurd (.inl h5) g⟩, fun h => q.v1 (lor h), fun h => q.v2 (lor h), fun h => q.v3 (lor h), fun h => q.v4 (lor h), fun _ g => absurd (.inl h8) g, fun h => q.v6 (lor h), fun h => by obtain ⟨V, e, _⟩ := q.v7 (lor h); exact ⟨V, e, fun g => absurd (.inl h8) g⟩, fun _ g => absurd (.inr rfl) g, fun h => q.v9 (lor h), fun h => q.v10 (lor h), fun h => q.v11 (lor h), fun h => q.v12 (lor h), fun _ _ => hv, fun h => q.v14 (lor h), fun h => absurd (lor h) h15, fun _ => hb⟩
theorem K6.add15 {Wd : World} {A k : Nat} {l : List Hx} {y : Hx} {h0 h4 h12 : Value} {L : Nat -> Prop} {vs : Nat -> Value} {w' : World} {v : Value} (q : K6 Wd A k l y h0 h4 h12 L vs w') (h5 : L 5) (h8 : L 8) (h13 : L 13) (h15 : ¬ L 15) : K6 Wd A k l y h0 h4 h12 (fun j => L j ∨ j = 15) (upd vs 15 v) (w'.setCell ⟨A, 2, none⟩ (vs 13)) :=
 ⟨fun h => by obtain ⟨p, e, h1, _⟩ := q.v0 (lor h); exact ⟨p, e, h1, fun g => absurd (.inl h5) g⟩, fun h => q.v1 (lor h), fun h => q.v2 (lor h), fun h => q.v3 (lor h), fun h => q.v4 (lor h), fun _ g => absurd (.inl h8) g, fun h => q.v6 (lor h), fun h => by obtain ⟨V, e, _⟩ := q.v7 (lor h); exact ⟨V, e, fun g => absurd (.inl h8) g⟩, fun _ g => absurd (.inl h13) g, fun h => q.v9 (lor h), fun h => q.v10 (lor h), fun h => q.v11 (lor h), fun h => q.v12 (lor h), fun _ g => absurd (.inr rfl) g, fun h => q.v14 (lor h), fun _ => ⟨w', q.bw h15, q.v13 h13 h15, rfl⟩, fun h => absurd (.inr rfl) h⟩
end Go.Proofs.YtjlliijeaekmfaaGreatDoor
namespace Go.Proofs.YtjlliijeaekmfaaGreatDoor
set_option maxRecDepth 100000
set_option maxHeartbeats 16000000
open Go.RowKit Go.Shelf
attribute [local go_sem] Oper.semAt_some
def putI (l : List Hx) (nm : ByteArray) : Nat := (l.takeWhile (fun h => ltB h.n nm)).length
def putL (l : List Hx) (y : Hx) : List Hx := l.take (putI l y.n) ++ y :: l.drop (putI l y.n)
theorem putI_of {l : List Hx} {nm : ByteArray} {k : Nat} (hk : k <= l.length) (hlo : ∀ j (h : j < l.length), j < k -> ltB l[j].n nm = true) (hhi : ∀ h : k < l.length, ltB l[k].n nm = false) : putI l nm = k := by
 induction l generalizing k with
 | nil => simp at hk; subst hk; rfl
 | cons a r ih =>
  cases k with
  | zero =>
   have := hhi (by simp); simp only [List.getElem_cons_zero] at this
   simp [putI, this]
  | succ m =>
   have h0 := hlo 0 (by simp) (by omega); simp only [List.getElem_cons_zero] at h0; have := ih (k := m) (by simpa using hk) (fun j h hj => by have := hlo (j + 1) (by simpa using h) (by omega); simpa using this) (fun h => by have := hhi (by simpa using h); simpa using this); simp only [putI] at this ⊢
   simp [h0, this]
theorem row_take {w W : World} {g cap k : Nat} {l : List Hx} (h : RowX 87 3 Hx.cells w g cap l l.length) (hc : l.length <= cap) (hN : Below w.heap.size w W) : ∀ j u, (flatX Hx.cells (l.take k))[j]? = some u -> W.cell? ((⟨g, 0, none⟩ : Addr).add j) = some u :=
 xs_flat Hx.cells_length (by decide) (fun i hi => by
  rw [List.getElem_take]
  exact (h.xs' Hx.cells_length (Nat.le_refl _) hc i (by simp at hi; omega)).later hN)
theorem row_drop {w W : World} {g cap k : Nat} {l : List Hx} (h : RowX 87 3 Hx.cells w g cap l l.length) (hc : l.length <= cap) (hN : Below w.heap.size w W) : ∀ j u, (flatX Hx.cells (l.drop k))[j]? = some u -> W.cell? ((⟨g, k * 3, none⟩ : Addr).add j) = some u :=
 xs_flat Hx.cells_length (by decide) (fun i hi => by
  rw [List.getElem_drop]; have := (h.xs' Hx.cells_length (Nat.le_refl _) hc (k + i) (by simp at hi; omega)).later hN
  rwa [Nat.zero_add, Nat.add_mul] at this)
theorem l6Put_any (b : Bk) (y : Hx) (z : Nat) (w : World) (hO : OwnX 87 3 Hx.cells w z (.slice b.ha b.hl.length b.hc) b.hl) (hn : b.hl.length <= 64) :
 Calls Tryz.prog 45 #[b.val, y.val] w fun e w' => (∃ a' c', e = .returned (Bk.val ⟨b.now, b.fa, b.fl, b.fc, a', putL b.hl y, c'⟩) /\ OwnX 87 3 Hx.cells w' w.heap.size (.slice a' (putL b.hl y).length c') (putL b.hl y)) /\ Below w.heap.size w w' := by
 obtain ⟨j0, hih, hy0, hy1, hy2⟩ := info_parts Tryz.info87; have N1 : Below w.heap.size w (w.alloc b.obj) := balloc (Below.refl _ _) _; have A1 := World.alloc_heap_new w b.obj; obtain ⟨U1, hU1⟩ : ∃ U, w.alloc b.obj = U := ⟨_, rfl⟩; have z1 : U1.heap.size = w.heap.size + 1 := by rw [← hU1]; simp
 rw [hU1] at N1 A1; have M2 : Below U1.heap.size U1 (U1.alloc (.cells #[.string y.n, .slice y.ta y.tl.length y.tc, .slice y.na y.nl.length y.nc] 87)) := balloc (Below.refl _ _) _; have X2 := World.alloc_heap_new U1 (.cells #[.string y.n, .slice y.ta y.tl.length y.tc, .slice y.na y.nl.length y.nc] 87); obtain ⟨U2, hU2⟩ : ∃ U, U1.alloc (.cells #[.string y.n, .slice y.ta y.tl.length y.tc, .slice y.na y.nl.length y.nc] 87) = U := ⟨_, rfl⟩; have z2 : U2.heap.size = w.heap.size + 2 := by rw [← hU2]; simp [z1]
 rw [hU2] at M2 X2; have M3 : Below U2.heap.size U2 (U2.alloc (.cells #[.int .i64 0, .slice none 0 0, .slice none 0 0] 35)) := balloc (Below.refl _ _) _; have R3 := World.alloc_heap_new U2 (.cells #[.int .i64 0, .slice none 0 0, .slice none 0 0] 35); obtain ⟨U3, hU3⟩ : ∃ U, U2.alloc (.cells #[.int .i64 0, .slice none 0 0, .slice none 0 0] 35) = U := ⟨_, rfl⟩; rw [hU3] at M3 R3; have N3 : Below w.heap.size w U3 := bstep (bstep N1 M2) M3; have HA3 : Hid _ := blk (blk A1 M2) M3; have HY3 : Hid (U3.heap[w.heap.size + 1]? = some (.cells #[.string y.n, .slice y.ta y.tl.length y.tc, .slice y.na y.nl.length y.nc] 87)) := by rw [Hid, ← z1]; exact blk X2 M3
 have HR3 : Hid (U3.heap[w.heap.size + 2]? = some (.cells #[.int .i64 0, .slice none 0 0, .slice none 0 0] 35)) := by rw [Hid, ← z2]; exact R3
 clear N1 M2 M3 A1 X2 R3
 go_enter Tryz.func45, Tryz.ntmps45
 go_wp2_with fail
 clear hU1 hU2 hU3
 go_loopw [5] (fun iv wr => ∃ k : Nat, k <= b.hl.length /\ iv = .int .i64 (k : Int) /\ Below U3.heap.size U3 wr /\ Hid (∀ j (h : j < b.hl.length), j < k -> ltB b.hl[j].n y.n = true)) (fun iv _ => b.hl.length - (intOf iv).toNat)
 case atStart => exact ⟨0, Nat.zero_le _, rfl, Below.refl _ _, fun j h hj => by omega⟩
 case round =>
  obtain ⟨k, hk, rfl, hB, hlo⟩ := hrel; have hN := bstep N3 hB; have Ar := blk HA3.out hB; have Yr := blk HY3.out hB; have Rr := blk HR3.out hB
  by_cases hlt : k < b.hl.length
  · obtain ⟨g, ha, hrow⟩ : ∃ g, b.ha = some ⟨g, 0, none⟩ /\ b.hl.length <= b.hc /\ RowX 87 3 Hx.cells w g b.hc b.hl b.hl.length := by
     rcases hO with ⟨_, e⟩ | ⟨g, cap, e, _, h2, h3⟩
     · rw [e] at hlt; simp at hlt
     · simp only [Value.slice.injEq] at e
       obtain ⟨e1, _, rfl⟩ := e; exact ⟨g, e1, h2, h3⟩
    obtain ⟨hcap, hrow⟩ := hrow; have HHa : Hid (b.ha = some ⟨g, 0, none⟩) := ha; have HRow : Hid (RowX 87 3 Hx.cells w g b.hc b.hl b.hl.length) := hrow; obtain ⟨c0, _, _⟩ := hx_at (hrow.xs' Hx.cells_length (Nat.le_refl _) hcap k hlt); rw [Nat.zero_add] at c0; have c0 := (hN.cell (cell_lt c0)).trans c0; have a2 : wr.cell? ⟨w.heap.size, 2, none⟩ = some (.slice b.ha b.hl.length b.hc) := objc Ar rfl; have y0 : wr.cell? ⟨w.heap.size + 1, 0, none⟩ = some (.string y.n) := objc Yr rfl; rw [ha] at a2; obtain ⟨x, hx⟩ : ∃ x, x = b.hl[k] := ⟨_, rfl⟩; rw [← hx] at c0; have HXk : Hid (x = b.hl[k]) := hx; have HAr : Hid (wr.heap[w.heap.size]? = _) := Ar; have HYr : Hid (wr.heap[w.heap.size + 1]? = _) := Yr; have HRr : Hid (wr.heap[w.heap.size + 2]? = _) := Rr; clear hx ha hrow hO Ar Yr Rr
    cases hq : ltB x.n y.n with
    | true =>
     have HLo : Hid (∀ j (h : j < b.hl.length), j < k + 1 -> ltB b.hl[j].n y.n = true) := fun j h hj => by
      by_cases e : j = k
      · subst e; rw [← HXk.out]; exact hq
      · exact hlo.out j h (by omega)
     clear hlo; unfold ltB at hq; go_wp2_with fail
     go_quiet (fail)
     go_wp2
     go_roundw
     case rel => exact ⟨k + 1, by omega, by go_num, (below_drewN hB _), HLo⟩
     case measure => simp [intOf]; omega
    | false =>
     have HPut : Hid (putL b.hl y = b.hl.take k ++ y :: b.hl.drop k) := by
      have : putI b.hl y.n = k := putI_of hk hlo.out (fun h => by have e := HXk.out; rw [← e]; exact hq)
      show putL b.hl y = _
      unfold putL; rw [this]
     have hkc : k < b.hc := by omega
     clear hlo; unfold ltB at hq; go_wp2_with fail
     go_quiet (fail)
     go_wp2_with fail
     clear c0 a2 y0 hq; obtain ⟨wq, hwq⟩ : ∃ q, wr.drewN nq = q := ⟨_, rfl⟩; have hN : Below w.heap.size w wq := by rw [← hwq]; exact bstep hN (bdrew wr nq)
     have Ar : wq.heap[w.heap.size]? = some (.cells #[.int .i64 b.now, .slice b.fa b.fl.length b.fc, .slice (some ⟨g, 0, none⟩) b.hl.length b.hc] 35) := by
      have h := HAr.out; unfold Bk.obj at h; rw [HHa.out] at h; rw [← hwq]; exact blk h (bdrew wr nq)
     have Yr : wq.heap[w.heap.size + 1]? = some (.cells #[.string y.n, .slice y.ta y.tl.length y.tc, .slice y.na y.nl.length y.nc] 87) := by rw [← hwq]; exact blk HYr.out (bdrew wr nq)
     have Rr : wq.heap[w.heap.size + 2]? = some (.cells #[.int .i64 0, .slice none 0 0, .slice none 0 0] 35) := by rw [← hwq]; exact blk HRr.out (bdrew wr nq)
     rw [hwq]; clear hwq; obtain ⟨wr, hwr⟩ : ∃ q, wq = q := ⟨_, rfl⟩; rw [hwr] at hN Ar Yr Rr ⊢; clear hwr; have HPI : Hid (putL b.hl y = b.hl.take k ++ y :: b.hl.drop k) := HPut.out; have Nd : Below w.heap.size w wr.drew := hN.drew; obtain ⟨Wd, hWd⟩ : ∃ Wd, wr.drew = Wd := ⟨_, rfl⟩; have a2 : Wd.cell? ⟨w.heap.size, 2, none⟩ = some (.slice (some ⟨g, 0, none⟩) b.hl.length b.hc) := by rw [← hWd]; exact objc (w := wr.drew) Ar rfl
     have y0 : Wd.cell? ⟨w.heap.size + 1, 0, none⟩ = some (.string y.n) := by rw [← hWd]; exact objc (w := wr.drew) Yr rfl
     have y1 : Wd.cell? ⟨w.heap.size + 1, 1, none⟩ = some (.slice y.ta y.tl.length y.tc) := by rw [← hWd]; exact objc (w := wr.drew) Yr rfl
     have y2 : Wd.cell? ⟨w.heap.size + 1, 2, none⟩ = some (.slice y.na y.nl.length y.nc) := by rw [← hWd]; exact objc (w := wr.drew) Yr rfl
     have HA2 : Hid (Wd.heap[w.heap.size]? = some (.cells #[.int .i64 b.now, .slice b.fa b.fl.length b.fc, .slice (some ⟨g, 0, none⟩) b.hl.length b.hc] 35)) := by rw [Hid, ← hWd]; exact Ar
     have HR2 : Hid (Wd.heap[w.heap.size + 2]? = some (.cells #[.int .i64 0, .slice none 0 0, .slice none 0 0] 35)) := by rw [Hid, ← hWd]; exact Rr
     rw [hWd] at Nd; have hsd := Nd.size; have hAw : w.heap.size + 2 < Wd.heap.size := (alt HR2.out); have HT5 : Hid (∀ w', Below Wd.heap.size Wd w' -> ∀ j u, (flatX Hx.cells (b.hl.take k))[j]? = some u -> w'.cell? ((⟨g, 0, none⟩ : Addr).add j) = some u) := fun w' h => row_take HRow.out hcap (bstep Nd h); have HD5 : Hid (∀ w', Below Wd.heap.size Wd w' -> ∀ j u, (flatX Hx.cells (b.hl.drop k))[j]? = some u -> w'.cell? ((⟨g, k * 3, none⟩ : Addr).add j) = some u) := fun w' h => row_drop HRow.out hcap (bstep Nd h); clear Ar Yr Rr hN; go_wp2_with fail
     refine wpIn_wide.1 (wpIn_region_sets (F := Fence.wide) (n := 0) (by kernel_rfl) [some 24, some 25, some 26, some 27, some 28, some 29, some 30, some 31, some 32, some 33, some 34, some 35, some 36, some 37, some 38] (K6 Wd w.heap.size k b.hl y (.slice (some ⟨g, 0, none⟩) b.hl.length b.hc) (.slice (some ⟨g, 0, none⟩) k b.hc) (.slice (some ⟨g, k * 3, none⟩) (b.hl.length - k) (b.hc - k))) (by kernel_rfl) ?h0 K6.ext ?step ?fin)
     case h0 =>
      exact ⟨fun h => h.elim, fun h => h.elim, fun h => h.elim, fun h => h.elim, fun h => h.elim, fun h => h.elim, fun h => h.elim, fun h => h.elim, fun h => h.elim, fun h => h.elim, fun h => h.elim, fun h => h.elim, fun h => h.elim, fun h => h.elim, fun h => h.elim, fun h => h.elim, fun _ => by rw [hWd]; exact Below.refl _ _⟩
     case step =>
      intro L ii o vs w' ho hnl hde hcl hK; have hi : ii < 16 := (List.getElem?_eq_some_iff.1 ho).1; have HK : Hid (K6 Wd w.heap.size k b.hl y (.slice (some ⟨g, 0, none⟩) b.hl.length b.hc) (.slice (some ⟨g, 0, none⟩) k b.hc) (.slice (some ⟨g, k * 3, none⟩) (b.hl.length - k) (b.hc - k)) L vs w') := hK; clear hK
      match ii, hi with
      | 0, _ =>
       simp at ho; subst ho; have h15 : ¬ L 15 := fun h => hnl (hcl 15 _ h rfl (eP 0) (by simp) rfl); have hbw := HK.out.bw h15; have hb1 : Below w'.heap.size w' (w'.alloc (.cells #[] 87)) := balloc (Below.refl _ _) _; have HQ : Hid _ := (HK.out.later h15 hb1).add0 ⟨w'.heap.size, rfl, hbw.size, World.alloc_heap_new w' _⟩; clear hb1; simp only [putD, Act.put]; gi_wp2; exact ⟨_, by simp [upd], HQ.out⟩
      | 1, _ =>
       simp at ho; subst ho; have h15 : ¬ L 15 := fun h => hnl (hcl 15 _ h rfl (eP 1) (by simp) rfl); have hbw := HK.out.bw h15; simp only [putD, Act.put]; gi_wp2; exact ⟨.pointer (some ⟨w.heap.size, 2, none⟩), by simp [upd], HK.out.add1 rfl⟩
      | 2, _ =>
       simp at ho; subst ho; have h15 : ¬ L 15 := fun h => hnl (hcl 15 _ h rfl (eP 2) (by simp) rfl); have hbw := HK.out.bw h15; have d1 := HK.out.v1 (hde (eD 1) (by simp) rfl); have k2 := (hbw.cell (cell_lt a2)).trans a2; simp only [putD, Act.put]; rw [d1]; gi_wp2; exact ⟨.slice (some ⟨g, 0, none⟩) b.hl.length b.hc, by simp [upd, d1], HK.out.add2 rfl⟩
      | 3, _ =>
       simp at ho; subst ho; have h15 : ¬ L 15 := fun h => hnl (hcl 15 _ h rfl (eP 3) (by simp) rfl); have hbw := HK.out.bw h15; simp only [putD, Act.put]; gi_wp2; exact ⟨.int .i64 ((k : Nat) : Int), by simp [upd], HK.out.add3 rfl⟩
      | 4, _ =>
       simp at ho; subst ho; have h15 : ¬ L 15 := fun h => hnl (hcl 15 _ h rfl (eP 4) (by simp) rfl); have hbw := HK.out.bw h15; have d2 := HK.out.v2 (hde (eD 2) (by simp) rfl); have d3 := HK.out.v3 (hde (eD 3) (by simp) rfl); simp only [putD, Act.put]; rw [d2, d3]; gi_wp2; exact ⟨.slice (some ⟨g, 0, none⟩) k b.hc, by simp [upd, d2, d3], HK.out.add4 rfl⟩
      | 5, _ =>
       simp at ho; subst ho; have h15 : ¬ L 15 := fun h => hnl (hcl 15 _ h rfl (eP 5) (by simp) rfl); have hbw := HK.out.bw h15; have d4 := HK.out.v4 (hde (eD 4) (by simp) rfl); obtain ⟨p, d0, hp1, hp2⟩ := HK.out.v0 (hde (eD 0) (by simp) rfl); have hp := hp2 hnl; simp only [putD, Act.put, List.setIfInBounds_toArray, List.set_cons_succ, List.set_cons_zero]; rw [d0, d4]; refine wpListIn_append0 w' rfl (.tmp 24) (.tmp 28) 33 rfl 87 j0 _ 3 64 Tryz.underlying33 hih hy0 hy1 hy2 rfl (by decide) p rfl hp (some ⟨g, 0, none⟩) k b.hc (flatX Hx.cells (b.hl.take k)) rfl (fun e => by cases e) (by rw [flatX_length Hx.cells_length, List.length_take]; congr 1; omega) (fun ad e j u hj => by cases e; exact HT5.out w' hbw j u hj) (flatX_one' hx_one _) (by unfold maxLen; omega) (by omega) Wd.heap.size hp1 (fun v' w2 hown hb2 => ?_); have HQ : Hid _ := (HK.out.later h15 hb2).add5 hown; clear hown hb2 hp hp2; gi_wp2; exact ⟨_, by simp [upd, d0, d4], HQ.out⟩
      | 6, _ =>
       simp at ho; subst ho; have h15 : ¬ L 15 := fun h => hnl (hcl 15 _ h rfl (eP 6) (by simp) rfl); have hbw := HK.out.bw h15; have k0 := (hbw.cell (cell_lt y0)).trans y0; have k1 := (hbw.cell (cell_lt y1)).trans y1; have k2 := (hbw.cell (cell_lt y2)).trans y2; simp only [putD, Act.put]; gi_wp2; exact ⟨y.val, by simp [upd], HK.out.add6 rfl⟩
      | 7, _ =>
       simp at ho; subst ho; have h15 : ¬ L 15 := fun h => hnl (hcl 15 _ h rfl (eP 7) (by simp) rfl); have hbw := HK.out.bw h15; have d6 := HK.out.v6 (hde (eD 6) (by simp) rfl); have hb1 : Below w'.heap.size w' (w'.alloc (.cells #[.string y.n, .slice y.ta y.tl.length y.tc, .slice y.na y.nl.length y.nc] 87)) := balloc (Below.refl _ _) _; have HQ : Hid _ := (HK.out.later h15 hb1).add7 ⟨w'.heap.size, rfl, World.alloc_heap_new w' _⟩; clear hb1; simp only [putD, Act.put]; rw [d6]; gi_wp2; exact ⟨_, by simp [upd, d6], HQ.out⟩
      | 8, _ =>
       simp at ho; subst ho; have h15 : ¬ L 15 := fun h => hnl (hcl 15 _ h rfl (eP 8) (by simp) rfl); have hbw := HK.out.bw h15; have h5 : L 5 := hde (eD 5) (by simp) rfl; have h13 : ¬ L 13 := fun h => hnl (hcl 13 _ h rfl (eD 8) (by simp) rfl); have ho5 := HK.out.v5 h5 hnl; obtain ⟨V, d7, hV2⟩ := HK.out.v7 (hde (eD 7) (by simp) rfl); have hV := hV2 hnl; obtain ⟨u5, e5⟩ : ∃ u, vs 5 = u := ⟨_, rfl⟩; rw [e5] at ho5; simp only [putD, Act.put, List.setIfInBounds_toArray, List.set_cons_succ, List.set_cons_zero]; rw [d7, e5]
       refine wpListIn_append_own w' rfl (.tmp 29) (.tmp 31) 33 rfl Wd.heap.size 87 j0 _ 3 64 Tryz.underlying33 hih hy0 hy1 hy2 rfl (by decide) u5 k (flatX Hx.cells (b.hl.take k)) rfl ho5 ⟨V, 0, none⟩ 1 1 y.cells rfl rfl (fun j u hj => by
        rw [Addr.add_lit, Nat.zero_add]
        match j, hj with
        | 0, hj => simp [Hx.cells] at hj; subst hj; exact objc hV rfl
        | 1, hj => simp [Hx.cells] at hj; subst hj; exact objc hV rfl
        | 2, hj => simp [Hx.cells] at hj; subst hj; exact objc hV rfl) (hx_one y) (by unfold maxLen; omega) (by omega) hbw.size (fun v' w2 hown hgr _ => ?_)
       have hb2 : Below Wd.heap.size Wd w2 := hbw.grown hgr hbw.size (fun q hq => own_ge ho5 hq); have HQ : Hid _ := HK.out.add8 h5 h13 h15 hown hb2; clear hown hgr ho5 hV hV2; gi_wp2; exact ⟨_, by simp [upd, d7, e5], HQ.out⟩
      | 9, _ =>
       simp at ho; subst ho; have h15 : ¬ L 15 := fun h => hnl (hcl 15 _ h rfl (eP 9) (by simp) rfl); have hbw := HK.out.bw h15; simp only [putD, Act.put]; gi_wp2; exact ⟨.pointer (some ⟨w.heap.size, 2, none⟩), by simp [upd], HK.out.add9 rfl⟩
      | 10, _ =>
       simp at ho; subst ho; have h15 : ¬ L 15 := fun h => hnl (hcl 15 _ h rfl (eP 10) (by simp) rfl); have hbw := HK.out.bw h15; have d9 := HK.out.v9 (hde (eD 9) (by simp) rfl); have k2 := (hbw.cell (cell_lt a2)).trans a2; simp only [putD, Act.put]; rw [d9]; gi_wp2; exact ⟨.slice (some ⟨g, 0, none⟩) b.hl.length b.hc, by simp [upd, d9], HK.out.add10 rfl⟩
      | 11, _ =>
       simp at ho; subst ho; have h15 : ¬ L 15 := fun h => hnl (hcl 15 _ h rfl (eP 11) (by simp) rfl); have hbw := HK.out.bw h15; simp only [putD, Act.put]; gi_wp2; exact ⟨.int .i64 ((k : Nat) : Int), by simp [upd], HK.out.add11 rfl⟩
      | 12, _ =>
       simp at ho; subst ho; have h15 : ¬ L 15 := fun h => hnl (hcl 15 _ h rfl (eP 12) (by simp) rfl); have hbw := HK.out.bw h15; have d10 := HK.out.v10 (hde (eD 10) (by simp) rfl); have d11 := HK.out.v11 (hde (eD 11) (by simp) rfl); simp only [putD, Act.put]; rw [d10, d11]; gi_wp2; exact ⟨.slice (some ⟨g, k * 3, none⟩) (b.hl.length - k) (b.hc - k), by simp [upd, d10, d11], HK.out.add12 rfl⟩
      | 13, _ =>
       simp at ho; subst ho; have h15 : ¬ L 15 := fun h => hnl (hcl 15 _ h rfl (eP 13) (by simp) rfl); have hbw := HK.out.bw h15; have d12 := HK.out.v12 (hde (eD 12) (by simp) rfl); have h8 : L 8 := hde (eD 8) (by simp) rfl; have h5 : L 5 := hcl 8 _ h8 rfl (eD 5) (by simp) rfl; have ho8 := HK.out.v8 h8 hnl; obtain ⟨u8, e8⟩ : ∃ u, vs 8 = u := ⟨_, rfl⟩; rw [e8] at ho8; simp only [putD, Act.put, List.setIfInBounds_toArray, List.set_cons_succ, List.set_cons_zero]; rw [d12, e8]; refine wpListIn_append_own w' rfl (.tmp 32) (.tmp 36) 33 rfl Wd.heap.size 87 j0 _ 3 64 Tryz.underlying33 hih hy0 hy1 hy2 rfl (by decide) u8 (k + 1) (flatX Hx.cells (b.hl.take k) ++ y.cells) rfl ho8 ⟨g, k * 3, none⟩ (b.hl.length - k) (b.hc - k) (flatX Hx.cells (b.hl.drop k)) rfl (by rw [flatX_length Hx.cells_length, List.length_drop]) (fun j u hj => HD5.out w' hbw j u hj) (flatX_one' hx_one _) (by unfold maxLen; omega) (by omega) hbw.size (fun v' w2 hown hgr _ => ?_); have hb2 : Below Wd.heap.size Wd w2 := hbw.grown hgr hbw.size (fun q hq => own_ge ho8 hq); have hown2 : w2.ownsRow Wd.heap.size 87 3 v' (b.hl.length + 1) (flatX Hx.cells (b.hl.take k) ++ y.cells ++ flatX Hx.cells (b.hl.drop k)) := by rw [show b.hl.length + 1 = k + 1 + (b.hl.length - k) by omega]; exact hown
       have HQ : Hid _ := HK.out.add13 h5 h8 h15 hown2 hb2; clear hown hown2 hgr ho8; gi_wp2; exact ⟨_, by simp [upd, d12, e8], HQ.out⟩
      | 14, _ =>
       simp at ho; subst ho; have h15 : ¬ L 15 := fun h => hnl (hcl 15 _ h rfl (eD 14) (by simp) rfl); have hbw := HK.out.bw h15; simp only [putD, Act.put]; gi_wp2; exact ⟨.pointer (some ⟨w.heap.size, 2, none⟩), by simp [upd], HK.out.add14 rfl⟩
      | 15, _ =>
       simp at ho; subst ho; have d14 := HK.out.v14 (hde (eD 14) (by simp) rfl); have hbw := HK.out.bw hnl; have h13 : L 13 := hde (eD 13) (by simp) rfl; have h8 : L 8 := hcl 13 _ h13 rfl (eD 8) (by simp) rfl; have h5 : L 5 := hcl 8 _ h8 rfl (eD 5) (by simp) rfl; have ho13 := HK.out.v13 h13 hnl
       obtain ⟨a8, c8, e13⟩ : ∃ a c, vs 13 = .slice a (b.hl.length + 1) c := by
        obtain ⟨_, ⟨_, e⟩ | ⟨g8, cap8, _, e, _⟩⟩ := ho13
        · omega
        · exact ⟨_, _, e⟩
       have k2 := (hbw.cell (cell_lt a2)).trans a2; have kf : ∀ i, w'.frozen? ⟨w.heap.size, i, none⟩ = false := fun i => by simp [World.frozen?, blk HA2.out hbw]
       have HQ : Hid _ := HK.out.add15 (v := undef) h5 h8 h13 hnl; rw [e13] at HQ; simp only [putD, Act.put]; rw [d14, e13]; clear ho13; gi_wp2_with fail
       exact ⟨undef, by simp [upd, d14, e13], by have h := HQ.out; simpa using h⟩
      | q + 16, h => exact absurd h (by omega)
     case fin =>
      intro L vs w' hL6 hK; obtain ⟨w9, hb9, ho9, hw9⟩ := hK.w15 (hL6 15 (by decide))
      have hX9 : OwnX 87 3 Hx.cells w9 Wd.heap.size (vs 13) (b.hl.take k ++ y :: b.hl.drop k) := own_rowX Hx.cells_length (by
       rw [show (b.hl.take k ++ y :: b.hl.drop k).length = b.hl.length + 1 by simp; omega]; have e : flatX Hx.cells (b.hl.take k ++ y :: b.hl.drop k) = flatX Hx.cells (b.hl.take k) ++ y.cells ++ flatX Hx.cells (b.hl.drop k) := by simp [flatX]
       rw [e]; exact ho9)
      obtain ⟨a', c', e13⟩ := hX9.slice; rw [e13] at hX9 hw9; rw [hw9]; clear hw9 ho9 hL6 hK; simp only [putD, Act.put]; generalize vs 0 = u0; generalize vs 1 = u1; generalize vs 2 = u2; generalize vs 3 = u3; generalize vs 4 = u4; generalize vs 5 = u5; generalize vs 6 = u6; generalize vs 7 = u7; generalize vs 8 = u8; generalize vs 9 = u9; generalize vs 10 = u10; generalize vs 11 = u11; generalize vs 12 = u12; generalize vs 13 = u13; generalize vs 14 = u14; have hlen : (b.hl.take k ++ y :: b.hl.drop k).length = (b.hl.take k ++ y :: b.hl.drop k).length := rfl; have A9 := obj_set (blk HA2.out hb9) 2 (.slice a' (b.hl.take k ++ y :: b.hl.drop k).length c'); have bA : But (fun q => q = w.heap.size) w9 (w9.setCell ⟨w.heap.size, 2, none⟩ (.slice a' (b.hl.take k ++ y :: b.hl.drop k).length c')) := (But.refl (fun q => q = w.heap.size) w9).set (g := w.heap.size) rfl _ _; have R9 := blk_but (blk HR2.out hb9) bA (by show ¬ (w.heap.size + 2 = w.heap.size); omega); have N9 := bA.under (bstep Nd hb9) (Nat.le_refl _) (fun q hq => by have hq' : q = w.heap.size := hq; omega); have X9 := hX9.butRow bA (fun q n f hq _ e => by have e' : q = w.heap.size := e; omega); obtain ⟨Wf, hWf⟩ : ∃ Wf, w9.setCell ⟨w.heap.size, 2, none⟩ (.slice a' (b.hl.take k ++ y :: b.hl.drop k).length c') = Wf := ⟨_, rfl⟩; rw [hWf] at A9 R9 N9 X9 ⊢; obtain ⟨e0, e1, e2⟩ := cells3 A9; obtain ⟨r0, r1, r2⟩ := cells3 R9; have rf : ∀ i, Wf.frozen? ⟨w.heap.size + 2, i, none⟩ = false := fun i => by simp [World.frozen?, R9]
      have hsf := hb9.size; have HX : Hid (OwnX 87 3 Hx.cells Wf Wd.heap.size (.slice a' (b.hl.take k ++ y :: b.hl.drop k).length c') (b.hl.take k ++ y :: b.hl.drop k)) := X9; obtain ⟨lq, hlq⟩ : ∃ lq, (b.hl.take k ++ y :: b.hl.drop k).length = lq := ⟨_, rfl⟩; have HLq : Hid ((b.hl.take k ++ y :: b.hl.drop k).length = lq) := hlq; rw [hlq] at e2; clear A9 R9 bA hX9 X9 hb9 hWf hlen hlq; go_wp2_with fail
      have hS : But (fun q => q = w.heap.size + 2) Wf (((Wf.setCell ⟨w.heap.size + 2, 0, none⟩ (.int .i64 b.now)).setCell ⟨w.heap.size + 2, 1, none⟩ (.slice b.fa b.fl.length b.fc)).setCell ⟨w.heap.size + 2, 2, none⟩ (.slice a' lq c')) := (((But.refl (fun q => q = w.heap.size + 2) Wf).set (g := w.heap.size + 2) rfl _ _).set (g := w.heap.size + 2) rfl _ _).set (g := w.heap.size + 2) rfl _ _; exact bodyPost_ret (v := Bk.val ⟨b.now, b.fa, b.fl, b.fc, a', b.hl.take k ++ y :: b.hl.drop k, c'⟩) (by simp only [Bk.val, HLq.out]; simp [results, Tryz.results45, go_sem, r0, r1, r2]) rfl ⟨⟨a', c', by rw [HPI.out], by rw [HPI.out]; exact (HX.out.butRow hS (fun q n f hq _ e => by have e' : q = w.heap.size + 2 := e; omega)).weak (by omega)⟩, hS.under N9 (Nat.le_refl _) (fun q hq => by have hq' : q = w.heap.size + 2 := hq; omega)⟩
  · have HKn : Hid (k = b.hl.length) := by show k = b.hl.length; omega
    have HPut : Hid (putL b.hl y = b.hl.take k ++ y :: b.hl.drop k) := by
     have : putI b.hl y.n = k := putI_of hk hlo.out (fun h => absurd h hlt)
     show putL b.hl y = _
     unfold putL; rw [this]
    have HAr : Hid (wr.heap[w.heap.size]? = _) := Ar; have HYr : Hid (wr.heap[w.heap.size + 1]? = _) := Yr; have HRr : Hid (wr.heap[w.heap.size + 2]? = _) := Rr; have a2 : wr.cell? ⟨w.heap.size, 2, none⟩ = some (.slice b.ha b.hl.length b.hc) := objc Ar rfl; clear Ar Yr Rr hlo
    rcases hO with ⟨e, hl0⟩ | ⟨g, cap, e, _, hcap, hrow⟩
    · simp only [Value.slice.injEq] at e
      obtain ⟨e1, e2, e3⟩ := e; have HHa : Hid (b.ha = none) := e1; have HHl : Hid (b.hl.length = 0) := e2; have HHc : Hid (b.hc = 0) := e3; have HL0 : Hid (b.hl = []) := hl0; obtain rfl : k = 0 := by have := HKn.out; omega
      rw [e1, e2, e3] at a2; rw [hl0] at HPut; clear e1 e2 e3 hl0; go_wp2_with fail
      go_quiet (fail)
      go_wp2_with fail
      clear a2; obtain ⟨wq, hwq⟩ : ∃ q, wr.drewN nq = q := ⟨_, rfl⟩; have hN : Below w.heap.size w wq := by rw [← hwq]; exact bstep hN (bdrew wr nq)
      have Ar : wq.heap[w.heap.size]? = some (.cells #[.int .i64 b.now, .slice b.fa b.fl.length b.fc, .slice none 0 0] 35) := by
       have h := HAr.out; unfold Bk.obj at h; rw [HHa.out, HHl.out, HHc.out] at h; rw [← hwq]; exact blk h (bdrew wr nq)
      have Yr : wq.heap[w.heap.size + 1]? = some (.cells #[.string y.n, .slice y.ta y.tl.length y.tc, .slice y.na y.nl.length y.nc] 87) := by rw [← hwq]; exact blk HYr.out (bdrew wr nq)
      have Rr : wq.heap[w.heap.size + 2]? = some (.cells #[.int .i64 0, .slice none 0 0, .slice none 0 0] 35) := by rw [← hwq]; exact blk HRr.out (bdrew wr nq)
      rw [hwq]; clear hwq; obtain ⟨wr, hwr⟩ : ∃ q, wq = q := ⟨_, rfl⟩; rw [hwr] at hN Ar Yr Rr ⊢; clear hwr; have HPI : Hid (putL b.hl y = ([] : List Hx).take 0 ++ y :: ([] : List Hx).drop 0) := (by show putL b.hl y = _; rw [HL0.out]; exact HPut.out); have Nd : Below w.heap.size w wr.drew := hN.drew; obtain ⟨Wd, hWd⟩ : ∃ Wd, wr.drew = Wd := ⟨_, rfl⟩; have a2 : Wd.cell? ⟨w.heap.size, 2, none⟩ = some (.slice none 0 0) := by rw [← hWd]; exact objc (w := wr.drew) Ar rfl
      have y0 : Wd.cell? ⟨w.heap.size + 1, 0, none⟩ = some (.string y.n) := by rw [← hWd]; exact objc (w := wr.drew) Yr rfl
      have y1 : Wd.cell? ⟨w.heap.size + 1, 1, none⟩ = some (.slice y.ta y.tl.length y.tc) := by rw [← hWd]; exact objc (w := wr.drew) Yr rfl
      have y2 : Wd.cell? ⟨w.heap.size + 1, 2, none⟩ = some (.slice y.na y.nl.length y.nc) := by rw [← hWd]; exact objc (w := wr.drew) Yr rfl
      have HA2 : Hid (Wd.heap[w.heap.size]? = some (.cells #[.int .i64 b.now, .slice b.fa b.fl.length b.fc, .slice none 0 0] 35)) := by rw [Hid, ← hWd]; exact Ar
      have HR2 : Hid (Wd.heap[w.heap.size + 2]? = some (.cells #[.int .i64 0, .slice none 0 0, .slice none 0 0] 35)) := by rw [Hid, ← hWd]; exact Rr
      rw [hWd] at Nd; have hsd := Nd.size; have hAw : w.heap.size + 2 < Wd.heap.size := (alt HR2.out); clear Ar Yr Rr hN; go_wp2_with fail
      refine wpIn_wide.1 (wpIn_region_sets (F := Fence.wide) (n := 0) (by kernel_rfl) [some 24, some 25, some 26, some 27, some 28, some 29, some 30, some 31, some 32, some 33, some 34, some 35, some 36, some 37, some 38] (K6 Wd w.heap.size 0 ([] : List Hx) y (.slice none 0 0) (.slice none 0 0) (.slice none 0 0)) (by kernel_rfl) ?h0 K6.ext ?step ?fin)
      case h0 =>
       exact ⟨fun h => h.elim, fun h => h.elim, fun h => h.elim, fun h => h.elim, fun h => h.elim, fun h => h.elim, fun h => h.elim, fun h => h.elim, fun h => h.elim, fun h => h.elim, fun h => h.elim, fun h => h.elim, fun h => h.elim, fun h => h.elim, fun h => h.elim, fun h => h.elim, fun _ => by rw [hWd]; exact Below.refl _ _⟩
      case step =>
       intro L ii o vs w' ho hnl hde hcl hK; have hi : ii < 16 := (List.getElem?_eq_some_iff.1 ho).1; have HK : Hid (K6 Wd w.heap.size 0 ([] : List Hx) y (.slice none 0 0) (.slice none 0 0) (.slice none 0 0) L vs w') := hK; clear hK
       match ii, hi with
       | 0, _ =>
        simp at ho; subst ho; have h15 : ¬ L 15 := fun h => hnl (hcl 15 _ h rfl (eP 0) (by simp) rfl); have hbw := HK.out.bw h15; have hb1 : Below w'.heap.size w' (w'.alloc (.cells #[] 87)) := balloc (Below.refl _ _) _; have HQ : Hid _ := (HK.out.later h15 hb1).add0 ⟨w'.heap.size, rfl, hbw.size, World.alloc_heap_new w' _⟩; clear hb1; simp only [putD, Act.put]; gi_wp2; exact ⟨_, by simp [upd], HQ.out⟩
       | 1, _ =>
        simp at ho; subst ho; have h15 : ¬ L 15 := fun h => hnl (hcl 15 _ h rfl (eP 1) (by simp) rfl); have hbw := HK.out.bw h15; simp only [putD, Act.put]; gi_wp2; exact ⟨.pointer (some ⟨w.heap.size, 2, none⟩), by simp [upd], HK.out.add1 rfl⟩
       | 2, _ =>
        simp at ho; subst ho; have h15 : ¬ L 15 := fun h => hnl (hcl 15 _ h rfl (eP 2) (by simp) rfl); have hbw := HK.out.bw h15; have d1 := HK.out.v1 (hde (eD 1) (by simp) rfl); have k2 := (hbw.cell (cell_lt a2)).trans a2; simp only [putD, Act.put]; rw [d1]; gi_wp2; exact ⟨.slice none 0 0, by simp [upd, d1], HK.out.add2 rfl⟩
       | 3, _ =>
        simp at ho; subst ho; have h15 : ¬ L 15 := fun h => hnl (hcl 15 _ h rfl (eP 3) (by simp) rfl); have hbw := HK.out.bw h15; simp only [putD, Act.put]; gi_wp2; exact ⟨.int .i64 ((0 : Nat) : Int), by simp [upd], HK.out.add3 rfl⟩
       | 4, _ =>
        simp at ho; subst ho; have h15 : ¬ L 15 := fun h => hnl (hcl 15 _ h rfl (eP 4) (by simp) rfl); have hbw := HK.out.bw h15; have d2 := HK.out.v2 (hde (eD 2) (by simp) rfl); have d3 := HK.out.v3 (hde (eD 3) (by simp) rfl); simp only [putD, Act.put]; rw [d2, d3]; gi_wp2; exact ⟨.slice none 0 0, by simp [upd, d2, d3], HK.out.add4 rfl⟩
       | 5, _ =>
        simp at ho; subst ho; have h15 : ¬ L 15 := fun h => hnl (hcl 15 _ h rfl (eP 5) (by simp) rfl); have hbw := HK.out.bw h15; have d4 := HK.out.v4 (hde (eD 4) (by simp) rfl); obtain ⟨p, d0, hp1, hp2⟩ := HK.out.v0 (hde (eD 0) (by simp) rfl); have hp := hp2 hnl; simp only [putD, Act.put, List.setIfInBounds_toArray, List.set_cons_succ, List.set_cons_zero]; rw [d0, d4]; refine wpListIn_append0 w' rfl (.tmp 24) (.tmp 28) 33 rfl 87 j0 _ 3 64 Tryz.underlying33 hih hy0 hy1 hy2 rfl (by decide) p rfl hp none 0 0 (flatX Hx.cells (([] : List Hx).take 0)) rfl (fun _ => rfl) (by rw [flatX_length Hx.cells_length, List.length_take]; rfl) (fun ad e => by cases e) (flatX_one' hx_one _) (by unfold maxLen; omega) (by omega) Wd.heap.size hp1 (fun v' w2 hown hb2 => ?_); have HQ : Hid _ := (HK.out.later h15 hb2).add5 hown; clear hown hb2 hp hp2; gi_wp2; exact ⟨_, by simp [upd, d0, d4], HQ.out⟩
       | 6, _ =>
        simp at ho; subst ho; have h15 : ¬ L 15 := fun h => hnl (hcl 15 _ h rfl (eP 6) (by simp) rfl); have hbw := HK.out.bw h15; have k0 := (hbw.cell (cell_lt y0)).trans y0; have k1 := (hbw.cell (cell_lt y1)).trans y1; have k2 := (hbw.cell (cell_lt y2)).trans y2; simp only [putD, Act.put]; gi_wp2; exact ⟨y.val, by simp [upd], HK.out.add6 rfl⟩
       | 7, _ =>
        simp at ho; subst ho; have h15 : ¬ L 15 := fun h => hnl (hcl 15 _ h rfl (eP 7) (by simp) rfl); have hbw := HK.out.bw h15; have d6 := HK.out.v6 (hde (eD 6) (by simp) rfl); have hb1 : Below w'.heap.size w' (w'.alloc (.cells #[.string y.n, .slice y.ta y.tl.length y.tc, .slice y.na y.nl.length y.nc] 87)) := balloc (Below.refl _ _) _; have HQ : Hid _ := (HK.out.later h15 hb1).add7 ⟨w'.heap.size, rfl, World.alloc_heap_new w' _⟩; clear hb1; simp only [putD, Act.put]; rw [d6]; gi_wp2; exact ⟨_, by simp [upd, d6], HQ.out⟩
       | 8, _ =>
        simp at ho; subst ho; have h15 : ¬ L 15 := fun h => hnl (hcl 15 _ h rfl (eP 8) (by simp) rfl); have hbw := HK.out.bw h15; have h5 : L 5 := hde (eD 5) (by simp) rfl; have h13 : ¬ L 13 := fun h => hnl (hcl 13 _ h rfl (eD 8) (by simp) rfl); have ho5 := HK.out.v5 h5 hnl; obtain ⟨V, d7, hV2⟩ := HK.out.v7 (hde (eD 7) (by simp) rfl); have hV := hV2 hnl; obtain ⟨u5, e5⟩ : ∃ u, vs 5 = u := ⟨_, rfl⟩; rw [e5] at ho5; simp only [putD, Act.put, List.setIfInBounds_toArray, List.set_cons_succ, List.set_cons_zero]; rw [d7, e5]
        refine wpListIn_append_own w' rfl (.tmp 29) (.tmp 31) 33 rfl Wd.heap.size 87 j0 _ 3 64 Tryz.underlying33 hih hy0 hy1 hy2 rfl (by decide) u5 0 (flatX Hx.cells (([] : List Hx).take 0)) rfl ho5 ⟨V, 0, none⟩ 1 1 y.cells rfl rfl (fun j u hj => by
         rw [Addr.add_lit, Nat.zero_add]
         match j, hj with
         | 0, hj => simp [Hx.cells] at hj; subst hj; exact objc hV rfl
         | 1, hj => simp [Hx.cells] at hj; subst hj; exact objc hV rfl
         | 2, hj => simp [Hx.cells] at hj; subst hj; exact objc hV rfl) (hx_one y) (by unfold maxLen; omega) (by omega) hbw.size (fun v' w2 hown hgr _ => ?_)
        have hb2 : Below Wd.heap.size Wd w2 := hbw.grown hgr hbw.size (fun q hq => own_ge ho5 hq); have HQ : Hid _ := HK.out.add8 h5 h13 h15 hown hb2; clear hown hgr ho5 hV hV2; gi_wp2; exact ⟨_, by simp [upd, d7, e5], HQ.out⟩
       | 9, _ =>
        simp at ho; subst ho; have h15 : ¬ L 15 := fun h => hnl (hcl 15 _ h rfl (eP 9) (by simp) rfl); have hbw := HK.out.bw h15; simp only [putD, Act.put]; gi_wp2; exact ⟨.pointer (some ⟨w.heap.size, 2, none⟩), by simp [upd], HK.out.add9 rfl⟩
       | 10, _ =>
        simp at ho; subst ho; have h15 : ¬ L 15 := fun h => hnl (hcl 15 _ h rfl (eP 10) (by simp) rfl); have hbw := HK.out.bw h15; have d9 := HK.out.v9 (hde (eD 9) (by simp) rfl); have k2 := (hbw.cell (cell_lt a2)).trans a2; simp only [putD, Act.put]; rw [d9]; gi_wp2; exact ⟨.slice none 0 0, by simp [upd, d9], HK.out.add10 rfl⟩
       | 11, _ =>
        simp at ho; subst ho; have h15 : ¬ L 15 := fun h => hnl (hcl 15 _ h rfl (eP 11) (by simp) rfl); have hbw := HK.out.bw h15; simp only [putD, Act.put]; gi_wp2; exact ⟨.int .i64 ((0 : Nat) : Int), by simp [upd], HK.out.add11 rfl⟩
       | 12, _ =>
        simp at ho; subst ho; have h15 : ¬ L 15 := fun h => hnl (hcl 15 _ h rfl (eP 12) (by simp) rfl); have hbw := HK.out.bw h15; have d10 := HK.out.v10 (hde (eD 10) (by simp) rfl); have d11 := HK.out.v11 (hde (eD 11) (by simp) rfl); simp only [putD, Act.put]; rw [d10, d11]; gi_wp2; exact ⟨.slice none 0 0, by simp [upd, d10, d11], HK.out.add12 rfl⟩
       | 13, _ =>
        simp at ho; subst ho; have h15 : ¬ L 15 := fun h => hnl (hcl 15 _ h rfl (eP 13) (by simp) rfl); have hbw := HK.out.bw h15; have d12 := HK.out.v12 (hde (eD 12) (by simp) rfl); have h8 : L 8 := hde (eD 8) (by simp) rfl; have h5 : L 5 := hcl 8 _ h8 rfl (eD 5) (by simp) rfl; have ho8 := HK.out.v8 h8 hnl
        obtain ⟨g8, cap8, e8, hc8⟩ : ∃ g8 cap8, vs 8 = .slice (some ⟨g8, 0, none⟩) 1 cap8 /\ 1 <= cap8 := by
         obtain ⟨_, ⟨_, e⟩ | ⟨g8, cap8, _, e, _, _, hnc, _⟩⟩ := ho8
         · omega
         · exact ⟨g8, cap8, e, hnc⟩
        have HQ : Hid _ := HK.out.add13 (v := vs 8) h5 h8 h15 (by simpa [flatX] using ho8) hbw; rw [e8] at HQ; simp only [putD, Act.put]; rw [d12, e8]; clear ho8; gi_wp2; exact ⟨_, by simp [upd, d12, e8], HQ.out⟩
       | 14, _ =>
        simp at ho; subst ho; have h15 : ¬ L 15 := fun h => hnl (hcl 15 _ h rfl (eD 14) (by simp) rfl); have hbw := HK.out.bw h15; simp only [putD, Act.put]; gi_wp2; exact ⟨.pointer (some ⟨w.heap.size, 2, none⟩), by simp [upd], HK.out.add14 rfl⟩
       | 15, _ =>
        simp at ho; subst ho; have d14 := HK.out.v14 (hde (eD 14) (by simp) rfl); have hbw := HK.out.bw hnl; have h13 : L 13 := hde (eD 13) (by simp) rfl; have h8 : L 8 := hcl 13 _ h13 rfl (eD 8) (by simp) rfl; have h5 : L 5 := hcl 8 _ h8 rfl (eD 5) (by simp) rfl; have ho13 := HK.out.v13 h13 hnl
        obtain ⟨a8, c8, e13⟩ : ∃ a c, vs 13 = .slice a (([] : List Hx).length + 1) c := by
         obtain ⟨_, ⟨_, e⟩ | ⟨g8, cap8, _, e, _⟩⟩ := ho13
         · omega
         · exact ⟨_, _, e⟩
        have k2 := (hbw.cell (cell_lt a2)).trans a2; have kf : ∀ i, w'.frozen? ⟨w.heap.size, i, none⟩ = false := fun i => by simp [World.frozen?, blk HA2.out hbw]
        have HQ : Hid _ := HK.out.add15 (v := undef) h5 h8 h13 hnl; rw [e13] at HQ; simp only [putD, Act.put]; rw [d14, e13]; clear ho13; gi_wp2_with fail
        exact ⟨undef, by simp [upd, d14, e13], by have h := HQ.out; simpa using h⟩
       | q + 16, h => exact absurd h (by omega)
      case fin =>
       intro L vs w' hL6 hK; obtain ⟨w9, hb9, ho9, hw9⟩ := hK.w15 (hL6 15 (by decide))
       have hX9 : OwnX 87 3 Hx.cells w9 Wd.heap.size (vs 13) (([] : List Hx).take 0 ++ y :: ([] : List Hx).drop 0) := own_rowX Hx.cells_length (by
        rw [show (([] : List Hx).take 0 ++ y :: ([] : List Hx).drop 0).length = ([] : List Hx).length + 1 by simp]; have e : flatX Hx.cells (([] : List Hx).take 0 ++ y :: ([] : List Hx).drop 0) = flatX Hx.cells (([] : List Hx).take 0) ++ y.cells ++ flatX Hx.cells (([] : List Hx).drop 0) := by simp [flatX]
        rw [e]; exact ho9)
       obtain ⟨a', c', e13⟩ := hX9.slice; rw [e13] at hX9 hw9; rw [hw9]; clear hw9 ho9 hL6 hK; simp only [putD, Act.put]; generalize vs 0 = u0; generalize vs 1 = u1; generalize vs 2 = u2; generalize vs 3 = u3; generalize vs 4 = u4; generalize vs 5 = u5; generalize vs 6 = u6; generalize vs 7 = u7; generalize vs 8 = u8; generalize vs 9 = u9; generalize vs 10 = u10; generalize vs 11 = u11; generalize vs 12 = u12; generalize vs 13 = u13; generalize vs 14 = u14; have hlen : (([] : List Hx).take 0 ++ y :: ([] : List Hx).drop 0).length = (([] : List Hx).take 0 ++ y :: ([] : List Hx).drop 0).length := rfl; have A9 := obj_set (blk HA2.out hb9) 2 (.slice a' (([] : List Hx).take 0 ++ y :: ([] : List Hx).drop 0).length c'); have bA : But (fun q => q = w.heap.size) w9 (w9.setCell ⟨w.heap.size, 2, none⟩ (.slice a' (([] : List Hx).take 0 ++ y :: ([] : List Hx).drop 0).length c')) := (But.refl (fun q => q = w.heap.size) w9).set (g := w.heap.size) rfl _ _; have R9 := blk_but (blk HR2.out hb9) bA (by show ¬ (w.heap.size + 2 = w.heap.size); omega); have N9 := bA.under (bstep Nd hb9) (Nat.le_refl _) (fun q hq => by have hq' : q = w.heap.size := hq; omega); have X9 := hX9.butRow bA (fun q n f hq _ e => by have e' : q = w.heap.size := e; omega); obtain ⟨Wf, hWf⟩ : ∃ Wf, w9.setCell ⟨w.heap.size, 2, none⟩ (.slice a' (([] : List Hx).take 0 ++ y :: ([] : List Hx).drop 0).length c') = Wf := ⟨_, rfl⟩; rw [hWf] at A9 R9 N9 X9 ⊢; obtain ⟨e0, e1, e2⟩ := cells3 A9; obtain ⟨r0, r1, r2⟩ := cells3 R9; have rf : ∀ i, Wf.frozen? ⟨w.heap.size + 2, i, none⟩ = false := fun i => by simp [World.frozen?, R9]
       have hsf := hb9.size; have HX : Hid (OwnX 87 3 Hx.cells Wf Wd.heap.size (.slice a' (([] : List Hx).take 0 ++ y :: ([] : List Hx).drop 0).length c') (([] : List Hx).take 0 ++ y :: ([] : List Hx).drop 0)) := X9; obtain ⟨lq, hlq⟩ : ∃ lq, (([] : List Hx).take 0 ++ y :: ([] : List Hx).drop 0).length = lq := ⟨_, rfl⟩; have HLq : Hid ((([] : List Hx).take 0 ++ y :: ([] : List Hx).drop 0).length = lq) := hlq; rw [hlq] at e2; clear A9 R9 bA hX9 X9 hb9 hWf hlen hlq; go_wp2_with fail
       have hS : But (fun q => q = w.heap.size + 2) Wf (((Wf.setCell ⟨w.heap.size + 2, 0, none⟩ (.int .i64 b.now)).setCell ⟨w.heap.size + 2, 1, none⟩ (.slice b.fa b.fl.length b.fc)).setCell ⟨w.heap.size + 2, 2, none⟩ (.slice a' lq c')) := (((But.refl (fun q => q = w.heap.size + 2) Wf).set (g := w.heap.size + 2) rfl _ _).set (g := w.heap.size + 2) rfl _ _).set (g := w.heap.size + 2) rfl _ _; exact bodyPost_ret (v := Bk.val ⟨b.now, b.fa, b.fl, b.fc, a', ([] : List Hx).take 0 ++ y :: ([] : List Hx).drop 0, c'⟩) (by simp only [Bk.val, HLq.out]; simp [results, Tryz.results45, go_sem, r0, r1, r2]) rfl ⟨⟨a', c', by rw [HPI.out], by rw [HPI.out]; exact (HX.out.butRow hS (fun q n f hq _ e => by have e' : q = w.heap.size + 2 := e; omega)).weak (by omega)⟩, hS.under N9 (Nat.le_refl _) (fun q hq => by have hq' : q = w.heap.size + 2 := hq; omega)⟩
    · simp only [Value.slice.injEq] at e
      obtain ⟨e1, _, rfl⟩ := e; have HHa : Hid (b.ha = some ⟨g, 0, none⟩) := e1; have HRow : Hid (RowX 87 3 Hx.cells w g b.hc b.hl b.hl.length) := hrow; rw [e1] at a2; clear e1 hrow
      by_cases hkc : k < b.hc
      · go_wp2_with fail
        go_quiet (fail)
        go_wp2_with fail
        clear a2; obtain ⟨wq, hwq⟩ : ∃ q, wr.drewN nq = q := ⟨_, rfl⟩; have hN : Below w.heap.size w wq := by rw [← hwq]; exact bstep hN (bdrew wr nq)
        have Ar : wq.heap[w.heap.size]? = some (.cells #[.int .i64 b.now, .slice b.fa b.fl.length b.fc, .slice (some ⟨g, 0, none⟩) b.hl.length b.hc] 35) := by
         have h := HAr.out; unfold Bk.obj at h; rw [HHa.out] at h; rw [← hwq]; exact blk h (bdrew wr nq)
        have Yr : wq.heap[w.heap.size + 1]? = some (.cells #[.string y.n, .slice y.ta y.tl.length y.tc, .slice y.na y.nl.length y.nc] 87) := by rw [← hwq]; exact blk HYr.out (bdrew wr nq)
        have Rr : wq.heap[w.heap.size + 2]? = some (.cells #[.int .i64 0, .slice none 0 0, .slice none 0 0] 35) := by rw [← hwq]; exact blk HRr.out (bdrew wr nq)
        rw [hwq]; clear hwq; obtain ⟨wr, hwr⟩ : ∃ q, wq = q := ⟨_, rfl⟩; rw [hwr] at hN Ar Yr Rr ⊢; clear hwr; have HPI : Hid (putL b.hl y = b.hl.take k ++ y :: b.hl.drop k) := HPut.out; have Nd : Below w.heap.size w wr.drew := hN.drew; obtain ⟨Wd, hWd⟩ : ∃ Wd, wr.drew = Wd := ⟨_, rfl⟩; have a2 : Wd.cell? ⟨w.heap.size, 2, none⟩ = some (.slice (some ⟨g, 0, none⟩) b.hl.length b.hc) := by rw [← hWd]; exact objc (w := wr.drew) Ar rfl
        have y0 : Wd.cell? ⟨w.heap.size + 1, 0, none⟩ = some (.string y.n) := by rw [← hWd]; exact objc (w := wr.drew) Yr rfl
        have y1 : Wd.cell? ⟨w.heap.size + 1, 1, none⟩ = some (.slice y.ta y.tl.length y.tc) := by rw [← hWd]; exact objc (w := wr.drew) Yr rfl
        have y2 : Wd.cell? ⟨w.heap.size + 1, 2, none⟩ = some (.slice y.na y.nl.length y.nc) := by rw [← hWd]; exact objc (w := wr.drew) Yr rfl
        have HA2 : Hid (Wd.heap[w.heap.size]? = some (.cells #[.int .i64 b.now, .slice b.fa b.fl.length b.fc, .slice (some ⟨g, 0, none⟩) b.hl.length b.hc] 35)) := by rw [Hid, ← hWd]; exact Ar
        have HR2 : Hid (Wd.heap[w.heap.size + 2]? = some (.cells #[.int .i64 0, .slice none 0 0, .slice none 0 0] 35)) := by rw [Hid, ← hWd]; exact Rr
        rw [hWd] at Nd; have hsd := Nd.size; have hAw : w.heap.size + 2 < Wd.heap.size := (alt HR2.out); have HT5 : Hid (∀ w', Below Wd.heap.size Wd w' -> ∀ j u, (flatX Hx.cells (b.hl.take k))[j]? = some u -> w'.cell? ((⟨g, 0, none⟩ : Addr).add j) = some u) := fun w' h => row_take HRow.out hcap (bstep Nd h); have HD5 : Hid (∀ w', Below Wd.heap.size Wd w' -> ∀ j u, (flatX Hx.cells (b.hl.drop k))[j]? = some u -> w'.cell? ((⟨g, k * 3, none⟩ : Addr).add j) = some u) := fun w' h => row_drop HRow.out hcap (bstep Nd h); clear Ar Yr Rr hN; go_wp2_with fail
        refine wpIn_wide.1 (wpIn_region_sets (F := Fence.wide) (n := 0) (by kernel_rfl) [some 24, some 25, some 26, some 27, some 28, some 29, some 30, some 31, some 32, some 33, some 34, some 35, some 36, some 37, some 38] (K6 Wd w.heap.size k b.hl y (.slice (some ⟨g, 0, none⟩) b.hl.length b.hc) (.slice (some ⟨g, 0, none⟩) k b.hc) (.slice (some ⟨g, k * 3, none⟩) (b.hl.length - k) (b.hc - k))) (by kernel_rfl) ?h0 K6.ext ?step ?fin)
        case h0 =>
         exact ⟨fun h => h.elim, fun h => h.elim, fun h => h.elim, fun h => h.elim, fun h => h.elim, fun h => h.elim, fun h => h.elim, fun h => h.elim, fun h => h.elim, fun h => h.elim, fun h => h.elim, fun h => h.elim, fun h => h.elim, fun h => h.elim, fun h => h.elim, fun h => h.elim, fun _ => by rw [hWd]; exact Below.refl _ _⟩
        case step =>
         intro L ii o vs w' ho hnl hde hcl hK; have hi : ii < 16 := (List.getElem?_eq_some_iff.1 ho).1; have HK : Hid (K6 Wd w.heap.size k b.hl y (.slice (some ⟨g, 0, none⟩) b.hl.length b.hc) (.slice (some ⟨g, 0, none⟩) k b.hc) (.slice (some ⟨g, k * 3, none⟩) (b.hl.length - k) (b.hc - k)) L vs w') := hK; clear hK
         match ii, hi with
         | 0, _ =>
          simp at ho; subst ho; have h15 : ¬ L 15 := fun h => hnl (hcl 15 _ h rfl (eP 0) (by simp) rfl); have hbw := HK.out.bw h15; have hb1 : Below w'.heap.size w' (w'.alloc (.cells #[] 87)) := balloc (Below.refl _ _) _; have HQ : Hid _ := (HK.out.later h15 hb1).add0 ⟨w'.heap.size, rfl, hbw.size, World.alloc_heap_new w' _⟩; clear hb1; simp only [putD, Act.put]; gi_wp2; exact ⟨_, by simp [upd], HQ.out⟩
         | 1, _ =>
          simp at ho; subst ho; have h15 : ¬ L 15 := fun h => hnl (hcl 15 _ h rfl (eP 1) (by simp) rfl); have hbw := HK.out.bw h15; simp only [putD, Act.put]; gi_wp2; exact ⟨.pointer (some ⟨w.heap.size, 2, none⟩), by simp [upd], HK.out.add1 rfl⟩
         | 2, _ =>
          simp at ho; subst ho; have h15 : ¬ L 15 := fun h => hnl (hcl 15 _ h rfl (eP 2) (by simp) rfl); have hbw := HK.out.bw h15; have d1 := HK.out.v1 (hde (eD 1) (by simp) rfl); have k2 := (hbw.cell (cell_lt a2)).trans a2; simp only [putD, Act.put]; rw [d1]; gi_wp2; exact ⟨.slice (some ⟨g, 0, none⟩) b.hl.length b.hc, by simp [upd, d1], HK.out.add2 rfl⟩
         | 3, _ =>
          simp at ho; subst ho; have h15 : ¬ L 15 := fun h => hnl (hcl 15 _ h rfl (eP 3) (by simp) rfl); have hbw := HK.out.bw h15; simp only [putD, Act.put]; gi_wp2; exact ⟨.int .i64 ((k : Nat) : Int), by simp [upd], HK.out.add3 rfl⟩
         | 4, _ =>
          simp at ho; subst ho; have h15 : ¬ L 15 := fun h => hnl (hcl 15 _ h rfl (eP 4) (by simp) rfl); have hbw := HK.out.bw h15; have d2 := HK.out.v2 (hde (eD 2) (by simp) rfl); have d3 := HK.out.v3 (hde (eD 3) (by simp) rfl); simp only [putD, Act.put]; rw [d2, d3]; gi_wp2; exact ⟨.slice (some ⟨g, 0, none⟩) k b.hc, by simp [upd, d2, d3], HK.out.add4 rfl⟩
         | 5, _ =>
          simp at ho; subst ho; have h15 : ¬ L 15 := fun h => hnl (hcl 15 _ h rfl (eP 5) (by simp) rfl); have hbw := HK.out.bw h15; have d4 := HK.out.v4 (hde (eD 4) (by simp) rfl); obtain ⟨p, d0, hp1, hp2⟩ := HK.out.v0 (hde (eD 0) (by simp) rfl); have hp := hp2 hnl; simp only [putD, Act.put, List.setIfInBounds_toArray, List.set_cons_succ, List.set_cons_zero]; rw [d0, d4]; refine wpListIn_append0 w' rfl (.tmp 24) (.tmp 28) 33 rfl 87 j0 _ 3 64 Tryz.underlying33 hih hy0 hy1 hy2 rfl (by decide) p rfl hp (some ⟨g, 0, none⟩) k b.hc (flatX Hx.cells (b.hl.take k)) rfl (fun e => by cases e) (by rw [flatX_length Hx.cells_length, List.length_take]; congr 1; omega) (fun ad e j u hj => by cases e; exact HT5.out w' hbw j u hj) (flatX_one' hx_one _) (by unfold maxLen; omega) (by omega) Wd.heap.size hp1 (fun v' w2 hown hb2 => ?_); have HQ : Hid _ := (HK.out.later h15 hb2).add5 hown; clear hown hb2 hp hp2; gi_wp2; exact ⟨_, by simp [upd, d0, d4], HQ.out⟩
         | 6, _ =>
          simp at ho; subst ho; have h15 : ¬ L 15 := fun h => hnl (hcl 15 _ h rfl (eP 6) (by simp) rfl); have hbw := HK.out.bw h15; have k0 := (hbw.cell (cell_lt y0)).trans y0; have k1 := (hbw.cell (cell_lt y1)).trans y1; have k2 := (hbw.cell (cell_lt y2)).trans y2; simp only [putD, Act.put]; gi_wp2; exact ⟨y.val, by simp [upd], HK.out.add6 rfl⟩
         | 7, _ =>
          simp at ho; subst ho; have h15 : ¬ L 15 := fun h => hnl (hcl 15 _ h rfl (eP 7) (by simp) rfl); have hbw := HK.out.bw h15; have d6 := HK.out.v6 (hde (eD 6) (by simp) rfl); have hb1 : Below w'.heap.size w' (w'.alloc (.cells #[.string y.n, .slice y.ta y.tl.length y.tc, .slice y.na y.nl.length y.nc] 87)) := balloc (Below.refl _ _) _; have HQ : Hid _ := (HK.out.later h15 hb1).add7 ⟨w'.heap.size, rfl, World.alloc_heap_new w' _⟩; clear hb1; simp only [putD, Act.put]; rw [d6]; gi_wp2; exact ⟨_, by simp [upd, d6], HQ.out⟩
         | 8, _ =>
          simp at ho; subst ho; have h15 : ¬ L 15 := fun h => hnl (hcl 15 _ h rfl (eP 8) (by simp) rfl); have hbw := HK.out.bw h15; have h5 : L 5 := hde (eD 5) (by simp) rfl; have h13 : ¬ L 13 := fun h => hnl (hcl 13 _ h rfl (eD 8) (by simp) rfl); have ho5 := HK.out.v5 h5 hnl; obtain ⟨V, d7, hV2⟩ := HK.out.v7 (hde (eD 7) (by simp) rfl); have hV := hV2 hnl; obtain ⟨u5, e5⟩ : ∃ u, vs 5 = u := ⟨_, rfl⟩; rw [e5] at ho5; simp only [putD, Act.put, List.setIfInBounds_toArray, List.set_cons_succ, List.set_cons_zero]; rw [d7, e5]
          refine wpListIn_append_own w' rfl (.tmp 29) (.tmp 31) 33 rfl Wd.heap.size 87 j0 _ 3 64 Tryz.underlying33 hih hy0 hy1 hy2 rfl (by decide) u5 k (flatX Hx.cells (b.hl.take k)) rfl ho5 ⟨V, 0, none⟩ 1 1 y.cells rfl rfl (fun j u hj => by
           rw [Addr.add_lit, Nat.zero_add]
           match j, hj with
           | 0, hj => simp [Hx.cells] at hj; subst hj; exact objc hV rfl
           | 1, hj => simp [Hx.cells] at hj; subst hj; exact objc hV rfl
           | 2, hj => simp [Hx.cells] at hj; subst hj; exact objc hV rfl) (hx_one y) (by unfold maxLen; omega) (by omega) hbw.size (fun v' w2 hown hgr _ => ?_)
          have hb2 : Below Wd.heap.size Wd w2 := hbw.grown hgr hbw.size (fun q hq => own_ge ho5 hq); have HQ : Hid _ := HK.out.add8 h5 h13 h15 hown hb2; clear hown hgr ho5 hV hV2; gi_wp2; exact ⟨_, by simp [upd, d7, e5], HQ.out⟩
         | 9, _ =>
          simp at ho; subst ho; have h15 : ¬ L 15 := fun h => hnl (hcl 15 _ h rfl (eP 9) (by simp) rfl); have hbw := HK.out.bw h15; simp only [putD, Act.put]; gi_wp2; exact ⟨.pointer (some ⟨w.heap.size, 2, none⟩), by simp [upd], HK.out.add9 rfl⟩
         | 10, _ =>
          simp at ho; subst ho; have h15 : ¬ L 15 := fun h => hnl (hcl 15 _ h rfl (eP 10) (by simp) rfl); have hbw := HK.out.bw h15; have d9 := HK.out.v9 (hde (eD 9) (by simp) rfl); have k2 := (hbw.cell (cell_lt a2)).trans a2; simp only [putD, Act.put]; rw [d9]; gi_wp2; exact ⟨.slice (some ⟨g, 0, none⟩) b.hl.length b.hc, by simp [upd, d9], HK.out.add10 rfl⟩
         | 11, _ =>
          simp at ho; subst ho; have h15 : ¬ L 15 := fun h => hnl (hcl 15 _ h rfl (eP 11) (by simp) rfl); have hbw := HK.out.bw h15; simp only [putD, Act.put]; gi_wp2; exact ⟨.int .i64 ((k : Nat) : Int), by simp [upd], HK.out.add11 rfl⟩
         | 12, _ =>
          simp at ho; subst ho; have h15 : ¬ L 15 := fun h => hnl (hcl 15 _ h rfl (eP 12) (by simp) rfl); have hbw := HK.out.bw h15; have d10 := HK.out.v10 (hde (eD 10) (by simp) rfl); have d11 := HK.out.v11 (hde (eD 11) (by simp) rfl); simp only [putD, Act.put]; rw [d10, d11]; gi_wp2; exact ⟨.slice (some ⟨g, k * 3, none⟩) (b.hl.length - k) (b.hc - k), by simp [upd, d10, d11], HK.out.add12 rfl⟩
         | 13, _ =>
          simp at ho; subst ho; have h15 : ¬ L 15 := fun h => hnl (hcl 15 _ h rfl (eP 13) (by simp) rfl); have hbw := HK.out.bw h15; have d12 := HK.out.v12 (hde (eD 12) (by simp) rfl); have h8 : L 8 := hde (eD 8) (by simp) rfl; have h5 : L 5 := hcl 8 _ h8 rfl (eD 5) (by simp) rfl; have ho8 := HK.out.v8 h8 hnl; obtain ⟨u8, e8⟩ : ∃ u, vs 8 = u := ⟨_, rfl⟩; rw [e8] at ho8; simp only [putD, Act.put, List.setIfInBounds_toArray, List.set_cons_succ, List.set_cons_zero]; rw [d12, e8]; refine wpListIn_append_own w' rfl (.tmp 32) (.tmp 36) 33 rfl Wd.heap.size 87 j0 _ 3 64 Tryz.underlying33 hih hy0 hy1 hy2 rfl (by decide) u8 (k + 1) (flatX Hx.cells (b.hl.take k) ++ y.cells) rfl ho8 ⟨g, k * 3, none⟩ (b.hl.length - k) (b.hc - k) (flatX Hx.cells (b.hl.drop k)) rfl (by rw [flatX_length Hx.cells_length, List.length_drop]) (fun j u hj => HD5.out w' hbw j u hj) (flatX_one' hx_one _) (by unfold maxLen; omega) (by omega) hbw.size (fun v' w2 hown hgr _ => ?_); have hb2 : Below Wd.heap.size Wd w2 := hbw.grown hgr hbw.size (fun q hq => own_ge ho8 hq); have hown2 : w2.ownsRow Wd.heap.size 87 3 v' (b.hl.length + 1) (flatX Hx.cells (b.hl.take k) ++ y.cells ++ flatX Hx.cells (b.hl.drop k)) := by rw [show b.hl.length + 1 = k + 1 + (b.hl.length - k) by omega]; exact hown
          have HQ : Hid _ := HK.out.add13 h5 h8 h15 hown2 hb2; clear hown hown2 hgr ho8; gi_wp2; exact ⟨_, by simp [upd, d12, e8], HQ.out⟩
         | 14, _ =>
          simp at ho; subst ho; have h15 : ¬ L 15 := fun h => hnl (hcl 15 _ h rfl (eD 14) (by simp) rfl); have hbw := HK.out.bw h15; simp only [putD, Act.put]; gi_wp2; exact ⟨.pointer (some ⟨w.heap.size, 2, none⟩), by simp [upd], HK.out.add14 rfl⟩
         | 15, _ =>
          simp at ho; subst ho; have d14 := HK.out.v14 (hde (eD 14) (by simp) rfl); have hbw := HK.out.bw hnl; have h13 : L 13 := hde (eD 13) (by simp) rfl; have h8 : L 8 := hcl 13 _ h13 rfl (eD 8) (by simp) rfl; have h5 : L 5 := hcl 8 _ h8 rfl (eD 5) (by simp) rfl; have ho13 := HK.out.v13 h13 hnl
          obtain ⟨a8, c8, e13⟩ : ∃ a c, vs 13 = .slice a (b.hl.length + 1) c := by
           obtain ⟨_, ⟨_, e⟩ | ⟨g8, cap8, _, e, _⟩⟩ := ho13
           · omega
           · exact ⟨_, _, e⟩
          have k2 := (hbw.cell (cell_lt a2)).trans a2; have kf : ∀ i, w'.frozen? ⟨w.heap.size, i, none⟩ = false := fun i => by simp [World.frozen?, blk HA2.out hbw]
          have HQ : Hid _ := HK.out.add15 (v := undef) h5 h8 h13 hnl; rw [e13] at HQ; simp only [putD, Act.put]; rw [d14, e13]; clear ho13; gi_wp2_with fail
          exact ⟨undef, by simp [upd, d14, e13], by have h := HQ.out; simpa using h⟩
         | q + 16, h => exact absurd h (by omega)
        case fin =>
         intro L vs w' hL6 hK; obtain ⟨w9, hb9, ho9, hw9⟩ := hK.w15 (hL6 15 (by decide))
         have hX9 : OwnX 87 3 Hx.cells w9 Wd.heap.size (vs 13) (b.hl.take k ++ y :: b.hl.drop k) := own_rowX Hx.cells_length (by
          rw [show (b.hl.take k ++ y :: b.hl.drop k).length = b.hl.length + 1 by simp; omega]; have e : flatX Hx.cells (b.hl.take k ++ y :: b.hl.drop k) = flatX Hx.cells (b.hl.take k) ++ y.cells ++ flatX Hx.cells (b.hl.drop k) := by simp [flatX]
          rw [e]; exact ho9)
         obtain ⟨a', c', e13⟩ := hX9.slice; rw [e13] at hX9 hw9; rw [hw9]; clear hw9 ho9 hL6 hK; simp only [putD, Act.put]; generalize vs 0 = u0; generalize vs 1 = u1; generalize vs 2 = u2; generalize vs 3 = u3; generalize vs 4 = u4; generalize vs 5 = u5; generalize vs 6 = u6; generalize vs 7 = u7; generalize vs 8 = u8; generalize vs 9 = u9; generalize vs 10 = u10; generalize vs 11 = u11; generalize vs 12 = u12; generalize vs 13 = u13; generalize vs 14 = u14; have hlen : (b.hl.take k ++ y :: b.hl.drop k).length = (b.hl.take k ++ y :: b.hl.drop k).length := rfl; have A9 := obj_set (blk HA2.out hb9) 2 (.slice a' (b.hl.take k ++ y :: b.hl.drop k).length c'); have bA : But (fun q => q = w.heap.size) w9 (w9.setCell ⟨w.heap.size, 2, none⟩ (.slice a' (b.hl.take k ++ y :: b.hl.drop k).length c')) := (But.refl (fun q => q = w.heap.size) w9).set (g := w.heap.size) rfl _ _; have R9 := blk_but (blk HR2.out hb9) bA (by show ¬ (w.heap.size + 2 = w.heap.size); omega); have N9 := bA.under (bstep Nd hb9) (Nat.le_refl _) (fun q hq => by have hq' : q = w.heap.size := hq; omega); have X9 := hX9.butRow bA (fun q n f hq _ e => by have e' : q = w.heap.size := e; omega); obtain ⟨Wf, hWf⟩ : ∃ Wf, w9.setCell ⟨w.heap.size, 2, none⟩ (.slice a' (b.hl.take k ++ y :: b.hl.drop k).length c') = Wf := ⟨_, rfl⟩; rw [hWf] at A9 R9 N9 X9 ⊢; obtain ⟨e0, e1, e2⟩ := cells3 A9; obtain ⟨r0, r1, r2⟩ := cells3 R9; have rf : ∀ i, Wf.frozen? ⟨w.heap.size + 2, i, none⟩ = false := fun i => by simp [World.frozen?, R9]
         have hsf := hb9.size; have HX : Hid (OwnX 87 3 Hx.cells Wf Wd.heap.size (.slice a' (b.hl.take k ++ y :: b.hl.drop k).length c') (b.hl.take k ++ y :: b.hl.drop k)) := X9; obtain ⟨lq, hlq⟩ : ∃ lq, (b.hl.take k ++ y :: b.hl.drop k).length = lq := ⟨_, rfl⟩; have HLq : Hid ((b.hl.take k ++ y :: b.hl.drop k).length = lq) := hlq; rw [hlq] at e2; clear A9 R9 bA hX9 X9 hb9 hWf hlen hlq; go_wp2_with fail
         have hS : But (fun q => q = w.heap.size + 2) Wf (((Wf.setCell ⟨w.heap.size + 2, 0, none⟩ (.int .i64 b.now)).setCell ⟨w.heap.size + 2, 1, none⟩ (.slice b.fa b.fl.length b.fc)).setCell ⟨w.heap.size + 2, 2, none⟩ (.slice a' lq c')) := (((But.refl (fun q => q = w.heap.size + 2) Wf).set (g := w.heap.size + 2) rfl _ _).set (g := w.heap.size + 2) rfl _ _).set (g := w.heap.size + 2) rfl _ _; exact bodyPost_ret (v := Bk.val ⟨b.now, b.fa, b.fl, b.fc, a', b.hl.take k ++ y :: b.hl.drop k, c'⟩) (by simp only [Bk.val, HLq.out]; simp [results, Tryz.results45, go_sem, r0, r1, r2]) rfl ⟨⟨a', c', by rw [HPI.out], by rw [HPI.out]; exact (HX.out.butRow hS (fun q n f hq _ e => by have e' : q = w.heap.size + 2 := e; omega)).weak (by omega)⟩, hS.under N9 (Nat.le_refl _) (fun q hq => by have hq' : q = w.heap.size + 2 := hq; omega)⟩
      · have HKc : Hid (k = b.hc) := by show k = b.hc; have := HKn.out; omega
        have hkc2 : b.hc - k = 0 := by omega
        go_wp2_with fail
        go_quiet (fail)
        go_wp2_with fail
        clear a2; obtain ⟨wq, hwq⟩ : ∃ q, wr.drewN nq = q := ⟨_, rfl⟩; have hN : Below w.heap.size w wq := by rw [← hwq]; exact bstep hN (bdrew wr nq)
        have Ar : wq.heap[w.heap.size]? = some (.cells #[.int .i64 b.now, .slice b.fa b.fl.length b.fc, .slice (some ⟨g, 0, none⟩) b.hl.length b.hc] 35) := by
         have h := HAr.out; unfold Bk.obj at h; rw [HHa.out] at h; rw [← hwq]; exact blk h (bdrew wr nq)
        have Yr : wq.heap[w.heap.size + 1]? = some (.cells #[.string y.n, .slice y.ta y.tl.length y.tc, .slice y.na y.nl.length y.nc] 87) := by rw [← hwq]; exact blk HYr.out (bdrew wr nq)
        have Rr : wq.heap[w.heap.size + 2]? = some (.cells #[.int .i64 0, .slice none 0 0, .slice none 0 0] 35) := by rw [← hwq]; exact blk HRr.out (bdrew wr nq)
        rw [hwq]; clear hwq; obtain ⟨wr, hwr⟩ : ∃ q, wq = q := ⟨_, rfl⟩; rw [hwr] at hN Ar Yr Rr ⊢; clear hwr; have HPI : Hid (putL b.hl y = b.hl.take k ++ y :: b.hl.drop k) := HPut.out; have Nd : Below w.heap.size w wr.drew := hN.drew; obtain ⟨Wd, hWd⟩ : ∃ Wd, wr.drew = Wd := ⟨_, rfl⟩; have a2 : Wd.cell? ⟨w.heap.size, 2, none⟩ = some (.slice (some ⟨g, 0, none⟩) b.hl.length b.hc) := by rw [← hWd]; exact objc (w := wr.drew) Ar rfl
        have y0 : Wd.cell? ⟨w.heap.size + 1, 0, none⟩ = some (.string y.n) := by rw [← hWd]; exact objc (w := wr.drew) Yr rfl
        have y1 : Wd.cell? ⟨w.heap.size + 1, 1, none⟩ = some (.slice y.ta y.tl.length y.tc) := by rw [← hWd]; exact objc (w := wr.drew) Yr rfl
        have y2 : Wd.cell? ⟨w.heap.size + 1, 2, none⟩ = some (.slice y.na y.nl.length y.nc) := by rw [← hWd]; exact objc (w := wr.drew) Yr rfl
        have HA2 : Hid (Wd.heap[w.heap.size]? = some (.cells #[.int .i64 b.now, .slice b.fa b.fl.length b.fc, .slice (some ⟨g, 0, none⟩) b.hl.length b.hc] 35)) := by rw [Hid, ← hWd]; exact Ar
        have HR2 : Hid (Wd.heap[w.heap.size + 2]? = some (.cells #[.int .i64 0, .slice none 0 0, .slice none 0 0] 35)) := by rw [Hid, ← hWd]; exact Rr
        rw [hWd] at Nd; have hsd := Nd.size; have hAw : w.heap.size + 2 < Wd.heap.size := (alt HR2.out); have HT5 : Hid (∀ w', Below Wd.heap.size Wd w' -> ∀ j u, (flatX Hx.cells (b.hl.take k))[j]? = some u -> w'.cell? ((⟨g, 0, none⟩ : Addr).add j) = some u) := fun w' h => row_take HRow.out hcap (bstep Nd h); have HD5 : Hid (∀ w', Below Wd.heap.size Wd w' -> ∀ j u, (flatX Hx.cells (b.hl.drop k))[j]? = some u -> w'.cell? ((⟨g, 0, none⟩ : Addr).add j) = some u) := fun w' h j u hj => by rw [HKn.out, List.drop_length] at hj; simp [flatX] at hj
        clear Ar Yr Rr hN; go_wp2_with fail
        refine wpIn_wide.1 (wpIn_region_sets (F := Fence.wide) (n := 0) (by kernel_rfl) [some 24, some 25, some 26, some 27, some 28, some 29, some 30, some 31, some 32, some 33, some 34, some 35, some 36, some 37, some 38] (K6 Wd w.heap.size k b.hl y (.slice (some ⟨g, 0, none⟩) b.hl.length b.hc) (.slice (some ⟨g, 0, none⟩) k b.hc) (.slice (some ⟨g, 0, none⟩) (b.hl.length - k) 0)) (by kernel_rfl) ?h0 K6.ext ?step ?fin)
        case h0 =>
         exact ⟨fun h => h.elim, fun h => h.elim, fun h => h.elim, fun h => h.elim, fun h => h.elim, fun h => h.elim, fun h => h.elim, fun h => h.elim, fun h => h.elim, fun h => h.elim, fun h => h.elim, fun h => h.elim, fun h => h.elim, fun h => h.elim, fun h => h.elim, fun h => h.elim, fun _ => by rw [hWd]; exact Below.refl _ _⟩
        case step =>
         intro L ii o vs w' ho hnl hde hcl hK; have hi : ii < 16 := (List.getElem?_eq_some_iff.1 ho).1; have HK : Hid (K6 Wd w.heap.size k b.hl y (.slice (some ⟨g, 0, none⟩) b.hl.length b.hc) (.slice (some ⟨g, 0, none⟩) k b.hc) (.slice (some ⟨g, 0, none⟩) (b.hl.length - k) 0) L vs w') := hK; clear hK
         match ii, hi with
         | 0, _ =>
          simp at ho; subst ho; have h15 : ¬ L 15 := fun h => hnl (hcl 15 _ h rfl (eP 0) (by simp) rfl); have hbw := HK.out.bw h15; have hb1 : Below w'.heap.size w' (w'.alloc (.cells #[] 87)) := balloc (Below.refl _ _) _; have HQ : Hid _ := (HK.out.later h15 hb1).add0 ⟨w'.heap.size, rfl, hbw.size, World.alloc_heap_new w' _⟩; clear hb1; simp only [putD, Act.put]; gi_wp2; exact ⟨_, by simp [upd], HQ.out⟩
         | 1, _ =>
          simp at ho; subst ho; have h15 : ¬ L 15 := fun h => hnl (hcl 15 _ h rfl (eP 1) (by simp) rfl); have hbw := HK.out.bw h15; simp only [putD, Act.put]; gi_wp2; exact ⟨.pointer (some ⟨w.heap.size, 2, none⟩), by simp [upd], HK.out.add1 rfl⟩
         | 2, _ =>
          simp at ho; subst ho; have h15 : ¬ L 15 := fun h => hnl (hcl 15 _ h rfl (eP 2) (by simp) rfl); have hbw := HK.out.bw h15; have d1 := HK.out.v1 (hde (eD 1) (by simp) rfl); have k2 := (hbw.cell (cell_lt a2)).trans a2; simp only [putD, Act.put]; rw [d1]; gi_wp2; exact ⟨.slice (some ⟨g, 0, none⟩) b.hl.length b.hc, by simp [upd, d1], HK.out.add2 rfl⟩
         | 3, _ =>
          simp at ho; subst ho; have h15 : ¬ L 15 := fun h => hnl (hcl 15 _ h rfl (eP 3) (by simp) rfl); have hbw := HK.out.bw h15; simp only [putD, Act.put]; gi_wp2; exact ⟨.int .i64 ((k : Nat) : Int), by simp [upd], HK.out.add3 rfl⟩
         | 4, _ =>
          simp at ho; subst ho; have h15 : ¬ L 15 := fun h => hnl (hcl 15 _ h rfl (eP 4) (by simp) rfl); have hbw := HK.out.bw h15; have d2 := HK.out.v2 (hde (eD 2) (by simp) rfl); have d3 := HK.out.v3 (hde (eD 3) (by simp) rfl); simp only [putD, Act.put]; rw [d2, d3]; gi_wp2; exact ⟨.slice (some ⟨g, 0, none⟩) k b.hc, by simp [upd, d2, d3], HK.out.add4 rfl⟩
         | 5, _ =>
          simp at ho; subst ho; have h15 : ¬ L 15 := fun h => hnl (hcl 15 _ h rfl (eP 5) (by simp) rfl); have hbw := HK.out.bw h15; have d4 := HK.out.v4 (hde (eD 4) (by simp) rfl); obtain ⟨p, d0, hp1, hp2⟩ := HK.out.v0 (hde (eD 0) (by simp) rfl); have hp := hp2 hnl; simp only [putD, Act.put, List.setIfInBounds_toArray, List.set_cons_succ, List.set_cons_zero]; rw [d0, d4]; refine wpListIn_append0 w' rfl (.tmp 24) (.tmp 28) 33 rfl 87 j0 _ 3 64 Tryz.underlying33 hih hy0 hy1 hy2 rfl (by decide) p rfl hp (some ⟨g, 0, none⟩) k b.hc (flatX Hx.cells (b.hl.take k)) rfl (fun e => by cases e) (by rw [flatX_length Hx.cells_length, List.length_take]; congr 1; omega) (fun ad e j u hj => by cases e; exact HT5.out w' hbw j u hj) (flatX_one' hx_one _) (by unfold maxLen; omega) (by omega) Wd.heap.size hp1 (fun v' w2 hown hb2 => ?_); have HQ : Hid _ := (HK.out.later h15 hb2).add5 hown; clear hown hb2 hp hp2; gi_wp2; exact ⟨_, by simp [upd, d0, d4], HQ.out⟩
         | 6, _ =>
          simp at ho; subst ho; have h15 : ¬ L 15 := fun h => hnl (hcl 15 _ h rfl (eP 6) (by simp) rfl); have hbw := HK.out.bw h15; have k0 := (hbw.cell (cell_lt y0)).trans y0; have k1 := (hbw.cell (cell_lt y1)).trans y1; have k2 := (hbw.cell (cell_lt y2)).trans y2; simp only [putD, Act.put]; gi_wp2; exact ⟨y.val, by simp [upd], HK.out.add6 rfl⟩
         | 7, _ =>
          simp at ho; subst ho; have h15 : ¬ L 15 := fun h => hnl (hcl 15 _ h rfl (eP 7) (by simp) rfl); have hbw := HK.out.bw h15; have d6 := HK.out.v6 (hde (eD 6) (by simp) rfl); have hb1 : Below w'.heap.size w' (w'.alloc (.cells #[.string y.n, .slice y.ta y.tl.length y.tc, .slice y.na y.nl.length y.nc] 87)) := balloc (Below.refl _ _) _; have HQ : Hid _ := (HK.out.later h15 hb1).add7 ⟨w'.heap.size, rfl, World.alloc_heap_new w' _⟩; clear hb1; simp only [putD, Act.put]; rw [d6]; gi_wp2; exact ⟨_, by simp [upd, d6], HQ.out⟩
         | 8, _ =>
          simp at ho; subst ho; have h15 : ¬ L 15 := fun h => hnl (hcl 15 _ h rfl (eP 8) (by simp) rfl); have hbw := HK.out.bw h15; have h5 : L 5 := hde (eD 5) (by simp) rfl; have h13 : ¬ L 13 := fun h => hnl (hcl 13 _ h rfl (eD 8) (by simp) rfl); have ho5 := HK.out.v5 h5 hnl; obtain ⟨V, d7, hV2⟩ := HK.out.v7 (hde (eD 7) (by simp) rfl); have hV := hV2 hnl; obtain ⟨u5, e5⟩ : ∃ u, vs 5 = u := ⟨_, rfl⟩; rw [e5] at ho5; simp only [putD, Act.put, List.setIfInBounds_toArray, List.set_cons_succ, List.set_cons_zero]; rw [d7, e5]
          refine wpListIn_append_own w' rfl (.tmp 29) (.tmp 31) 33 rfl Wd.heap.size 87 j0 _ 3 64 Tryz.underlying33 hih hy0 hy1 hy2 rfl (by decide) u5 k (flatX Hx.cells (b.hl.take k)) rfl ho5 ⟨V, 0, none⟩ 1 1 y.cells rfl rfl (fun j u hj => by
           rw [Addr.add_lit, Nat.zero_add]
           match j, hj with
           | 0, hj => simp [Hx.cells] at hj; subst hj; exact objc hV rfl
           | 1, hj => simp [Hx.cells] at hj; subst hj; exact objc hV rfl
           | 2, hj => simp [Hx.cells] at hj; subst hj; exact objc hV rfl) (hx_one y) (by unfold maxLen; omega) (by omega) hbw.size (fun v' w2 hown hgr _ => ?_)
          have hb2 : Below Wd.heap.size Wd w2 := hbw.grown hgr hbw.size (fun q hq => own_ge ho5 hq); have HQ : Hid _ := HK.out.add8 h5 h13 h15 hown hb2; clear hown hgr ho5 hV hV2; gi_wp2; exact ⟨_, by simp [upd, d7, e5], HQ.out⟩
         | 9, _ =>
          simp at ho; subst ho; have h15 : ¬ L 15 := fun h => hnl (hcl 15 _ h rfl (eP 9) (by simp) rfl); have hbw := HK.out.bw h15; simp only [putD, Act.put]; gi_wp2; exact ⟨.pointer (some ⟨w.heap.size, 2, none⟩), by simp [upd], HK.out.add9 rfl⟩
         | 10, _ =>
          simp at ho; subst ho; have h15 : ¬ L 15 := fun h => hnl (hcl 15 _ h rfl (eP 10) (by simp) rfl); have hbw := HK.out.bw h15; have d9 := HK.out.v9 (hde (eD 9) (by simp) rfl); have k2 := (hbw.cell (cell_lt a2)).trans a2; simp only [putD, Act.put]; rw [d9]; gi_wp2; exact ⟨.slice (some ⟨g, 0, none⟩) b.hl.length b.hc, by simp [upd, d9], HK.out.add10 rfl⟩
         | 11, _ =>
          simp at ho; subst ho; have h15 : ¬ L 15 := fun h => hnl (hcl 15 _ h rfl (eP 11) (by simp) rfl); have hbw := HK.out.bw h15; simp only [putD, Act.put]; gi_wp2; exact ⟨.int .i64 ((k : Nat) : Int), by simp [upd], HK.out.add11 rfl⟩
         | 12, _ =>
          simp at ho; subst ho; have h15 : ¬ L 15 := fun h => hnl (hcl 15 _ h rfl (eP 12) (by simp) rfl); have hbw := HK.out.bw h15; have d10 := HK.out.v10 (hde (eD 10) (by simp) rfl); have d11 := HK.out.v11 (hde (eD 11) (by simp) rfl); simp only [putD, Act.put]; rw [d10, d11]; gi_wp2; exact ⟨.slice (some ⟨g, 0, none⟩) (b.hl.length - k) 0, by simp [upd, d10, d11]; exact HKc.out, by have q := HK.out.add12 (v := .slice (some ⟨g, 0, none⟩) (b.hl.length - k) 0) rfl; rw [← HKc.out] at q; exact q⟩
         | 13, _ =>
          simp at ho; subst ho; have h15 : ¬ L 15 := fun h => hnl (hcl 15 _ h rfl (eP 13) (by simp) rfl); have hbw := HK.out.bw h15; have d12 := HK.out.v12 (hde (eD 12) (by simp) rfl); have h8 : L 8 := hde (eD 8) (by simp) rfl; have h5 : L 5 := hcl 8 _ h8 rfl (eD 5) (by simp) rfl; have ho8 := HK.out.v8 h8 hnl; obtain ⟨u8, e8⟩ : ∃ u, vs 8 = u := ⟨_, rfl⟩; rw [e8] at ho8; simp only [putD, Act.put, List.setIfInBounds_toArray, List.set_cons_succ, List.set_cons_zero]; rw [d12, e8]; refine wpListIn_append_own w' rfl (.tmp 32) (.tmp 36) 33 rfl Wd.heap.size 87 j0 _ 3 64 Tryz.underlying33 hih hy0 hy1 hy2 rfl (by decide) u8 (k + 1) (flatX Hx.cells (b.hl.take k) ++ y.cells) rfl ho8 ⟨g, 0, none⟩ (b.hl.length - k) 0 (flatX Hx.cells (b.hl.drop k)) rfl (by rw [flatX_length Hx.cells_length, List.length_drop]) (fun j u hj => HD5.out w' hbw j u hj) (flatX_one' hx_one _) (by unfold maxLen; omega) (by omega) hbw.size (fun v' w2 hown hgr _ => ?_); have hb2 : Below Wd.heap.size Wd w2 := hbw.grown hgr hbw.size (fun q hq => own_ge ho8 hq); have hown2 : w2.ownsRow Wd.heap.size 87 3 v' (b.hl.length + 1) (flatX Hx.cells (b.hl.take k) ++ y.cells ++ flatX Hx.cells (b.hl.drop k)) := by rw [show b.hl.length + 1 = k + 1 + (b.hl.length - k) by omega]; exact hown
          have HQ : Hid _ := HK.out.add13 h5 h8 h15 hown2 hb2; clear hown hown2 hgr ho8; gi_wp2; exact ⟨_, by simp [upd, d12, e8], HQ.out⟩
         | 14, _ =>
          simp at ho; subst ho; have h15 : ¬ L 15 := fun h => hnl (hcl 15 _ h rfl (eD 14) (by simp) rfl); have hbw := HK.out.bw h15; simp only [putD, Act.put]; gi_wp2; exact ⟨.pointer (some ⟨w.heap.size, 2, none⟩), by simp [upd], HK.out.add14 rfl⟩
         | 15, _ =>
          simp at ho; subst ho; have d14 := HK.out.v14 (hde (eD 14) (by simp) rfl); have hbw := HK.out.bw hnl; have h13 : L 13 := hde (eD 13) (by simp) rfl; have h8 : L 8 := hcl 13 _ h13 rfl (eD 8) (by simp) rfl; have h5 : L 5 := hcl 8 _ h8 rfl (eD 5) (by simp) rfl; have ho13 := HK.out.v13 h13 hnl
          obtain ⟨a8, c8, e13⟩ : ∃ a c, vs 13 = .slice a (b.hl.length + 1) c := by
           obtain ⟨_, ⟨_, e⟩ | ⟨g8, cap8, _, e, _⟩⟩ := ho13
           · omega
           · exact ⟨_, _, e⟩
          have k2 := (hbw.cell (cell_lt a2)).trans a2; have kf : ∀ i, w'.frozen? ⟨w.heap.size, i, none⟩ = false := fun i => by simp [World.frozen?, blk HA2.out hbw]
          have HQ : Hid _ := HK.out.add15 (v := undef) h5 h8 h13 hnl; rw [e13] at HQ; simp only [putD, Act.put]; rw [d14, e13]; clear ho13; gi_wp2_with fail
          exact ⟨undef, by simp [upd, d14, e13], by have h := HQ.out; simpa using h⟩
         | q + 16, h => exact absurd h (by omega)
        case fin =>
         intro L vs w' hL6 hK; obtain ⟨w9, hb9, ho9, hw9⟩ := hK.w15 (hL6 15 (by decide))
         have hX9 : OwnX 87 3 Hx.cells w9 Wd.heap.size (vs 13) (b.hl.take k ++ y :: b.hl.drop k) := own_rowX Hx.cells_length (by
          rw [show (b.hl.take k ++ y :: b.hl.drop k).length = b.hl.length + 1 by simp; omega]; have e : flatX Hx.cells (b.hl.take k ++ y :: b.hl.drop k) = flatX Hx.cells (b.hl.take k) ++ y.cells ++ flatX Hx.cells (b.hl.drop k) := by simp [flatX]
          rw [e]; exact ho9)
         obtain ⟨a', c', e13⟩ := hX9.slice; rw [e13] at hX9 hw9; rw [hw9]; clear hw9 ho9 hL6 hK; simp only [putD, Act.put]; generalize vs 0 = u0; generalize vs 1 = u1; generalize vs 2 = u2; generalize vs 3 = u3; generalize vs 4 = u4; generalize vs 5 = u5; generalize vs 6 = u6; generalize vs 7 = u7; generalize vs 8 = u8; generalize vs 9 = u9; generalize vs 10 = u10; generalize vs 11 = u11; generalize vs 12 = u12; generalize vs 13 = u13; generalize vs 14 = u14; have hlen : (b.hl.take k ++ y :: b.hl.drop k).length = (b.hl.take k ++ y :: b.hl.drop k).length := rfl; have A9 := obj_set (blk HA2.out hb9) 2 (.slice a' (b.hl.take k ++ y :: b.hl.drop k).length c'); have bA : But (fun q => q = w.heap.size) w9 (w9.setCell ⟨w.heap.size, 2, none⟩ (.slice a' (b.hl.take k ++ y :: b.hl.drop k).length c')) := (But.refl (fun q => q = w.heap.size) w9).set (g := w.heap.size) rfl _ _; have R9 := blk_but (blk HR2.out hb9) bA (by show ¬ (w.heap.size + 2 = w.heap.size); omega); have N9 := bA.under (bstep Nd hb9) (Nat.le_refl _) (fun q hq => by have hq' : q = w.heap.size := hq; omega); have X9 := hX9.butRow bA (fun q n f hq _ e => by have e' : q = w.heap.size := e; omega); obtain ⟨Wf, hWf⟩ : ∃ Wf, w9.setCell ⟨w.heap.size, 2, none⟩ (.slice a' (b.hl.take k ++ y :: b.hl.drop k).length c') = Wf := ⟨_, rfl⟩; rw [hWf] at A9 R9 N9 X9 ⊢; obtain ⟨e0, e1, e2⟩ := cells3 A9; obtain ⟨r0, r1, r2⟩ := cells3 R9; have rf : ∀ i, Wf.frozen? ⟨w.heap.size + 2, i, none⟩ = false := fun i => by simp [World.frozen?, R9]
         have hsf := hb9.size; have HX : Hid (OwnX 87 3 Hx.cells Wf Wd.heap.size (.slice a' (b.hl.take k ++ y :: b.hl.drop k).length c') (b.hl.take k ++ y :: b.hl.drop k)) := X9; obtain ⟨lq, hlq⟩ : ∃ lq, (b.hl.take k ++ y :: b.hl.drop k).length = lq := ⟨_, rfl⟩; have HLq : Hid ((b.hl.take k ++ y :: b.hl.drop k).length = lq) := hlq; rw [hlq] at e2; clear A9 R9 bA hX9 X9 hb9 hWf hlen hlq; go_wp2_with fail
         have hS : But (fun q => q = w.heap.size + 2) Wf (((Wf.setCell ⟨w.heap.size + 2, 0, none⟩ (.int .i64 b.now)).setCell ⟨w.heap.size + 2, 1, none⟩ (.slice b.fa b.fl.length b.fc)).setCell ⟨w.heap.size + 2, 2, none⟩ (.slice a' lq c')) := (((But.refl (fun q => q = w.heap.size + 2) Wf).set (g := w.heap.size + 2) rfl _ _).set (g := w.heap.size + 2) rfl _ _).set (g := w.heap.size + 2) rfl _ _; exact bodyPost_ret (v := Bk.val ⟨b.now, b.fa, b.fl, b.fc, a', b.hl.take k ++ y :: b.hl.drop k, c'⟩) (by simp only [Bk.val, HLq.out]; simp [results, Tryz.results45, go_sem, r0, r1, r2]) rfl ⟨⟨a', c', by rw [HPI.out], by rw [HPI.out]; exact (HX.out.butRow hS (fun q n f hq _ e => by have e' : q = w.heap.size + 2 := e; omega)).weak (by omega)⟩, hS.under N9 (Nat.le_refl _) (fun q hq => by have hq' : q = w.heap.size + 2 := hq; omega)⟩
end Go.Proofs.YtjlliijeaekmfaaGreatDoor
