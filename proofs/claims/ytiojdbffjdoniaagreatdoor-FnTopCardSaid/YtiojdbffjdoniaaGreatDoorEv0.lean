import Derived.Test.YtiojdbffjdoniaaGreatDoorWi
import Derived.Test.YtiojdbffjdoniaaGreatDoorRd
import Derived.Test.YtiojdbffjdoniaaGreatDoorMarkB
namespace Go.Proofs.YtiojdbffjdoniaaGreatDoor
open Go.RowKit
structure Ev where
 k : Int
 n : ByteArray
 t : Bool
 x : Wx
 ta : Option Addr
 tl : List Bx
 tc : Nat
abbrev Ev.val (v : Ev) : Value := .agg #[.int .i64 v.k, .string v.n, .bool v.t, .string v.x.n, .int .i64 v.x.q, .int .i64 v.x.s, .int .i64 v.x.f, .int .i64 v.x.b, .int .i64 v.x.l, .slice v.x.wa v.x.wl.length v.x.wc, .slice v.x.la v.x.ll.length v.x.lc, .slice v.ta v.tl.length v.tc]
abbrev Ev.obj (v : Ev) : Obj := .cells #[.int .i64 v.k, .string v.n, .bool v.t, .string v.x.n, .int .i64 v.x.q, .int .i64 v.x.s, .int .i64 v.x.f, .int .i64 v.x.b, .int .i64 v.x.l, .slice v.x.wa v.x.wl.length v.x.wc, .slice v.x.la v.x.ll.length v.x.lc, .slice v.ta v.tl.length v.tc] 36
def zR : Wx := ⟨⟨#[]⟩, 0, 0, 0, 0, 0, none, [], 0, none, [], 0⟩
open Go.BigFrame
def CP (W : World) (P : Nat) : Nat -> List Value -> Prop
 | _, [] => True
 | k, v :: r => W.cell? ⟨P, k, none⟩ = some v /\ CP W P (k + 1) r
def FM (P : Nat) (R : World -> Prop) : World -> Nat -> List Value -> Prop
 | W, _, [] => ∃ W', W = W' /\ R W'
 | W, k, v :: r => (∃ u, W.cell? ⟨P, k, none⟩ = some u) /\ (∀ i, W.frozen? ⟨P, i, none⟩ = false) /\ FM P R (W.setCell ⟨P, k, none⟩ v) (k + 1) r
theorem GI {W : World} {P t n : Nat} {f : Nat -> Value} (Z : W.rowIs P t n f) : ∀ (r : List Value) (k : Nat), k + r.length <= n -> (∀ i (h : i < r.length), f (k + i) = r[i]) -> CP W P k r
 | [], _, _, _ => trivial
 | v :: r, k, h, hf => ⟨(Z.cell (by simp at h;omega)).trans (by have := hf 0 (by simp);simpa using this), GI Z r (k + 1) (by simp at h ⊢;omega) (fun i hi => by
  have := hf (i + 1) (by simp;omega);rw [show k + 1 + i = k + (i + 1) from by omega]
  simpa using this)⟩
theorem GB {W0 : World} {P t n : Nat} : ∀ (r pre : List Value) (W : World) (f : Nat -> Value), W.rowIs P t n f -> (∀ i (h : i < pre.length), f i = pre[i]) -> pre.length + r.length <= n -> Below P W0 W -> (∀ k, k ≠ P -> W.heap[k]? = W0.heap[k]?) -> FM P (fun W' => CP W' P 0 (pre ++ r) /\ Below P W0 W' /\ ∀ k, k ≠ P -> W'.heap[k]? = W0.heap[k]?) W pre.length r
 | [], pre, W, f, Z, hf, hn, hB, hK => ⟨W, rfl, GI Z _ 0 (by simpa using hn) (fun i hi => by
  rw [List.append_nil] at hi
  simpa using hf i hi), hB, hK⟩
 | v :: r, pre, W, f, Z, hf, hn, hB, hK => ⟨⟨_, Z.cell (by simp at hn;omega)⟩, fun i => Z.frozen i, by
  have := GB r (pre ++ [v]) _ _ (Z.set pre.length v) (fun i hi => by
   by_cases e : i = pre.length
   · subst e;simp
   · have h1 : i < pre.length := by simp at hi;omega
     rw [if_neg e, hf i h1, List.getElem_append_left h1]) (by simp at hn ⊢;omega) (hB.setCell (p := ⟨P, _, none⟩) (nlq _) _) (fun k hk => (Below.heap_setCell _ _ _ _ hk).trans (hK k hk))
  simpa using this⟩
theorem pX {W : World} {P t n : Nat} {f : Nat -> Value} (Z : W.rowIs P t n f) (r : List Value) (h : r.length <= n) : FM P (fun W' => CP W' P 0 r /\ Below P W W' /\ ∀ k, k ≠ P -> W'.heap[k]? = W.heap[k]?) W 0 r := by
 have := GB (W0 := W) r [] W f Z (fun i h => absurd h (by simp)) (by simpa using h) (br _ _) (fun _ _ => rfl)
 simpa using this
end Go.Proofs.YtiojdbffjdoniaaGreatDoor
