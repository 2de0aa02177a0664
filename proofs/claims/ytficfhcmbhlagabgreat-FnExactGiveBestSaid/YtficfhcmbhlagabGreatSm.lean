import Derived.Test.YtficfhcmbhlagabGreatBook
import Derived.Test.YtficfhcmbhlagabGreatAny
import Derived.Test.YtficfhcmbhlagabGreatCopies
import Derived.Test.YtficfhcmbhlagabGreatMarkT
import Derived.Test.YtficfhcmbhlagabGreatWh
import Derived.Test.YtficfhcmbhlagabGreatWf
namespace Go.Proofs.YtficfhcmbhlagabGreat
open Go.RowKit
abbrev Bk.objL (b : Bk) : Obj := .cells #[.int .i64 b.now, .slice b.fa b.fl.length b.fc, .slice b.ha b.hl.length b.hc] 25
/-- What holds of the operations that hold a copy of a book against another one. -/
def E8 (b b2 : Bk) (j : Nat) (v : Value) (w : World) : Prop :=
  match j with
  | 0 => v = b2.val
  | 1 => v = b.val
  | 2 => ∃ b3 : Bk, v = b3.val ∧ Copied w b b3
  | 3 => v = .bool true
  | _ => True
theorem E8.later {b b2 : Bk} (j : Nat) (v : Value) (w w' : World) (h : E8 b b2 j v w) (hb : Below w.heap.size w w') : E8 b b2 j v w' := by
  unfold E8 at h ⊢
  split
  all_goals first
    | exact h
    | (obtain ⟨b1, e, hc⟩ := h; exact ⟨b1, e, Copied.later hc hb⟩)
    | trivial
theorem blk {w w' : World} {k : Nat} {o : Obj} (h : w.heap[k]? = some o) (hb : Below w.heap.size w w') : w'.heap[k]? = some o := (hb.block _ (Array.getElem?_eq_some_iff.1 h).1).trans h
theorem blk_but {S : Nat → Prop} {w w' : World} {k : Nat} {o : Obj} (h : w.heap[k]? = some o) (hb : But S w w') (hs : ¬ S k) : w'.heap[k]? = some o := (hb.block _ (Array.getElem?_eq_some_iff.1 h).1 hs).trans h
end Go.Proofs.YtficfhcmbhlagabGreat
namespace Go.Proofs.YtficfhcmbhlagabGreat
open Go.RowKit
abbrev Wx.objC (x : Wx) : Obj := .cells #[.string x.n, .int .i64 x.q, .int .i64 x.s, .int .i64 x.f, .int .i64 x.b, .int .i64 x.l, .slice x.wa x.wl.length x.wc, .slice x.la x.ll.length x.lc] 50
theorem CopyW.keep {z : Nat} {w w' : World} {x x' : Wx} (h : CopyW z w x x') (hk : ∀ k, z ≤ k → k < w.heap.size → w'.heap[k]? = w.heap[k]?) : CopyW z w' x x' := by
  obtain ⟨h1, h2, h3, h4, h5, h6, h7, h8, h9, p, r, e1, e2, hz, hpr, ⟨f1, R1, v1⟩, M, hlt, ⟨f2, R2, v2⟩⟩ := h
  refine ⟨h1, h2, h3, h4, h5, h6, h7, h8, h9, p, r, e1, e2, hz, hpr, ⟨f1, R1.of_block (hk p hz R1.lt), v1⟩, ⟨M.1, fun j hj hjk => ?_⟩, hlt, ⟨f2, R2.of_block (hk r (by omega) R2.lt), v2⟩⟩
  obtain ⟨a, b, g, e, hg, f3, R3, v3⟩ := M.2 j hj hjk
  exact ⟨a, b, g, e, hg, f3, R3.of_block (hk g (by omega) R3.lt), v3⟩
theorem CopyW.laEnd {z : Nat} {w : World} {x x' : Wx} (h : CopyW z w x x') : ∀ p, x'.la = some ⟨p, 0, none⟩ → p < w.heap.size := by
  obtain ⟨h1, h2, h3, h4, h5, h6, h7, h8, h9, p, r, e1, e2, hz, hpr, R1, M, hlt, R2⟩ := h
  intro q e
  rw [e2] at e
  cases e
  exact R2.lt
/-- What holds of the operations that ask for an answer to copies of a book and a wish. -/
def Q8 (b : Bk) (x : Wx) (R : Value → World → Prop) (j : Nat) (v : Value) (w : World) : Prop :=
  match j with
  | 0 => v = b.val
  | 1 => ∃ b1 : Bk, v = b1.val ∧ Copied w b b1
  | 2 => v = x.val
  | 3 => ∃ (x1 : Wx) (z : Nat), v = x1.val ∧ CopyW z w x x1
  | 4 => R v w
  | _ => True
theorem Q8.later {b : Bk} {x : Wx} {R : Value → World → Prop} (hR : ∀ v w w', R v w → Below w.heap.size w w' → R v w') (j : Nat) (v : Value) (w w' : World) (h : Q8 b x R j v w) (hb : Below w.heap.size w w') : Q8 b x R j v w' := by
  unfold Q8 at h ⊢
  split
  all_goals first
    | exact h
    | (obtain ⟨b1, e, hc⟩ := h; exact ⟨b1, e, Copied.later hc hb⟩)
    | (obtain ⟨x1, z, e, hc⟩ := h; exact ⟨x1, z, e, CopyW.later hc hb⟩)
    | exact hR _ _ _ h hb
    | trivial
def Y8 (x x2 : Wx) (j : Nat) (v : Value) (w : World) : Prop :=
  match j with
  | 0 => v = x2.val
  | 1 => v = x.val
  | 2 => ∃ (x3 : Wx) (z : Nat), v = x3.val ∧ CopyW z w x x3
  | 3 => v = .bool true
  | _ => True
theorem Y8.later {x x2 : Wx} (j : Nat) (v : Value) (w w' : World) (h : Y8 x x2 j v w) (hb : Below w.heap.size w w') : Y8 x x2 j v w' := by
  unfold Y8 at h ⊢
  split
  all_goals first
    | exact h
    | (obtain ⟨x1, z, e, hc⟩ := h; exact ⟨x1, z, e, CopyW.later hc hb⟩)
    | trivial
theorem blk_mrk {S : Nat → Prop} {w w' : World} {k : Nat} {o : Obj} (h : w.heap[k]? = some o) (hb : Mrk S w w') (hs : ¬ S k) : w'.heap[k]? = some o := (hb.block _ (Array.getElem?_eq_some_iff.1 h).1 hs).trans h
end Go.Proofs.YtficfhcmbhlagabGreat
