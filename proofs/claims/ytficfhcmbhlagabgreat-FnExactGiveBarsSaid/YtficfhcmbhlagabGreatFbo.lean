import Derived.Test.YtficfhcmbhlagabGreatTubes
import Derived.Test.YtficfhcmbhlagabGreatNobody
namespace Go.Proofs.YtficfhcmbhlagabGreat
open Go.RowKit Go.Shelf
attribute [local go_sem] Oper.semAt_some
def freeL (nm : ByteArray) (t : List Bx) (l : List Hx) : Bool := l.all fun h => !(othB nm h.n && (nearL t h.tl || nearL t h.nl))
theorem free_done {w : World} {nm : ByteArray} {t : List Bx} {l : List Hx} {hg : ∀ x ∈ l, x.In w ∧ x.Fit} (h : ∀ x ∈ (allParts l hg).filter (othP nm), nearL t (x.1.1.pl x.1.2) = false) : freeL nm t l = true := by
  refine List.all_eq_true.2 fun a ha => ?_
  cases ho : othB nm a.n
  · rfl
  · have g : ∀ s, nearL t (a.pl s) = false := fun s => by
      obtain ⟨x, hx, ex⟩ := part_mem hg ha s
      have := h x (List.mem_filter.2 ⟨hx, by rw [othP, ex]; exact ho⟩)
      rw [ex] at this; exact this
    have g0 := g false
    have g1 := g true
    simp only [Hx.pl, Bool.false_eq_true, if_true, if_false] at g0 g1
    simp [g0, g1]
theorem free_stop {w : World} {nm : ByteArray} {t : List Bx} {l : List Hx} {hg : ∀ x ∈ l, x.In w ∧ x.Fit} {q : Nat} (hq : q ≤ l.length * 2) {x : HP w} (hx : x ∈ (upto (partAt l hg) q).filter (othP nm)) (h : nearL t (x.1.1.pl x.1.2) = true) : freeL nm t l = false := by
  refine Bool.eq_false_iff.2 fun hall => ?_
  obtain ⟨hm, ho⟩ := List.mem_filter.1 hx
  have h1 := List.all_eq_true.1 hall _ (mem_parts (upto_sub hq hm))
  obtain ⟨⟨a, s⟩, ga⟩ := x
  have ho' : othB nm a.n = true := ho
  cases s <;> simp only [Hx.pl, Bool.false_eq_true, if_true, if_false] at h <;> simp [ho', h] at h1
set_option maxRecDepth 100000 in
set_option maxHeartbeats 1000000 in
theorem fbo_in (n : Nat) (b : Bk) (nm : ByteArray) (w : World) :
    CallsIn Fence.wide n Tryz.prog 78 #[b.val, .string nm] w fun e w' => ∃ Bb Bn, e = .returned (.func (.func 122) #[] #[.pointer (some ⟨Bb, 0, none⟩), .pointer (some ⟨Bn, 0, none⟩)]) ∧ Below w.heap.size w w' ∧
      w'.heap[Bb]? = some (.cells #[.int .i64 b.now, .slice b.fa b.fl.length b.fc, .slice b.ha b.hl.length b.hc] 34) ∧ w'.cell? ⟨Bn, 0, none⟩ = some (.string nm) ∧ w.heap.size ≤ Bn := by
  refine callsIn_of_wp Tryz.func78 rfl trivial ?_ rfl
  simp only [Tryz.ntmps78, List.size_toArray, List.length_cons, List.length_nil, Nat.reduceAdd, Nat.reduceSub, Array.replicate_succ, Array.replicate_zero, List.push_toArray, List.append_toArray, List.nil_append, List.cons_append]
  gi_wp2
  go_ret
  have b2 := Boxed.new (w.alloc (.cells #[.int .i64 b.now, .slice b.fa b.fl.length b.fc, .slice b.ha b.hl.length b.hc] 34)) 9 (.string nm)
  simp only [World.size_alloc] at b2
  exact ⟨w.heap.size, w.heap.size + 1, rfl, ((Below.refl _ w).alloc (Nat.le_refl _) _).alloc (by simp) _, (Below.heap_alloc _ _ w.heap.size (by simp)).trans (World.alloc_heap_new w _), b2.cell, by omega⟩
end Go.Proofs.YtficfhcmbhlagabGreat
