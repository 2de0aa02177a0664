import Derived.Test.YtficfhcmbhlagabGreatTurn
namespace Go.Proofs.YtficfhcmbhlagabGreat
open Go.RowKit Go.Shelf
attribute [local go_sem] Oper.semAt_some
set_option maxRecDepth 100000 in
set_option maxHeartbeats 1000000 in
theorem inTurn_in (n : Nat) (a b : Option Addr) (len cap k c : Nat) (w : World) :
    CallsIn Fence.wide n Tryz.prog 166 #[.slice a len cap, .slice b k c] w fun e w' => e = .returned (.func (.func 183) #[] #[.pointer (some ⟨w.heap.size, 0, none⟩), .pointer (some ⟨w.heap.size + 1, 0, none⟩)]) ∧
      w' = (w.alloc (.cells #[.slice a len cap] 32)).alloc (.cells #[.slice b k c] 215) := by
  refine callsIn_of_wp Tryz.func166 rfl trivial ?_ rfl
  simp only [Tryz.ntmps166, List.size_toArray, List.length_cons, List.length_nil, Nat.reduceAdd, Nat.reduceSub, Array.replicate_succ, Array.replicate_zero, List.push_toArray, List.append_toArray, List.nil_append, List.cons_append]
  gi_wp2
  go_ret
  exact ⟨by simp, rfl⟩
set_option maxRecDepth 100000 in
set_option maxHeartbeats 1000000 in
theorem flown_new (n : Nat) (h1 : 1 ≤ n) (a : Option Addr) (len cap : Nat) (w : World) :
    CallsIn Fence.wide n Tryz.prog 123 #[.slice a len cap] w fun e w' => ∃ Bh Bp G, e = .returned (.func (.func 183) #[] #[.pointer (some ⟨Bh, 0, none⟩), .pointer (some ⟨Bp, 0, none⟩)]) ∧ Below w.heap.size w w' ∧
      w'.cell? ⟨Bh, 0, none⟩ = some (.slice a len cap) ∧ w'.cell? ⟨Bp, 0, none⟩ = some (.slice (some ⟨G, 0, none⟩) 2 2) ∧ w'.cell? ⟨G, 0, none⟩ = some (.func (.func 167) #[] #[]) ∧ w'.cell? ⟨G, 1, none⟩ = some (.func (.func 168) #[] #[]) ∧ w.heap.size ≤ Bp ∧ w.heap.size ≤ G := by
  refine callsIn_of_wp Tryz.func123 rfl trivial ?_ rfl
  simp only [Tryz.ntmps123, List.size_toArray, List.length_cons, List.length_nil, Nat.reduceAdd, Nat.reduceSub, Array.replicate_succ, Array.replicate_zero, List.push_toArray, List.append_toArray, List.nil_append, List.cons_append]
  gi_wp2_with fail
  refine ⟨trivial, ?_⟩
  refine (inTurn_in (n - 1) _ _ _ _ _ _ _).mono ?_
  rintro e w' ⟨rfl, rfl⟩
  have b1 := Boxed.new (w.alloc (.cells #[.func (.func 167) #[] #[], .func (.func 168) #[] #[]] 199)) 32 (.slice a len cap)
  have b2 := Boxed.new ((w.alloc (.cells #[.func (.func 167) #[] #[], .func (.func 168) #[] #[]] 199)).alloc (.cells #[.slice a len cap] 32)) 215 (.slice (some ⟨w.heap.size, 0, none⟩) 2 2)
  have b0 : (w.alloc (.cells #[.func (.func 167) #[] #[], .func (.func 168) #[] #[]] 199)).heap[w.heap.size]? = some (.cells #[.func (.func 167) #[] #[], .func (.func 168) #[] #[]] 199) := World.alloc_heap_new w _
  have hB : Below w.heap.size w (((w.alloc (.cells #[.func (.func 167) #[] #[], .func (.func 168) #[] #[]] 199)).alloc (.cells #[.slice a len cap] 32)).alloc (.cells #[.slice (some ⟨w.heap.size, 0, none⟩) 2 2] 215)) :=
    (((Below.refl _ w).alloc (Nat.le_refl _) _).alloc (by simp) _).alloc (by simp; omega) _
  have b1' := b1.alloc (.cells #[.slice (some ⟨w.heap.size, 0, none⟩) 2 2] 215)
  have b0' := (Below.heap_alloc _ (.cells #[.slice (some ⟨w.heap.size, 0, none⟩) 2 2] 215) w.heap.size (by simp; omega)).trans ((Below.heap_alloc _ (.cells #[.slice a len cap] 32) w.heap.size (by simp)).trans b0)
  simp only [World.size_alloc] at b1' b2
  gi_wp2
  go_ret
  exact ⟨_, _, w.heap.size, rfl, hB, by simpa using b1'.cell, by simpa using b2.cell, obj_cell b0' rfl, obj_cell b0' rfl, by omega, Nat.le_refl _⟩
theorem flown_in (n : Nat) (h1 : 1 ≤ n) (a : Option Addr) (len cap : Nat) (w : World) :
    CallsIn Fence.wide n Tryz.prog 123 #[.slice a len cap] w fun e w' => ∃ Bh Bp G, e = .returned (.func (.func 183) #[] #[.pointer (some ⟨Bh, 0, none⟩), .pointer (some ⟨Bp, 0, none⟩)]) ∧ Below w.heap.size w w' ∧
      w'.cell? ⟨Bh, 0, none⟩ = some (.slice a len cap) ∧ w'.cell? ⟨Bp, 0, none⟩ = some (.slice (some ⟨G, 0, none⟩) 2 2) ∧ w'.cell? ⟨G, 0, none⟩ = some (.func (.func 167) #[] #[]) ∧ w'.cell? ⟨G, 1, none⟩ = some (.func (.func 168) #[] #[]) :=
  (flown_new n h1 a len cap w).mono (fun _ _ ⟨Bh, Bp, G, h1, h2, h3, h4, h5, h6, _⟩ => ⟨Bh, Bp, G, h1, h2, h3, h4, h5, h6⟩)
set_option maxRecDepth 100000 in
theorem keptK_t {B : Nat} {X Y Z : World} (h : Kept B X Y) (g : Kept B Y Z) : Kept B X Z := h.trans g
set_option maxRecDepth 100000 in
theorem keptK_b {B : Nat} {w : World} (hB : B ≤ w.heap.size) (W : World) (l : Nat) (o o' : Obj) (hl : w.heap.size ≤ l) (ho : W.heap[l]? = some o) (hc : o.isCells = false) (hw : o.isWalk = false) : Kept B W (W.putObj l o') := by
  refine ⟨belowK_b hB W l o o' hl ho hc hw, fun k u hk hu => ?_⟩
  have hne : k ≠ l := fun e => by subst e; rw [ho] at hk; cases hk; rw [hc] at hu; cases hu
  exact ((grownBy_putObj' W l o').block k (Array.getElem?_eq_some_iff.1 hk).1 (fun e => hne (Option.some.inj e))).trans hk
set_option maxRecDepth 100000 in
theorem seqK_mono {α : Type} {F : Fence} {n : Nat} {P : Program} {g : Nat} {lb : Array Value} {encs : α → Array Value} {Kp Kq : World → World → Prop} {S Sp : List α → Prop} {N : Nat} {w : World} (h : SeqStopsK F n P g lb encs Kp S Sp N w) (hk : ∀ A B, Kq A B → Kp A B) : SeqStopsK F n P g lb encs Kq S Sp N w :=
  fun l J Jx W hW hJ hJx hY h0 => h l J Jx W hW hJ hJx (fun pre x W1 hj hl => (hY pre x W1 hj hl).mono (fun _ _ r => r.imp (fun a => ⟨a.1, a.2.1, hk _ _ a.2.2⟩) id)) h0
set_option maxRecDepth 100000 in
theorem flown_stopsX (n : Nat) (Bh Bp G cap : Nat) (ao : Option Addr) (l : List Hx) (w0 : World) (hgood : ∀ x ∈ l, x.In w0 ∧ x.Fit) (hlen : l.length ≤ 1048576) (w : World) (X : Nat → Prop) (hX0 : ∀ k, X k → k < w.heap.size) (hXp : ¬ X Bp) (hXg : ¬ X G) (hXl : ∀ p, ao = some p → l ≠ [] → ¬ X p.block)
    (hBh : w.cell? ⟨Bh, 0, none⟩ = some (.slice ao l.length cap)) (hBp : w.cell? ⟨Bp, 0, none⟩ = some (.slice (some ⟨G, 0, none⟩) 2 2)) (hg0 : w.cell? ⟨G, 0, none⟩ = some (.func (.func 167) #[] #[])) (hg1 : w.cell? ⟨G, 1, none⟩ = some (.func (.func 168) #[] #[]))
    (hX : Xs 3 Hx.cells w ao l) :
    SeqStopsK Fence.wide n Tryz.prog 183 #[.pointer (some ⟨Bh, 0, none⟩), .pointer (some ⟨Bp, 0, none⟩)] (fun x : HP w0 => #[x.1.1.val, x.1.1.part x.1.2]) (KeepX X) (fun ys => ys = upto (partAt l hgood) (l.length * 2)) (fun pre => ∃ k, k ≤ l.length * 2 ∧ pre = upto (partAt l hgood) k) (l.length * 2) w := fun lp J Jx W hW hJ _ hY h0 => by
  refine turn1_in w0 n lp Bh Bp G w.heap.size cap X hX0 ao l hgood hlen hXp hXg J Jx W hW.size hJ hY ((hW.cell (cell_lt hBh)).trans hBh) ((hW.cell (cell_lt hBp)).trans hBp) ((hW.cell (cell_lt hg0)).trans hg0) ((hW.cell (cell_lt hg1)).trans hg1) ?_ h0
  rcases l with _ | ⟨x, l⟩
  · exact .inl rfl
  · rcases hX with h | ⟨bl, off, e, hc⟩
    · cases h
    · have hb : bl < w.heap.size := cell_lt (hx_at (hc 0 (by simp))).1
      exact .inr ⟨bl, off, e, hXl _ e (by simp), fun j h => tcells_below (hc j h) hW hb⟩
set_option maxRecDepth 100000 in
theorem flown_stops (n : Nat) (Bh Bp G cap : Nat) (ao : Option Addr) (l : List Hx) (w0 : World) (hgood : ∀ x ∈ l, x.In w0 ∧ x.Fit) (hlen : l.length ≤ 1048576) (w : World)
    (hBh : w.cell? ⟨Bh, 0, none⟩ = some (.slice ao l.length cap)) (hBp : w.cell? ⟨Bp, 0, none⟩ = some (.slice (some ⟨G, 0, none⟩) 2 2)) (hg0 : w.cell? ⟨G, 0, none⟩ = some (.func (.func 167) #[] #[])) (hg1 : w.cell? ⟨G, 1, none⟩ = some (.func (.func 168) #[] #[]))
    (hX : Xs 3 Hx.cells w ao l) :
    SeqStopsK Fence.wide n Tryz.prog 183 #[.pointer (some ⟨Bh, 0, none⟩), .pointer (some ⟨Bp, 0, none⟩)] (fun x : HP w0 => #[x.1.1.val, x.1.1.part x.1.2]) (Kept w.heap.size) (fun ys => ys = upto (partAt l hgood) (l.length * 2)) (fun pre => ∃ k, k ≤ l.length * 2 ∧ pre = upto (partAt l hgood) k) (l.length * 2) w :=
  seqK_mono (flown_stopsX n Bh Bp G cap ao l w0 hgood hlen w (fun _ => False) (fun _ h => h.elim) id id (fun _ _ _ => id) hBh hBp hg0 hg1 hX) (fun _ _ h => ⟨h.b.size, fun k o _ hk ho => h.c k o hk ho⟩)
end Go.Proofs.YtficfhcmbhlagabGreat
