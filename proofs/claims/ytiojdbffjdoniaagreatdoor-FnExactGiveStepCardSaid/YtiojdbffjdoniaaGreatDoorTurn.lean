import Derived.Shelf.RegionOpen
import Derived.Test.YtiojdbffjdoniaaGreatDoorBook2
import Derived.Test.YtiojdbffjdoniaaGreatDoorKeep
import Derived.Test.YtiojdbffjdoniaaGreatDoorWi
namespace Go.Proofs.YtiojdbffjdoniaaGreatDoor
set_option maxRecDepth 100000
set_option maxHeartbeats 4000000
open Go.RowKit Go.Shelf
attribute [local go_sem] Oper.semAt_some
theorem GA (h : Hx) (w : World) :
 Calls Tryz.prog 138 #[h.val] w fun e w' => e = .returned (.slice h.ta h.tl.length h.tc) /\ Below w.heap.size w w' := by
 go_enter Tryz.func138, Tryz.ntmps138
 go_wp2
 go_ret; exact ⟨rfl, (br _ _).alloc (nlq _) _⟩
theorem FQ (h : Hx) (w : World) :
 Calls Tryz.prog 139 #[h.val] w fun e w' => e = .returned (.slice h.na h.nl.length h.nc) /\ Below w.heap.size w w' := by
 go_enter Tryz.func139, Tryz.ntmps139
 go_wp2
 go_ret; exact ⟨rfl, (br _ _).alloc (nlq _) _⟩
def Hx.pa (h : Hx) (s : Bool) : Option Addr := if s then h.na else h.ta
def Hx.pl (h : Hx) (s : Bool) : List Bx := if s then h.nl else h.tl
def Hx.pc (h : Hx) (s : Bool) : Nat := if s then h.nc else h.tc
abbrev Hx.part (h : Hx) (s : Bool) : Value := .slice (h.pa s) (h.pl s).length (h.pc s)
abbrev HP (w : World) := { x : Hx × Bool // x.1.In w /\ x.1.Fit }
def QE : Hx := ⟨ByteArray.empty, none, [], 0, none, [], 0⟩
theorem F2 {w : World} {l : List Hx} (h : ∀ x ∈ l, x.In w /\ x.Fit) (j : Nat) : (dM l j).In w /\ (dM l j).Fit := by
 by_cases hj : j < l.length
 · rw [bV l j hj]; exact h _ (lgm hj)
 · have e : dM l j = QE := by simp [dM, QE, Nat.le_of_not_lt hj]
   rw [e]; exact ⟨⟨Or.inl rfl, Or.inl rfl⟩, ⟨nz _, nz _, nz _⟩⟩
def cO {w : World} (l : List Hx) (h : ∀ x ∈ l, x.In w /\ x.Fit) (m : Nat) : HP w := ⟨(dM l (m / 2), decide (m % 2 = 1)), F2 h (m / 2)⟩
theorem yO {w w' : World} {bl o B : Nat} {c : List Value} (h : aN w bl o c) (hb : Below B w w') (hl : bl < B) : aN w' bl o c := fun j v hj => (hb.cell (p := ⟨bl, o + j, none⟩) hl).trans (h j v hj)
theorem eH {W W' : World} (h : Below W.heap.size W W') : W.grownBy W' none := ⟨h.os, h.tape, h.output, h.size, fun k hk _ => h.block k hk⟩
structure lV (B : Nat) (A A' : World) : Prop where
 b : Below B A A'
 c : ∀ (k : Nat) (o : Obj), A.heap[k]? = some o -> o.isCells = true -> A'.heap[k]? = some o
theorem lV.trans {B : Nat} {X Y Z : World} (h : lV B X Y) (g : lV B Y Z) : lV B X Z := ⟨h.b.trans g.b, fun k o hk ho => g.c k o (h.c k o hk ho) ho⟩
theorem lV.of_below {B : Nat} {X Y : World} (h : Below X.heap.size X Y) (hB : B <= X.heap.size) : lV B X Y := ⟨h.mono hB, fun k _ hk _ => (h.block k (bH hk)).trans hk⟩
abbrev Hx.obj (h : Hx) : Obj := .cells #[.string h.n, .slice h.ta h.tl.length h.tc, .slice h.na h.nl.length h.nc] 42
theorem bF {w : World} {z j : Nat} {cs : Array Value} {t : TypeId} {v : Value} (h : w.heap[z]? = some (.cells cs t)) (hj : cs[j]? = some v) : w.cell? ⟨z, j, none⟩ = some v := by simp [World.cell?, h, hj]
theorem pY {w : World} {l : List Hx} (h : ∀ x ∈ l, x.In w /\ x.Fit) (k : Nat) : (cO l h (k * 2 + 0)).1 = (dM l k, false) := by
 simp only [cO, Nat.add_zero, Nat.mul_div_cancel k (by decide : 0 < 2), Nat.mul_mod_left]; rfl
theorem qG {w : World} {l : List Hx} (h : ∀ x ∈ l, x.In w /\ x.Fit) (k : Nat) : (cO l h (k * 2 + 1)).1 = (dM l k, true) := by
 simp only [cO, show (k * 2 + 1) / 2 = k by omega, show (k * 2 + 1) % 2 = 1 by omega]; rfl
theorem x8 {X : Nat -> Prop} {w w' : World} {bl o : Nat} {c : List Value} (h : aN w bl o c) (hk : aU X w w') (hx : ¬ X bl) : aN w' bl o c := fun j v hj => hk.cell (p := ⟨bl, o + j, none⟩) hx (h j v hj)
theorem MV (w0 : World) (n : Nat) (lp Bh Bp G n₀ cap : Nat) (X : Nat -> Prop) (hX0 : ∀ k, X k -> k < n₀) (ao : Option Addr) (l : List Hx) (hgood : ∀ x ∈ l, x.In w0 /\ x.Fit) (hlen : l.length <= 1048576) (hBp : ¬ X Bp) (hG : ¬ X G)
 (J Jx : List (HP w0) -> World -> Prop) (W : World) (hn₀ : n₀ <= W.heap.size) (hJa : AbidesFrom W.heap.size J)
 (hY : ∀ pre (x : HP w0) W, J pre W -> pre.length < l.length * 2 -> YieldAt Fence.wide (n - 1) Tryz.prog lp #[x.1.1.val, x.1.1.part x.1.2] W fun e W' =>
  (e = .returned (.bool true) /\ J (pre ++ [x]) W' /\ aU X W W') ∨ (e = .returned (.bool false) /\ Jx (pre ++ [x]) W'))
 (hBhc : W.cell? ⟨Bh, 0, none⟩ = some (.slice ao l.length cap)) (hBpc : W.cell? ⟨Bp, 0, none⟩ = some (.slice (some ⟨G, 0, none⟩) 2 2))
 (hg0 : W.cell? ⟨G, 0, none⟩ = some (.func (.func 138) #[] #[])) (hg1 : W.cell? ⟨G, 1, none⟩ = some (.func (.func 139) #[] #[]))
 (hX : l = [] ∨ ∃ bl off, ao = some ⟨bl, off, none⟩ /\ ¬ X bl /\ ∀ j (h : j < l.length), aN W bl (off + j * 3) l[j].cells) (h0 : J [] W) :
 CallsIn Fence.wide n Tryz.prog 168 #[.func (.yield lp) #[] #[], .pointer (some ⟨Bh, 0, none⟩), .pointer (some ⟨Bp, 0, none⟩)] W fun e W' => (∃ v, e = .returned v) /\
  ((∃ ys, ys = bI (cO l hgood) (l.length * 2) /\ J ys W') ∨ (∃ pre, (∃ k, k <= l.length * 2 /\ pre = bI (cO l hgood) k) /\ Jx pre W')) := by
 refine callsIn_of_wp Tryz.func168 rfl trivial ?_ rfl; simp only [Tryz.ntmps168, lsz, llc, lln, Nat.reduceAdd, Nat.reduceSub, ars, arz, lpt, lap, lna, lca]; gi_wp2
 gi_loopw [10] (fun i wr => ∃ k : Nat, k <= l.length /\ i = .int .i64 k /\ J (bI (cO l hgood) (k * 2)) wr /\ aU X W wr) (fun i _ => l.length - (intOf i).toNat)
 case atStart => exact ⟨0, nz _, rfl, h0, aU.refl _ _⟩
 case round =>
  obtain ⟨k, hk, rfl, hJs, hnx⟩ := hrel
  by_cases hlt : k < l.length
  · obtain ⟨bl, off, rfl, hb, hc⟩ := hX.resolve_left (fun e => by rw [e] at hlt; simp at hlt)
    have hcb := hnx.cell (p := ⟨Bp, 0, none⟩) hBp hBpc; have hcx := x8 (hc k hlt) hnx hb; obtain ⟨h, hbe⟩ : ∃ h, h = dM l k := ⟨_, rfl⟩; rw [← bV l k hlt, ← hbe] at hcx; have HB : Hid (h = dM l k) := hbe; clear hbe; obtain ⟨c0, c1, c2⟩ := eY hcx; clear hcx; have hz : Bp < wr.heap.size := aB hcb; have hgr : n₀ <= wr.heap.size := Nat.le_trans hn₀ hnx.size; have hnew : (wr.alloc h.obj).heap[wr.heap.size]? = some h.obj := wnq wr _; have hJn : J (bI (cO l hgood) (k * 2)) (wr.alloc h.obj) := hJa _ _ _ none hJs (eH ((br _ _).alloc (nlq _) _)) (fun r e => by cases e); have hBn : aU X W (wr.alloc h.obj) := hnx.trans (aU.of_below ((br _ _).alloc (nlq _) _)); gi_wp2; obtain ⟨z, hze⟩ : ∃ z, z = wr.heap.size := ⟨_, rfl⟩; have hzX : ¬ X z := fun e => by have := hX0 _ e; omega
    rw [← hze] at hnew ⊢; clear hcb c0 c1 c2 hz hJs hnx hze
    gi_loopw [16] (fun i wr' => ∃ s : Nat, s <= 2 /\ i = .int .i64 s /\ J (bI (cO l hgood) (k * 2 + s)) wr' /\ aU X W wr' /\ wr'.heap[z]? = some h.obj) (fun i _ => 2 - (intOf i).toNat)
    case atStart => exact ⟨0, by omega, rfl, hJn, hBn, hnew⟩
    case round =>
     clear hnew hJn hBn hgr; obtain ⟨s, hs, rfl, hJ2, hnx2, hzo⟩ := hrel; have hcb2 := hnx2.cell (p := ⟨Bp, 0, none⟩) hBp hBpc; have hk0 := hnx2.cell (p := ⟨G, 0, none⟩) hG hg0; have hk1 := hnx2.cell (p := ⟨G, 1, none⟩) hG hg1; have e0 : wr.cell? ⟨z, 0, none⟩ = some (.string h.n) := bF hzo rfl; have e1 : wr.cell? ⟨z, 1, none⟩ = some (.slice h.ta h.tl.length h.tc) := bF hzo rfl; have e2 : wr.cell? ⟨z, 2, none⟩ = some (.slice h.na h.nl.length h.nc) := bF hzo rfl
     rcases (by omega : s = 0 ∨ s = 1 ∨ s = 2) with rfl | rfl | rfl
     · gi_wp2_with fail
       refine jU 5 (by kernel_rfl) (by kernel_rfl) ?_; have HA : Nonempty (bG wr) := ⟨⟨wr, br _ _⟩⟩; have f0 := fun s : bG wr => bG.cell e0 s; have f1 := fun s : bG wr => bG.cell e1 s; have f2 := fun s : bG wr => bG.cell e2 s; clear e0 e1 e2 hcb2 hk0 hk1; simp only [lts, List.take_zero, lds, List.drop_zero]
       repeat (go_big_quiet_step ((go_at_call 138; exact bG.call _ (GA h _))))
       refine wpQuiet_nil ?_; rintro _ ⟨st, rfl⟩; have hxe : (cO l hgood (k * 2 + 0)).1 = (h, false) := by rw [HB.out]; exact pY hgood k
       have hJd : J (bI (cO l hgood) (k * 2 + 0)) st.w := hJa _ _ _ none hJ2 (eH st.h) (fun r e => by cases e); obtain ⟨fn, tmps, assign, body, hy, hR⟩ := hY _ (cO l hgood (k * 2 + 0)) st.w hJd (by rw [dD]; omega); rw [hxe] at hy; have HR := hR; have hzn : st.w.heap[z]? = some h.obj := (st.h.block z (bH hzo)).trans hzo; have hBt : aU X W st.w := hnx2.trans (aU.of_below st.h); clear hR hY hJd f0 f1 f2; simp only [Hx.part, Hx.pa, Hx.pl, Hx.pc, Hx.val, Bool.false_eq_true, if_false] at hy; gi_wp2_with fail
       refine ⟨fun h => (by cases h), ?_⟩; refine RoundIn.mono HR ?_; rintro e W3 (⟨rfl, hJ3, hk3⟩ | ⟨rfl, hJx3⟩)
       · clear HR hy
         gi_wp2; refine ⟨⟨0 + 1, by omega, rfl, ?_, hBt.trans hk3, hk3.c z _ hzX hzn rfl⟩, by simp [intOf]⟩; have hu := b9 (cO l hgood) (k * 2 + 0); rw [show k * 2 + (0 + 1) = k * 2 + 0 + 1 by omega, hu]; exact hJ3
       · clear HR hy
         gi_wp2; refine bpr (results_none rfl _ _ _) rfl ?_; exact ⟨⟨_, rfl⟩, .inr ⟨_, ⟨k * 2 + 0 + 1, by omega, (b9 _ _).symm⟩, hJx3⟩⟩
     · gi_wp2_with fail
       refine jU 5 (by kernel_rfl) (by kernel_rfl) ?_; have HA : Nonempty (bG wr) := ⟨⟨wr, br _ _⟩⟩; have f0 := fun s : bG wr => bG.cell e0 s; have f1 := fun s : bG wr => bG.cell e1 s; have f2 := fun s : bG wr => bG.cell e2 s; clear e0 e1 e2 hcb2 hk0 hk1; simp only [lts, List.take_zero, lds, List.drop_zero]
       repeat (go_big_quiet_step ((go_at_call 139; exact bG.call _ (FQ h _))))
       refine wpQuiet_nil ?_; rintro _ ⟨st, rfl⟩; have hxe : (cO l hgood (k * 2 + 1)).1 = (h, true) := by rw [HB.out]; exact qG hgood k
       have hJd : J (bI (cO l hgood) (k * 2 + 1)) st.w := hJa _ _ _ none hJ2 (eH st.h) (fun r e => by cases e); obtain ⟨fn, tmps, assign, body, hy, hR⟩ := hY _ (cO l hgood (k * 2 + 1)) st.w hJd (by rw [dD]; omega); rw [hxe] at hy; have HR := hR; have hzn : st.w.heap[z]? = some h.obj := (st.h.block z (bH hzo)).trans hzo; have hBt : aU X W st.w := hnx2.trans (aU.of_below st.h); clear hR hY hJd f0 f1 f2; simp only [Hx.part, Hx.pa, Hx.pl, Hx.pc, Hx.val, if_true] at hy; gi_wp2_with fail
       refine ⟨fun h => (by cases h), ?_⟩; refine RoundIn.mono HR ?_; rintro e W3 (⟨rfl, hJ3, hk3⟩ | ⟨rfl, hJx3⟩)
       · clear HR hy
         gi_wp2; refine ⟨⟨1 + 1, by omega, rfl, ?_, hBt.trans hk3, hk3.c z _ hzX hzn rfl⟩, by simp [intOf]⟩; have hu := b9 (cO l hgood) (k * 2 + 1); rw [show k * 2 + (1 + 1) = k * 2 + 1 + 1 by omega, hu]; exact hJ3
       · clear HR hy
         gi_wp2; refine bpr (results_none rfl _ _ _) rfl ?_; exact ⟨⟨_, rfl⟩, .inr ⟨_, ⟨k * 2 + 1 + 1, by omega, (b9 _ _).symm⟩, hJx3⟩⟩
     · clear e0 e1 e2 hk0 hk1 hcb2
       gi_wp2; refine ⟨⟨k + 1, by omega, by go_num, ?_, hnx2⟩, by simp [intOf]; omega⟩; rw [show (k + 1) * 2 = k * 2 + 2 by omega]; exact hJ2
  · have hke : k = l.length := by omega
    gi_wp2
    go_end0
    exact ⟨⟨_, rfl⟩, .inl ⟨_, rfl, by rw [← hke]; exact hJs⟩⟩
theorem I4 (n : Nat) (a b : Option Addr) (len cap k c : Nat) (w : World) :
 CallsIn Fence.wide n Tryz.prog 137 #[.slice a len cap, .slice b k c] w fun e w' => e = .returned (.func (.func 168) #[] #[.pointer (some ⟨w.heap.size, 0, none⟩), .pointer (some ⟨w.heap.size + 1, 0, none⟩)]) /\
  w' = (w.alloc (.cells #[.slice a len cap] 27)).alloc (.cells #[.slice b k c] 228) := by
 refine callsIn_of_wp Tryz.func137 rfl trivial ?_ rfl; simp only [Tryz.ntmps137, lsz, llc, lln, Nat.reduceAdd, Nat.reduceSub, ars, arz, lpt, lap, lna, lca]; gi_wp2; go_ret; exact ⟨by simp, rfl⟩
theorem xB (n : Nat) (h1 : 1 <= n) (a : Option Addr) (len cap : Nat) (w : World) :
 CallsIn Fence.wide n Tryz.prog 91 #[.slice a len cap] w fun e w' => ∃ Bh Bp G, e = .returned (.func (.func 168) #[] #[.pointer (some ⟨Bh, 0, none⟩), .pointer (some ⟨Bp, 0, none⟩)]) /\ Below w.heap.size w w' /\
  w'.cell? ⟨Bh, 0, none⟩ = some (.slice a len cap) /\ w'.cell? ⟨Bp, 0, none⟩ = some (.slice (some ⟨G, 0, none⟩) 2 2) /\ w'.cell? ⟨G, 0, none⟩ = some (.func (.func 138) #[] #[]) /\ w'.cell? ⟨G, 1, none⟩ = some (.func (.func 139) #[] #[]) /\ w.heap.size <= Bp /\ w.heap.size <= G := by
 refine callsIn_of_wp Tryz.func91 rfl trivial ?_ rfl; simp only [Tryz.ntmps91, lsz, llc, lln, Nat.reduceAdd, Nat.reduceSub, ars, arz, lpt, lap, lna, lca]; gi_wp2_with fail
 refine ⟨trivial, ?_⟩; refine (I4 (n - 1) _ _ _ _ _ _ _).mono ?_; rintro e w' ⟨rfl, rfl⟩; have b1 := Boxed.new (w.alloc (.cells #[.func (.func 138) #[] #[], .func (.func 139) #[] #[]] 207)) 27 (.slice a len cap); have b2 := Boxed.new ((w.alloc (.cells #[.func (.func 138) #[] #[], .func (.func 139) #[] #[]] 207)).alloc (.cells #[.slice a len cap] 27)) 228 (.slice (some ⟨w.heap.size, 0, none⟩) 2 2); have b0 : (w.alloc (.cells #[.func (.func 138) #[] #[], .func (.func 139) #[] #[]] 207)).heap[w.heap.size]? = some (.cells #[.func (.func 138) #[] #[], .func (.func 139) #[] #[]] 207) := wnq w _
 have hB : Below w.heap.size w (((w.alloc (.cells #[.func (.func 138) #[] #[], .func (.func 139) #[] #[]] 207)).alloc (.cells #[.slice a len cap] 27)).alloc (.cells #[.slice (some ⟨w.heap.size, 0, none⟩) 2 2] 228)) :=
  (((br _ w).alloc (nlq _) _).alloc (by simp) _).alloc (by simp; omega) _
 have b1' := b1.alloc (.cells #[.slice (some ⟨w.heap.size, 0, none⟩) 2 2] 228); have b0' := (halq _ (.cells #[.slice (some ⟨w.heap.size, 0, none⟩) 2 2] 228) w.heap.size (by simp; omega)).trans ((halq _ (.cells #[.slice a len cap] 27) w.heap.size (by simp)).trans b0); simp only [wsa] at b1' b2; gi_wp2; go_ret; exact ⟨_, _, w.heap.size, rfl, hB, by simpa using b1'.cell, by simpa using b2.cell, bF b0' rfl, bF b0' rfl, by omega, nlq _⟩
theorem vM (n : Nat) (h1 : 1 <= n) (a : Option Addr) (len cap : Nat) (w : World) :
 CallsIn Fence.wide n Tryz.prog 91 #[.slice a len cap] w fun e w' => ∃ Bh Bp G, e = .returned (.func (.func 168) #[] #[.pointer (some ⟨Bh, 0, none⟩), .pointer (some ⟨Bp, 0, none⟩)]) /\ Below w.heap.size w w' /\
  w'.cell? ⟨Bh, 0, none⟩ = some (.slice a len cap) /\ w'.cell? ⟨Bp, 0, none⟩ = some (.slice (some ⟨G, 0, none⟩) 2 2) /\ w'.cell? ⟨G, 0, none⟩ = some (.func (.func 138) #[] #[]) /\ w'.cell? ⟨G, 1, none⟩ = some (.func (.func 139) #[] #[]) :=
 (xB n h1 a len cap w).mono (fun _ _ ⟨Bh, Bp, G, h1, h2, h3, h4, h5, h6, _⟩ => ⟨Bh, Bp, G, h1, h2, h3, h4, h5, h6⟩)
theorem xX {B : Nat} {X Y Z : World} (h : lV B X Y) (g : lV B Y Z) : lV B X Z := h.trans g
theorem x9 {B : Nat} {w : World} (hB : B <= w.heap.size) (W : World) (l : Nat) (o o' : Obj) (hl : w.heap.size <= l) (ho : W.heap[l]? = some o) (hc : o.isCells = false) (hw : o.isWalk = false) : lV B W (W.putObj l o') := by
 refine ⟨belowK_b hB W l o o' hl ho hc hw, fun k u hk hu => ?_⟩; have hne : k ≠ l := fun e => by subst e; rw [ho] at hk; cases hk; rw [hc] at hu; cases hu
 exact ((grownBy_putObj' W l o').block k (bH hk) (fun e => hne (Option.some.inj e))).trans hk
theorem IW {α : Type} {F : Fence} {n : Nat} {P : Program} {g : Nat} {lb : Array Value} {encs : α -> Array Value} {Kp Kq : World -> World -> Prop} {S Sp : List α -> Prop} {N : Nat} {w : World} (h : SeqStopsK F n P g lb encs Kp S Sp N w) (hk : ∀ A B, Kq A B -> Kp A B) : SeqStopsK F n P g lb encs Kq S Sp N w :=
 fun l J Jx W hW hJ hJx hY h0 => h l J Jx W hW hJ hJx (fun pre x W1 hj hl => (hY pre x W1 hj hl).mono (fun _ _ r => r.imp (fun a => ⟨a.1, a.2.1, hk _ _ a.2.2⟩) id)) h0
theorem qW (n : Nat) (Bh Bp G cap : Nat) (ao : Option Addr) (l : List Hx) (w0 : World) (hgood : ∀ x ∈ l, x.In w0 /\ x.Fit) (hlen : l.length <= 1048576) (w : World) (X : Nat -> Prop) (hX0 : ∀ k, X k -> k < w.heap.size) (hXp : ¬ X Bp) (hXg : ¬ X G) (hXl : ∀ p, ao = some p -> l ≠ [] -> ¬ X p.block)
 (hBh : w.cell? ⟨Bh, 0, none⟩ = some (.slice ao l.length cap)) (hBp : w.cell? ⟨Bp, 0, none⟩ = some (.slice (some ⟨G, 0, none⟩) 2 2)) (hg0 : w.cell? ⟨G, 0, none⟩ = some (.func (.func 138) #[] #[])) (hg1 : w.cell? ⟨G, 1, none⟩ = some (.func (.func 139) #[] #[]))
 (hX : Xs 3 Hx.cells w ao l) :
 SeqStopsK Fence.wide n Tryz.prog 168 #[.pointer (some ⟨Bh, 0, none⟩), .pointer (some ⟨Bp, 0, none⟩)] (fun x : HP w0 => #[x.1.1.val, x.1.1.part x.1.2]) (aU X) (fun ys => ys = bI (cO l hgood) (l.length * 2)) (fun pre => ∃ k, k <= l.length * 2 /\ pre = bI (cO l hgood) k) (l.length * 2) w := fun lp J Jx W hW hJ _ hY h0 => by
 refine MV w0 n lp Bh Bp G w.heap.size cap X hX0 ao l hgood hlen hXp hXg J Jx W hW.size hJ hY ((hW.cell (aB hBh)).trans hBh) ((hW.cell (aB hBp)).trans hBp) ((hW.cell (aB hg0)).trans hg0) ((hW.cell (aB hg1)).trans hg1) ?_ h0
 rcases l with _ | ⟨x, l⟩
 · exact .inl rfl
 · rcases hX with h | ⟨bl, off, e, hc⟩
   · cases h
   · have hb : bl < w.heap.size := aB (eY (hc 0 (by simp))).1
     exact .inr ⟨bl, off, e, hXl _ e (by simp), fun j h => yO (hc j h) hW hb⟩
theorem nJ (n : Nat) (Bh Bp G cap : Nat) (ao : Option Addr) (l : List Hx) (w0 : World) (hgood : ∀ x ∈ l, x.In w0 /\ x.Fit) (hlen : l.length <= 1048576) (w : World)
 (hBh : w.cell? ⟨Bh, 0, none⟩ = some (.slice ao l.length cap)) (hBp : w.cell? ⟨Bp, 0, none⟩ = some (.slice (some ⟨G, 0, none⟩) 2 2)) (hg0 : w.cell? ⟨G, 0, none⟩ = some (.func (.func 138) #[] #[])) (hg1 : w.cell? ⟨G, 1, none⟩ = some (.func (.func 139) #[] #[]))
 (hX : Xs 3 Hx.cells w ao l) :
 SeqStopsK Fence.wide n Tryz.prog 168 #[.pointer (some ⟨Bh, 0, none⟩), .pointer (some ⟨Bp, 0, none⟩)] (fun x : HP w0 => #[x.1.1.val, x.1.1.part x.1.2]) (lV w.heap.size) (fun ys => ys = bI (cO l hgood) (l.length * 2)) (fun pre => ∃ k, k <= l.length * 2 /\ pre = bI (cO l hgood) k) (l.length * 2) w :=
 IW (qW n Bh Bp G cap ao l w0 hgood hlen w (fun _ => False) (fun _ h => h.elim) id id (fun _ _ _ => id) hBh hBp hg0 hg1 hX) (fun _ _ h => ⟨h.b.size, fun k o _ hk ho => h.c k o hk ho⟩)
end Go.Proofs.YtiojdbffjdoniaaGreatDoor
namespace Go.Proofs.YtiojdbffjdoniaaGreatDoor
set_option maxRecDepth 100000
set_option maxHeartbeats 1000000
open Go.RowKit
structure mW (z : Nat) (w : World) (h h' : Hx) : Prop where
 like : h.Like h'
 rt : ∃ p, h'.ta = some ⟨p, 0, none⟩ /\ z <= p /\ eZ w p h'.tl.length h'.tl h'.tl.length
 rn : ∃ p, h'.na = some ⟨p, 0, none⟩ /\ z <= p /\ eZ w p h'.nl.length h'.nl h'.nl.length
theorem mW.inn {z : Nat} {w : World} {h h' : Hx} (m : mW z w h h') : h'.In w := by
 obtain ⟨p, e, _, r⟩ := m.rt; obtain ⟨q, e2, _, r2⟩ := m.rn; exact ⟨by rw [e]; exact r.bxs (nlq _) (nlq _), by rw [e2]; exact r2.bxs (nlq _) (nlq _)⟩
theorem JZ (w : World) (t : Nat) (v0 v1 v2 : Value) : (w.alloc (.cells #[v0, v1, v2] t)).rowIs w.heap.size t 3 (fun i => (#[v0, v1, v2] : Array Value).getD i undef) :=
 World.rowIs_alloc w #[v0, v1, v2] t _ (fun i hi => by simp at hi; match i, hi with | 0, _ => rfl | 1, _ => rfl | 2, _ => rfl)
theorem eZ.setOther {w : World} {bl n k : Nat} {l : List Bx} (h : eZ w bl n l k) {a : Addr} (ha : bl ≠ a.block) (v : Value) : eZ (w.setCell a v) bl n l k := by
 obtain ⟨f, hrow, hf⟩ := h; exact ⟨f, hrow.setOther ha v, hf⟩
theorem EW (h : Hx) (w : World) (hi : h.In w) (hf : h.Fit) :
 Calls Tryz.prog 100 #[h.val] w fun e w' => (∃ h', e = .returned h'.val /\ mW w.heap.size w' h h') /\ Below w.heap.size w w' := by
 go_enter Tryz.func100, Tryz.ntmps100
 go_wp2_with fail
 have a2 := bF (z := w.heap.size) (j := 2) (v := .slice h.na h.nl.length h.nc) ((halq ((w.alloc (.cells #[.string h.n, .slice h.ta h.tl.length h.tc, .slice h.na h.nl.length h.nc] 154)).alloc (.cells #[.string ByteArray.empty, .slice none 0 0, .slice none 0 0] 42)) (.cells #[.string h.n, .slice none 0 0, .slice none 0 0] 42) w.heap.size (by simp; omega)).trans ((halq (w.alloc (.cells #[.string h.n, .slice h.ta h.tl.length h.tc, .slice h.na h.nl.length h.nc] 154)) (.cells #[.string ByteArray.empty, .slice none 0 0, .slice none 0 0] 42) w.heap.size (by simp)).trans (wnq w _))) rfl; have rR := (JZ (w.alloc (.cells #[.string h.n, .slice h.ta h.tl.length h.tc, .slice h.na h.nl.length h.nc] 154)) 42 (.string ByteArray.empty) (.slice none 0 0) (.slice none 0 0)).alloc (.cells #[.string h.n, .slice none 0 0, .slice none 0 0] 42); have rO := JZ ((w.alloc (.cells #[.string h.n, .slice h.ta h.tl.length h.tc, .slice h.na h.nl.length h.nc] 154)).alloc (.cells #[.string ByteArray.empty, .slice none 0 0, .slice none 0 0] 42)) 42 (.string h.n) (.slice none 0 0) (.slice none 0 0); have hB0 : Below w.heap.size w (((w.alloc (.cells #[.string h.n, .slice h.ta h.tl.length h.tc, .slice h.na h.nl.length h.nc] 154)).alloc (.cells #[.string ByteArray.empty, .slice none 0 0, .slice none 0 0] 42)).alloc (.cells #[.string h.n, .slice none 0 0, .slice none 0 0] 42)) := aA (aA (aA (br _ _) _) _) _; have hz : (((w.alloc (.cells #[.string h.n, .slice h.ta h.tl.length h.tc, .slice h.na h.nl.length h.nc] 154)).alloc (.cells #[.string ByteArray.empty, .slice none 0 0, .slice none 0 0] 42)).alloc (.cells #[.string h.n, .slice none 0 0, .slice none 0 0] 42)).heap.size = w.heap.size + 3 := by simp
 simp only [wsa] at rR rO; obtain ⟨W0, hW0⟩ : ∃ W0, ((w.alloc (.cells #[.string h.n, .slice h.ta h.tl.length h.tc, .slice h.na h.nl.length h.nc] 154)).alloc (.cells #[.string ByteArray.empty, .slice none 0 0, .slice none 0 0] 42)).alloc (.cells #[.string h.n, .slice none 0 0, .slice none 0 0] 42) = W0 := ⟨_, rfl⟩; rw [hW0] at a2 rR rO hB0 hz; have hcall := pB h.tl h.ta h.tc W0 (hi.1.zL hB0) hf.tn; rw [← hW0] at hcall; refine hcall.mono ?_; rw [hW0]; rintro e w1 ⟨rfl, hr1, hb1⟩; clear hcall hW0; rw [hz] at hr1 ⊢; have rR1 := rR.of_block (hb1.block _ rR.lt); have rO1 := rO.of_block (hb1.block _ rO.lt); have a21 := (hb1.cell (aB a2)).trans a2; have hz1 : w.heap.size + 3 < w1.heap.size := by obtain ⟨f, hrow, _⟩ := hr1; exact hrow.lt
 have hB1 : Below w.heap.size w w1 := aD hB0 hb1; clear rR rO a2 hb1 hB0 hz; have o0 := rO1.cell (i := 0) (by omega); have o1 := rO1.cell (i := 1) (by omega); have o2 := rO1.cell (i := 2) (by omega); have fO := fun i => rO1.frozen i; go_wp2_with fail
 have rO2 := rO1.set 1 (.slice (some ⟨w.heap.size + 3, 0, none⟩) h.tl.length h.tl.length); have rR2 := rR1.setOther (a := ⟨w.heap.size + 1 + 1, 1, none⟩) (by simp) (.slice (some ⟨w.heap.size + 3, 0, none⟩) h.tl.length h.tl.length); have hr2 := hr1.setOther (a := ⟨w.heap.size + 1 + 1, 1, none⟩) (by simp) (.slice (some ⟨w.heap.size + 3, 0, none⟩) h.tl.length h.tl.length); have hB2 : Below w.heap.size w (w1.setCell ⟨w.heap.size + 1 + 1, 1, none⟩ (.slice (some ⟨w.heap.size + 3, 0, none⟩) h.tl.length h.tl.length)) := hB1.setCell (by simp; omega) _; have hz2 : (w1.setCell ⟨w.heap.size + 1 + 1, 1, none⟩ (.slice (some ⟨w.heap.size + 3, 0, none⟩) h.tl.length h.tl.length)).heap.size = w1.heap.size := by simp
 obtain ⟨W2, hW2⟩ : ∃ W2, w1.setCell ⟨w.heap.size + 1 + 1, 1, none⟩ (.slice (some ⟨w.heap.size + 3, 0, none⟩) h.tl.length h.tl.length) = W2 := ⟨_, rfl⟩; rw [hW2] at rO2 rR2 hr2 hB2 hz2 ⊢; clear hW2 rO1 rR1 hr1 hB1 a21 o0 o1 o2 fO; refine (pB h.nl h.na h.nc W2 (hi.2.zL hB2) hf.nn).mono ?_; rintro e w3 ⟨rfl, hr3, hb3⟩; rw [hz2] at hr3 ⊢; have rR3 := rR2.of_block (hb3.block _ rR2.lt); have rO3 := rO2.of_block (hb3.block _ rO2.lt); have hr4 := hr2.zL hb3; have hB3 : Below w.heap.size w w3 := aD hB2 hb3; have hz3 : w1.heap.size < w3.heap.size := by obtain ⟨f, hrow, _⟩ := hr3; exact hrow.lt
 clear rR2 rO2 hr2 hB2 hb3 hz2 hi; have o0 := rO3.cell (i := 0) (by omega); have o1 := rO3.cell (i := 1) (by omega); have o2 := rO3.cell (i := 2) (by omega); have fO := fun i => rO3.frozen i; have p0 := rR3.cell (i := 0) (by omega); have p1 := rR3.cell (i := 1) (by omega); have p2 := rR3.cell (i := 2) (by omega); have fR := fun i => rR3.frozen i; have o0' : w3.cell? ⟨w.heap.size + 1 + 1, 0, none⟩ = some (.string h.n) := o0; have o1' : w3.cell? ⟨w.heap.size + 1 + 1, 1, none⟩ = some (.slice (some ⟨w.heap.size + 3, 0, none⟩) h.tl.length h.tl.length) := o1; clear o0 o1; go_wp2
 refine bpr (v := Hx.val ⟨h.n, some ⟨w.heap.size + 3, 0, none⟩, h.tl, h.tl.length, some ⟨w1.heap.size, 0, none⟩, h.nl, h.nl.length⟩) (by simp [results, Tryz.results100, go_sem, p0, p1, p2]) rfl ?_; refine ⟨⟨_, rfl, ⟨rfl, rfl, rfl⟩, ⟨_, rfl, by omega, ?_⟩, ⟨_, rfl, by omega, ?_⟩⟩, ?_⟩
 · exact (((hr4.setOther (by simp) _).setOther (by simp) _).setOther (by simp) _).setOther (by simp) _
 · exact (((hr3.setOther (by simp; omega) _).setOther (by simp; omega) _).setOther (by simp; omega) _).setOther (by simp; omega) _
 · exact (((hB3.setCell (by simp; omega) _).setCell (by simp) _).setCell (by simp) _).setCell (by simp) _
theorem Tryz.info42 : (Tryz.prog.info? 42).map (fun i => (i.zero, i.size, i.bytes)) = some (some (.agg #[.string ByteArray.empty, .slice none 0 0, .slice none 0 0]), 3, 64) := by kernel_rfl
theorem QA (n : Nat) (hn : n <= 1048576) (w : World) :
 (Instr.makeSlice 27 (.int .i64 (n : Int)) (.int .i64 (n : Int))).run Tryz.prog w = .ok (.slice (some ⟨w.heap.size, 0, none⟩) n n) (w.alloc (.cells (madeCells #[.string ByteArray.empty, .slice none 0 0, .slice none 0 0] (n * 3)) 42)) := by
 obtain ⟨i, hi, hz0, hz1, hz2⟩ := info_parts Tryz.info42; have hr := run_make (P := Tryz.prog) w 27 42 i _ Tryz.underlying27 hi hz0 .i64 .i64 n n (by omega) (Int.le_refl _) (by rw [hz2]; omega) (by omega); rw [hz1, Int.toNat_natCast] at hr; exact hr
theorem mW.zL {z : Nat} {w w' : World} {h h' : Hx} (m : mW z w h h') (hb : Below w.heap.size w w') : mW z w' h h' := by
 obtain ⟨l, ⟨p, e, hz, r⟩, q, e2, hz2, r2⟩ := m; exact ⟨l, ⟨p, e, hz, r.zL hb⟩, q, e2, hz2, r2.zL hb⟩
theorem mW.store {z : Nat} {w : World} {h h' : Hx} (m : mW (z + 1) w h h') (o : Nat) (v : Value) : mW (z + 1) (w.setCell ⟨z, o, none⟩ v) h h' := by
 obtain ⟨l, ⟨p, e, hz, r⟩, q, e2, hz2, r2⟩ := m; exact ⟨l, ⟨p, e, hz, r.setOther (by simp; omega) v⟩, q, e2, hz2, r2.setOther (by simp; omega) v⟩
theorem mW.weak {z z' : Nat} {w : World} {h h' : Hx} (m : mW z w h h') (hz : z' <= z) : mW z' w h h' := by
 obtain ⟨l, ⟨p, e, h1, r⟩, q, e2, h2, r2⟩ := m; exact ⟨l, ⟨p, e, by omega, r⟩, q, e2, by omega, r2⟩
def j6 (z : Nat) (w : World) (l m : List Hx) (k : Nat) : Prop := ∃ hl : m.length = l.length, ∀ j (h : j < l.length), j < k -> mW z w l[j] (m[j]'(by omega))
theorem sK (l : List Hx) (ao : Option Addr) (cap : Nat) (w : World) (hl : Xs 3 Hx.cells w ao l) (hn : l.length <= 1048576) (hg : ∀ h ∈ l, h.In w /\ h.Fit) :
 Calls Tryz.prog 49 #[.slice ao l.length cap] w fun e w' => (∃ m, e = .returned (.slice (some ⟨w.heap.size, 0, none⟩) l.length l.length) /\ bJ 42 3 Hx.cells w' w.heap.size l.length m l.length /\ j6 (w.heap.size + 1) w' l m l.length) /\ Below w.heap.size w w' := by
 have hmk := QA l.length hn
 go_enter Tryz.func49, Tryz.ntmps49
 go_wp2
 go_loopw [4] (fun i wr => ∃ (k : Nat) (L : List Hx), k <= l.length /\ i = .int .i64 k /\ bJ 42 3 Hx.cells wr w.heap.size l.length L k /\ Hid (j6 (w.heap.size + 1) wr l L k) /\ Below w.heap.size w wr) (fun i _ => l.length - (intOf i).toNat)
 case atStart => exact ⟨0, l, nz _, rfl, bJ.start _ _ _ _ _ _, ⟨rfl, fun j _ h => absurd h (by omega)⟩, aA (br _ _) _⟩
 case round =>
  clear hmk; obtain ⟨k, L, hk, rfl, hR, hM, hN⟩ := hrel
  by_cases hlt : k < l.length
  · rcases hl with h | ⟨bl, off, rfl, hc⟩
    · subst h; simp at hlt
    · have hbx := (hc k hlt).zL hN
      have hgk := hg l[k] (lgm hlt); obtain ⟨b, hbe⟩ : ∃ b, b = l[k] := ⟨_, rfl⟩; rw [← hbe] at hbx hgk; have HB : Hid (b = l[k]) := hbe; clear hbe hc; obtain ⟨c0, c1, c2⟩ := eY hbx; clear hbx; obtain ⟨f, hrow, hf⟩ := hR; have HF : Hid (∀ i (h : i < L.length), i < k -> ∀ j v, (Hx.cells L[i])[j]? = some v -> f (i * 3 + j) = v) := hf; clear hf
      go_wp2_with (go_at_call 100; refine (EW b _ (hgk.1.zL hN) hgk.2).mono ?_; rintro e w1 ⟨⟨h', rfl, hmade⟩, hb1⟩; have hrow1 := hrow.of_block (hb1.block _ hrow.lt); have hN1 : Below w.heap.size w w1 := aT hN (nlq _) hb1; have hM1 : Hid (j6 (w.heap.size + 1) w1 l L k) := ⟨hM.out.1, fun j hj hjk => (hM.out.2 j hj hjk).zL hb1⟩; have hmade := hmade.weak (z' := w.heap.size + 1) hrow.lt; clear hM hN hrow c0 c1 c2 hb1; have hfr := fun i => hrow1.frozen i; have hz : w.heap.size < w1.heap.size := hrow1.lt; have e0 := hrow1.cell (i := k * 3) (by omega); have e1 := hrow1.cell (i := k * 3 + 1) (by omega); have e2 := hrow1.cell (i := k * 3 + 2) (by omega))
      obtain ⟨hLl, hMk⟩ := hM1.out; have hkL : k < (L.set k h').length := by rw [List.length_set]; omega
      refine ⟨⟨k + 1, L.set k h', by omega, by go_num, bJ.store3 (l := L.set k h') (hk := hkL) hrow1 ?_ Hx.cells_length (by rw [List.getElem_set_self]; rfl), ?_, ?_⟩, by simp [intOf]; omega⟩
      · intro i hi hik j v hj
        rw [List.getElem_set_ne (by omega)] at hj; exact HF.out i (by rw [List.length_set] at hi; exact hi) hik j v hj
      · refine ⟨by rw [List.length_set]; exact hLl, fun j hj hjk => ?_⟩
        refine ((mW.store ?_ _ _).store _ _).store _ _
        by_cases e : j = k
        · subst e
          rw [List.getElem_set_self, ← HB.out]; exact hmade
        · rw [List.getElem_set_ne (by omega)]
          exact hMk j hj (by omega)
      · exact ((hN1.setCell (by exact nlq _) _).setCell (by exact nlq _) _).setCell (by exact nlq _) _
  · have hkk : k = l.length := by omega
    go_wp2
    go_ret; exact ⟨⟨L, rfl, by rw [hkk] at hR; exact hR, by rw [hkk] at hM; exact hM.out⟩, hN⟩
theorem j6.likes {z : Nat} {w : World} {l m : List Hx} (h : j6 z w l m l.length) : aI l m := ⟨h.1, fun k hk => (h.2 k hk hk).like⟩
theorem j6.inn {z : Nat} {w : World} {l m : List Hx} (h : j6 z w l m l.length) : ∀ x ∈ m, x.In w := fun x hx => by
 obtain ⟨k, hk, rfl⟩ := lgo hx; exact (h.2 k (by rw [← h.1]; exact hk) (by rw [← h.1]; exact hk)).inn
theorem aI.fit {l m : List Hx} (h : aI l m) (hf : ∀ x ∈ l, x.Fit) : ∀ x ∈ m, x.Fit := fun x hx => by
 obtain ⟨k, hk, rfl⟩ := lgo hx; have hkl : k < l.length := by rw [← h.len]; exact hk
 have g := hf l[k] (lgm hkl); have e := h.like k hkl; exact ⟨by rw [← e.t]; exact g.tn, by rw [← e.x]; exact g.nn, by rw [← e.n]; exact g.sn⟩
theorem bJ.setOther {α : Type} {t sz : Nat} {c : α -> List Value} {w : World} {bl n k : Nat} {l : List α} (h : bJ t sz c w bl n l k) {a : Addr} (ha : bl ≠ a.block) (v : Value) : bJ t sz c (w.setCell a v) bl n l k := by
 obtain ⟨f, hrow, hf⟩ := h; exact ⟨f, hrow.setOther ha v, hf⟩
theorem bJ.xs' {α : Type} {t sz : Nat} {c : α -> List Value} {w : World} {bl n k : Nat} {l : List α} (h : bJ t sz c w bl n l k) (hc : ∀ a, (c a).length = sz) (hk : l.length <= k) (hn : l.length <= n) : ∀ i (h : i < l.length), aN w bl (0 + i * sz) (c l[i]) := by
 obtain ⟨f, hrow, hf⟩ := h; intro i hi j v hj
 have hjs : j < sz := by
  rw [← hc l[i]]; exact (lgs.1 hj).1
 rw [Nat.zero_add, hrow.cell (yX sz (by omega) hjs), hf i hi (by omega) j v hj]
theorem mW.other {z : Nat} {w : World} {h h' : Hx} (m : mW z w h h') {g : Nat} (hg : g < z) (o : Nat) (v : Value) : mW z (w.setCell ⟨g, o, none⟩ v) h h' := by
 obtain ⟨l, ⟨p, e, hz, r⟩, q, e2, hz2, r2⟩ := m; exact ⟨l, ⟨p, e, hz, r.setOther (by simp; omega) v⟩, q, e2, hz2, r2.setOther (by simp; omega) v⟩
theorem j6.other {z k : Nat} {w : World} {l m : List Hx} (h : j6 z w l m k) {g : Nat} (hg : g < z) (o : Nat) (v : Value) : j6 z (w.setCell ⟨g, o, none⟩ v) l m k := ⟨h.1, fun j hj hk => (h.2 j hj hk).other hg o v⟩
structure eN (w : World) (b b' : Bk) : Prop where
 now : b'.now = b.now
 fl : b'.fl = b.fl
 fc : b'.fc = b.fl.length
 fs : Xs 3 Fx.cells w b'.fa b'.fl
 hs : ∃ q, b'.ha = some ⟨q, 0, none⟩ /\ ∀ i (h : i < b'.hl.length), aN w q (0 + i * 3) b'.hl[i].cells
 likes : aI b.hl b'.hl
 inn : ∀ h ∈ b'.hl, h.In w
theorem oY (b : Bk) (w : World) (hf : Xs 3 Fx.cells w b.fa b.fl) (hnf : b.fl.length <= 1048576) (hh : Xs 3 Hx.cells w b.ha b.hl) (hnh : b.hl.length <= 1048576) (hg : ∀ h ∈ b.hl, h.In w /\ h.Fit) :
 Calls Tryz.prog 15 #[b.val] w fun e w' => (∃ b', e = .returned b'.val /\ eN w' b b') /\ Below w.heap.size w w' := by
 go_enter Tryz.func15, Tryz.ntmps15
 go_wp2_with fail
 have a2 := bF (z := w.heap.size) (j := 2) (v := .slice b.ha b.hl.length b.hc) ((halq ((w.alloc (.cells #[.int .i64 b.now, .slice b.fa b.fl.length b.fc, .slice b.ha b.hl.length b.hc] 49)).alloc (.cells #[.int .i64 0, .slice none 0 0, .slice none 0 0] 29)) (.cells #[.int .i64 b.now, .slice none 0 0, .slice none 0 0] 29) w.heap.size (by simp; omega)).trans ((halq (w.alloc (.cells #[.int .i64 b.now, .slice b.fa b.fl.length b.fc, .slice b.ha b.hl.length b.hc] 49)) (.cells #[.int .i64 0, .slice none 0 0, .slice none 0 0] 29) w.heap.size (by simp)).trans (wnq w _))) rfl; have rR := (JZ (w.alloc (.cells #[.int .i64 b.now, .slice b.fa b.fl.length b.fc, .slice b.ha b.hl.length b.hc] 49)) 29 (.int .i64 0) (.slice none 0 0) (.slice none 0 0)).alloc (.cells #[.int .i64 b.now, .slice none 0 0, .slice none 0 0] 29); have rO := JZ ((w.alloc (.cells #[.int .i64 b.now, .slice b.fa b.fl.length b.fc, .slice b.ha b.hl.length b.hc] 49)).alloc (.cells #[.int .i64 0, .slice none 0 0, .slice none 0 0] 29)) 29 (.int .i64 b.now) (.slice none 0 0) (.slice none 0 0); have hB0 : Below w.heap.size w (((w.alloc (.cells #[.int .i64 b.now, .slice b.fa b.fl.length b.fc, .slice b.ha b.hl.length b.hc] 49)).alloc (.cells #[.int .i64 0, .slice none 0 0, .slice none 0 0] 29)).alloc (.cells #[.int .i64 b.now, .slice none 0 0, .slice none 0 0] 29)) := aA (aA (aA (br _ _) _) _) _; have hz : (((w.alloc (.cells #[.int .i64 b.now, .slice b.fa b.fl.length b.fc, .slice b.ha b.hl.length b.hc] 49)).alloc (.cells #[.int .i64 0, .slice none 0 0, .slice none 0 0] 29)).alloc (.cells #[.int .i64 b.now, .slice none 0 0, .slice none 0 0] 29)).heap.size = w.heap.size + 3 := by simp
 simp only [wsa] at rR rO; obtain ⟨W0, hW0⟩ : ∃ W0, ((w.alloc (.cells #[.int .i64 b.now, .slice b.fa b.fl.length b.fc, .slice b.ha b.hl.length b.hc] 49)).alloc (.cells #[.int .i64 0, .slice none 0 0, .slice none 0 0] 29)).alloc (.cells #[.int .i64 b.now, .slice none 0 0, .slice none 0 0] 29) = W0 := ⟨_, rfl⟩; rw [hW0] at a2 rR rO hB0 hz; have hcall := uU b.fl b.fa b.fc W0 (hf.zL hB0) hnf; rw [← hW0] at hcall; refine hcall.mono ?_; rw [hW0]; rintro e w1 ⟨rfl, hr1, hb1⟩; clear hcall hW0; rw [hz] at hr1 ⊢; have rR1 := rR.of_block (hb1.block _ rR.lt); have rO1 := rO.of_block (hb1.block _ rO.lt); have a21 := (hb1.cell (aB a2)).trans a2; have hz1 : w.heap.size + 3 < w1.heap.size := hr1.lt; have hB1 : Below w.heap.size w w1 := aD hB0 hb1; clear rR rO a2 hb1 hB0 hz; have o0 := rO1.cell (i := 0) (by omega); have o1 := rO1.cell (i := 1) (by omega); have o2 := rO1.cell (i := 2) (by omega); have fO := fun i => rO1.frozen i; go_wp2_with fail
 have rO2 := rO1.set 1 (.slice (some ⟨w.heap.size + 3, 0, none⟩) b.fl.length b.fl.length); have rR2 := rR1.setOther (a := ⟨w.heap.size + 1 + 1, 1, none⟩) (by simp) (.slice (some ⟨w.heap.size + 3, 0, none⟩) b.fl.length b.fl.length); have hr2 := hr1.setOther (a := ⟨w.heap.size + 1 + 1, 1, none⟩) (by simp) (.slice (some ⟨w.heap.size + 3, 0, none⟩) b.fl.length b.fl.length); have hB2 : Below w.heap.size w (w1.setCell ⟨w.heap.size + 1 + 1, 1, none⟩ (.slice (some ⟨w.heap.size + 3, 0, none⟩) b.fl.length b.fl.length)) := hB1.setCell (by simp; omega) _; have hz2 : (w1.setCell ⟨w.heap.size + 1 + 1, 1, none⟩ (.slice (some ⟨w.heap.size + 3, 0, none⟩) b.fl.length b.fl.length)).heap.size = w1.heap.size := by simp
 obtain ⟨W2, hW2⟩ : ∃ W2, w1.setCell ⟨w.heap.size + 1 + 1, 1, none⟩ (.slice (some ⟨w.heap.size + 3, 0, none⟩) b.fl.length b.fl.length) = W2 := ⟨_, rfl⟩; rw [hW2] at rO2 rR2 hr2 hB2 hz2 ⊢; clear hW2 rO1 rR1 hr1 hB1 a21 o0 o1 o2 fO; refine (sK b.hl b.ha b.hc W2 (hh.zL hB2) hnh (fun h m => ⟨(hg h m).1.zL hB2, (hg h m).2⟩)).mono ?_; rintro e w3 ⟨⟨m, rfl, hr3, hM⟩, hb3⟩; rw [hz2] at hr3 hM ⊢; have rR3 := rR2.of_block (hb3.block _ rR2.lt); have rO3 := rO2.of_block (hb3.block _ rO2.lt); have hr4 := hr2.zL hb3; have hB3 : Below w.heap.size w w3 := aD hB2 hb3; have hz3 : w1.heap.size < w3.heap.size := hr3.lt; clear rR2 rO2 hr2 hB2 hb3 hz2 hf hh hg; have o0 := rO3.cell (i := 0) (by omega); have o1 := rO3.cell (i := 1) (by omega); have o2 := rO3.cell (i := 2) (by omega); have fO := fun i => rO3.frozen i; have p0 := rR3.cell (i := 0) (by omega); have p1 := rR3.cell (i := 1) (by omega); have p2 := rR3.cell (i := 2) (by omega); have fR := fun i => rR3.frozen i; have o0' : w3.cell? ⟨w.heap.size + 1 + 1, 0, none⟩ = some (.int .i64 b.now) := o0; have o1' : w3.cell? ⟨w.heap.size + 1 + 1, 1, none⟩ = some (.slice (some ⟨w.heap.size + 3, 0, none⟩) b.fl.length b.fl.length) := o1; clear o0 o1; go_wp2
 have hml : m.length = b.hl.length := hM.1; refine bpr (v := Bk.val ⟨b.now, some ⟨w.heap.size + 3, 0, none⟩, b.fl, b.fl.length, some ⟨w1.heap.size, 0, none⟩, m, b.hl.length⟩) (by simp [results, Tryz.results15, go_sem, p0, p1, p2, hml]) rfl ?_; refine ⟨⟨_, rfl, rfl, rfl, rfl, ?_, ⟨_, rfl, ?_⟩, hM.likes, ?_⟩, ?_⟩
 · exact bJ.xs ((((hr4.setOther (by simp) _).setOther (by simp) _).setOther (by simp) _).setOther (by simp) _) Fx.cells_length (nlq _) (nlq _)
 · exact bJ.xs' ((((hr3.setOther (by simp; omega) _).setOther (by simp; omega) _).setOther (by simp; omega) _).setOther (by simp; omega) _) Hx.cells_length (by show m.length <= _; omega) (by show m.length <= _; omega)
 · exact j6.inn ((((hM.other (by omega) _ _).other (by omega) _ _).other (by omega) _ _).other (by omega) _ _)
 · exact (((hB3.setCell (by simp; omega) _).setCell (by simp) _).setCell (by simp) _).setCell (by simp) _
set_option maxHeartbeats 2000000
theorem bJ.store2 {α : Type} {t : Nat} {c : α -> List Value} {w : World} {bl n k : Nat} {l : List α} {f : Nat -> Value} {v0 v1 : Value} (hrow : w.rowIs bl t (n * 2) f)
 (hf : ∀ i (h : i < l.length), i < k -> ∀ j v, (c l[i])[j]? = some v -> f (i * 2 + j) = v) (hc : ∀ a, (c a).length = 2) {hk : k < l.length} (hb : c l[k] = [v0, v1]) :
 bJ t 2 c ((w.setCell ⟨bl, k * 2, none⟩ v0).setCell ⟨bl, k * 2 + 1, none⟩ v1) bl n l (k + 1) := by
 refine ⟨_, (hrow.set _ _).set _ _, ?_⟩; intro i hi hik j v hj; have hjs : j < 2 := by rw [← hc l[i]]; exact (lgs.1 hj).1
 by_cases e : i = k
 · subst e
   rw [hb] at hj
   match j, hj with
   | 0, hj => simp at hj; subst hj; simp
   | 1, hj => simp at hj; subst hj; simp
 · have h0 := hf i hi (by omega) j v hj
   rw [if_neg (uC 2 (by omega) hjs), if_neg (by have := uC 2 (i := i) (k := k) (j := j) (j' := 0) (by omega) hjs; omega)]; exact h0
theorem bJ.store1 {α : Type} {t : Nat} {c : α -> List Value} {w : World} {bl n k : Nat} {l : List α} {f : Nat -> Value} {v0 : Value} (hrow : w.rowIs bl t (n * 1) f)
 (hf : ∀ i (h : i < l.length), i < k -> ∀ j v, (c l[i])[j]? = some v -> f (i * 1 + j) = v) (hc : ∀ a, (c a).length = 1) {hk : k < l.length} (hb : c l[k] = [v0]) :
 bJ t 1 c (w.setCell ⟨bl, k, none⟩ v0) bl n l (k + 1) := by
 refine ⟨_, hrow.set _ _, ?_⟩; intro i hi hik j v hj; have hjs : j < 1 := by rw [← hc l[i]]; exact (lgs.1 hj).1
 obtain rfl : j = 0 := by omega
 by_cases e : i = k
 · subst e
   rw [hb] at hj; simp at hj; subst hj; simp
 · have h0 := hf i hi (by omega) 0 v hj
   rw [if_neg (by omega)]; exact h0
theorem bJ.start1 {α : Type} (t : Nat) (c : α -> List Value) {w : World} (z : Array Value) (n : Nat) (l : List α) : bJ t 1 c (w.alloc (.cells (madeCells z n) t)) w.heap.size n l 0 := by
 have h := bJ.start t 1 c (w := w) z n l
 rwa [Nat.mul_one] at h
theorem Tryz.info171 : (Tryz.prog.info? 171).map (fun i => (i.zero, i.size, i.bytes)) = some (some (.agg #[.int .i64 0, .int .i64 0]), 2, 16) := by kernel_rfl
theorem RE (n : Nat) (hn : n <= 1048576) (w : World) :
 (Instr.makeSlice 168 (.int .i64 (n : Int)) (.int .i64 (n : Int))).run Tryz.prog w = .ok (.slice (some ⟨w.heap.size, 0, none⟩) n n) (w.alloc (.cells (madeCells #[.int .i64 0, .int .i64 0] (n * 2)) 171)) := by
 obtain ⟨i, hi, hz0, hz1, hz2⟩ := info_parts Tryz.info171; have hr := run_make (P := Tryz.prog) w 168 171 i _ Tryz.underlying168 hi hz0 .i64 .i64 n n (by omega) (Int.le_refl _) (by rw [hz2]; omega) (by omega); rw [hz1, Int.toNat_natCast] at hr; exact hr
theorem Tryz.info174 : (Tryz.prog.info? 174).map (fun i => (i.zero, i.size, i.bytes)) = some (some (.agg #[.slice none 0 0]), 1, 24) := by kernel_rfl
theorem RF (n : Nat) (hn : n <= 1048576) (w : World) :
 (Instr.makeSlice 30 (.int .i64 (n : Int)) (.int .i64 (n : Int))).run Tryz.prog w = .ok (.slice (some ⟨w.heap.size, 0, none⟩) n n) (w.alloc (.cells (madeCells #[.slice none 0 0] (n * 1)) 174)) := by
 obtain ⟨i, hi, hz0, hz1, hz2⟩ := info_parts Tryz.info174; have hr := run_make (P := Tryz.prog) w 30 174 i _ Tryz.underlying30 hi hz0 .i64 .i64 n n (by omega) (Int.le_refl _) (by rw [hz2]; omega) (by omega); rw [hz1, Int.toNat_natCast] at hr; exact hr
theorem Tryz.info3 : (Tryz.prog.info? 3).map (fun i => (i.zero, i.size, i.bytes)) = some (some (.int .i64 0), 1, 8) := by kernel_rfl
theorem QO (n : Nat) (hn : n <= 1048576) (w : World) :
 (Instr.makeSlice 31 (.int .i64 (n : Int)) (.int .i64 (n : Int))).run Tryz.prog w = .ok (.slice (some ⟨w.heap.size, 0, none⟩) n n) (w.alloc (.cells (madeCells #[.int .i64 0] (n * 1)) 3)) := by
 obtain ⟨i, hi, hz0, hz1, hz2⟩ := info_parts Tryz.info3; have hr := run_make (P := Tryz.prog) w 31 3 i _ Tryz.underlying31 hi hz0 .i64 .i64 n n (by omega) (Int.le_refl _) (by rw [hz2]; omega) (by omega); rw [hz1, Int.toNat_natCast] at hr; exact hr
theorem kS {w : World} {bl o : Nat} {f : Cx} (h : aN w bl o f.cells) : w.cell? ⟨bl, o, none⟩ = some (.int .i64 f.x) /\ w.cell? ⟨bl, o + 1, none⟩ = some (.int .i64 f.y) :=
 ⟨h 0 _ rfl, h 1 _ rfl⟩
theorem p9 {w : World} {bl o : Nat} {f : Yx} (h : aN w bl o f.cells) : w.cell? ⟨bl, o, none⟩ = some (.slice f.a f.l.length f.c) := h 0 _ rfl
theorem tS {w : World} {bl o : Nat} {i : Int} (h : aN w bl o (i6 i)) : w.cell? ⟨bl, o, none⟩ = some (.int .i64 i) := h 0 _ rfl
theorem ER (f : Cx) (w : World) :
 Calls Tryz.prog 212 #[f.val] w fun e w' => e = .returned f.val /\ Below w.heap.size w w' := by
 go_enter Tryz.func212, Tryz.ntmps212
 go_wp2
 exact bpr (v := f.val) (by simp [results, Tryz.results212, go_sem]) rfl ⟨rfl, (((br _ _).alloc (nlq _) _).alloc (by simp) _).alloc (by simp; omega) _⟩
theorem BK (a : Cx) (w : World) :
 Calls Tryz.prog 213 #[a.val, a.val] w fun e w' => e = .returned (.bool true) /\ Below w.heap.size w w' := by
 go_enter Tryz.func213, Tryz.ntmps213
 go_wp2
 go_ret; exact ⟨rfl, ((br _ _).alloc (nlq _) _).alloc (by simp) _⟩
theorem CU (l : List Cx) (ao : Option Addr) (cap : Nat) (w : World) (hl : Xs 2 Cx.cells w ao l) (hn : l.length <= 1048576) :
 Calls Tryz.prog 179 #[.slice ao l.length cap] w fun e w' => e = .returned (.slice (some ⟨w.heap.size, 0, none⟩) l.length l.length) /\ bJ 171 2 Cx.cells w' w.heap.size l.length l l.length /\ Below w.heap.size w w' := by
 have hmk := RE l.length hn
 go_enter Tryz.func179, Tryz.ntmps179
 go_wp2
 go_loopw [4] (fun i wr => ∃ k : Nat, k <= l.length /\ i = .int .i64 k /\ bJ 171 2 Cx.cells wr w.heap.size l.length l k /\ Below w.heap.size w wr) (fun i _ => l.length - (intOf i).toNat)
 case atStart => exact ⟨0, nz _, rfl, bJ.start _ _ _ _ _ _, aA (br _ _) _⟩
 case round =>
  clear hmk; obtain ⟨k, hk, rfl, hR, hN⟩ := hrel
  by_cases hlt : k < l.length
  · rcases hl with h | ⟨bl, off, rfl, hc⟩
    · subst h; simp at hlt
    · have hbx := (hc k hlt).zL hN
      obtain ⟨b, hbe⟩ : ∃ b, b = l[k] := ⟨_, rfl⟩; rw [← hbe] at hbx; have HB : Hid (Cx.cells l[k] = [.int .i64 b.x, .int .i64 b.y]) := by rw [← hbe]; rfl
      clear hbe hc; obtain ⟨c0, c1⟩ := kS hbx; clear hbx; obtain ⟨f, hrow, hf⟩ := hR; have HF : Hid (∀ i (h : i < l.length), i < k -> ∀ j v, (Cx.cells l[i])[j]? = some v -> f (i * 2 + j) = v) := hf; clear hf
      go_wp2_with (go_at_call 212; refine (ER _ _).mono ?_; rintro e w1 ⟨rfl, hb1⟩; have hrow1 := hrow.of_block (hb1.block _ hrow.lt); have hN1 : Below w.heap.size w w1 := aT hN (nlq _) hb1; clear hN hrow c0 c1 hb1; have hfr := fun i => hrow1.frozen i; have hz : w.heap.size < w1.heap.size := hrow1.lt; have e0 := hrow1.cell (i := k * 2) (by omega); have e1 := hrow1.cell (i := k * 2 + 1) (by omega))
      go_roundw
      case rel => exact ⟨k + 1, by omega, by go_num, bJ.store2 hrow1 HF.out Cx.cells_length HB.out, (hN1.setCell (by exact nlq _) _).setCell (by exact nlq _) _⟩
      case measure => simp [intOf]; omega
  · have hkk : k = l.length := by omega
    go_wp2
    go_ret; exact ⟨rfl, by rw [hkk] at hR; exact hR, hN⟩
theorem DN (l : List Int) (ao : Option Addr) (cap : Nat) (w : World) (hl : Xs 1 i6 w ao l) (hn : l.length <= 1048576) :
 Calls Tryz.prog 102 #[.slice ao l.length cap] w fun e w' => e = .returned (.slice (some ⟨w.heap.size, 0, none⟩) l.length l.length) /\ bJ 3 1 i6 w' w.heap.size l.length l l.length /\ Below w.heap.size w w' := by
 have hmk := QO l.length hn
 go_enter Tryz.func102, Tryz.ntmps102
 go_wp2
 go_loopw [4] (fun i wr => ∃ k : Nat, k <= l.length /\ i = .int .i64 k /\ bJ 3 1 i6 wr w.heap.size l.length l k /\ Below w.heap.size w wr) (fun i _ => l.length - (intOf i).toNat)
 case atStart => exact ⟨0, nz _, rfl, bJ.start1 _ _ _ _ _, aA (br _ _) _⟩
 case round =>
  clear hmk; obtain ⟨k, hk, rfl, hR, hN⟩ := hrel
  by_cases hlt : k < l.length
  · rcases hl with h | ⟨bl, off, rfl, hc⟩
    · subst h; simp at hlt
    · have hbx := (hc k hlt).zL hN
      obtain ⟨b, hbe⟩ : ∃ b, b = l[k] := ⟨_, rfl⟩; rw [← hbe] at hbx; have HB : Hid (i6 l[k] = [.int .i64 b]) := by rw [← hbe]; rfl
      clear hbe hc; have c0 := tS hbx; rw [Nat.mul_one] at c0; clear hbx; obtain ⟨f, hrow, hf⟩ := hR; have HF : Hid (∀ i (h : i < l.length), i < k -> ∀ j v, (i6 l[i])[j]? = some v -> f (i * 1 + j) = v) := hf; clear hf; have hfr := fun i => hrow.frozen i; have hz : w.heap.size < wr.heap.size := hrow.lt; have e0 := hrow.cell (i := k) (by omega); go_wp2
      go_roundw
      case rel => exact ⟨k + 1, by omega, by go_num, bJ.store1 hrow HF.out (fun _ => rfl) HB.out, hN.setCell (by exact nlq _) _⟩
      case measure => simp [intOf]; omega
  · have hkk : k = l.length := by omega
    go_wp2
    go_ret; exact ⟨rfl, by rw [hkk] at hR; exact hR, hN⟩
theorem xW (l : List Cx) (aa ab : Option Addr) (ca cb : Nat) (w : World) (hla : Xs 2 Cx.cells w aa l) (hlb : Xs 2 Cx.cells w ab l) (hna : l.length <= 1048576) :
 Calls Tryz.prog 180 #[.slice aa l.length ca, .slice ab l.length cb] w fun e w' => e = .returned (.bool true) /\ Below w.heap.size w w' := by
 go_enter Tryz.func180, Tryz.ntmps180
 go_wp2
 go_loopw [5] (fun i wr => ∃ k : Nat, k <= l.length /\ i = .int .i64 k /\ Below w.heap.size w wr) (fun i _ => l.length - (intOf i).toNat)
 case atStart => exact ⟨0, nz _, rfl, br _ _⟩
 case round =>
  obtain ⟨k, hk, rfl, hN⟩ := hrel
  by_cases hlt : k < l.length
  · rcases hla with h | ⟨bl, off, rfl, hc⟩
    · subst h; simp at hlt
    rcases hlb with h | ⟨bl2, off2, rfl, hc2⟩
    · subst h; simp at hlt
    have hbx := (hc k hlt).zL hN; have hby := (hc2 k hlt).zL hN; obtain ⟨a, hae⟩ : ∃ a, a = l[k] := ⟨_, rfl⟩; rw [← hae] at hbx hby; clear hae hc hc2; obtain ⟨c0, c1⟩ := kS hbx; obtain ⟨d0, d1⟩ := kS hby; clear hbx hby; go_wp2_with fail
    go_region_with (go_at_call 213; refine (BK _ _).mono ?_; rintro e w1 ⟨rfl, hb1⟩; have hN : Below w.heap.size w w1 := aT (by repeat (first | exact hN | refine Below.drew ?_)) (nlq _) hb1)
    all_goals
     go_wp2
     go_roundw
     case rel => exact ⟨k + 1, by omega, by go_num, hN⟩
     case measure => simp [intOf]; omega
  · go_wp2
    go_ret; exact ⟨rfl, hN⟩
theorem CA (l : List Int) (aa ab : Option Addr) (ca cb : Nat) (w : World) (hla : Xs 1 i6 w aa l) (hlb : Xs 1 i6 w ab l) (hna : l.length <= 1048576) :
 Calls Tryz.prog 107 #[.slice aa l.length ca, .slice ab l.length cb] w fun e w' => e = .returned (.bool true) /\ Below w.heap.size w w' := by
 go_enter Tryz.func107, Tryz.ntmps107
 go_wp2
 go_loopw [5] (fun i wr => ∃ k : Nat, k <= l.length /\ i = .int .i64 k /\ Below w.heap.size w wr) (fun i _ => l.length - (intOf i).toNat)
 case atStart => exact ⟨0, nz _, rfl, br _ _⟩
 case round =>
  obtain ⟨k, hk, rfl, hN⟩ := hrel
  by_cases hlt : k < l.length
  · rcases hla with h | ⟨bl, off, rfl, hc⟩
    · subst h; simp at hlt
    rcases hlb with h | ⟨bl2, off2, rfl, hc2⟩
    · subst h; simp at hlt
    have hbx := (hc k hlt).zL hN; have hby := (hc2 k hlt).zL hN; obtain ⟨a, hae⟩ : ∃ a, a = l[k] := ⟨_, rfl⟩; rw [← hae] at hbx hby; clear hae hc hc2; have c0 := tS hbx; have d0 := tS hby; rw [Nat.mul_one] at c0 d0; clear hbx hby; go_wp2_with fail
    go_region
    all_goals
     go_wp2
     go_roundw
     case rel => exact ⟨k + 1, by omega, by go_num, by repeat (first | exact hN | refine Below.drew ?_)⟩
     case measure => simp [intOf]; omega
  · go_wp2
    go_ret; exact ⟨rfl, hN⟩
theorem EN (a : Yx) (ba : Option Addr) (bc : Nat) (w : World) (ha : a.In w) (hb : Xs 2 Cx.cells w ba a.l) (hn : a.l.length <= 1048576) :
 Calls Tryz.prog 147 #[a.val, .agg #[.slice ba a.l.length bc]] w fun e w' => e = .returned (.bool true) /\ Below w.heap.size w w' := by
 have hB0 : Below w.heap.size w ((w.alloc (.cells #[.slice a.a a.l.length a.c] 174)).alloc (.cells #[.slice ba a.l.length bc] 174)) := aA (aA (br _ _) _) _
 go_enter Tryz.func147, Tryz.ntmps147
 go_wp2_with fail
 refine (xW a.l _ _ _ _ _ (Xs.zL ha hB0) (Xs.zL hb hB0) hn).mono ?_; rintro e w1 ⟨rfl, hb1⟩; go_wp2
 go_ret; exact ⟨rfl, aD hB0 hb1⟩
structure iN (l m : List Yx) : Prop where
 len : m.length = l.length
 like : ∀ k (h : k < l.length), (m[k]'(by omega)).l = l[k].l
theorem z7 (l m : List Yx) (aa ab : Option Addr) (ca cb : Nat) (w : World) (hla : Xs 1 Yx.cells w aa l) (hlb : Xs 1 Yx.cells w ab m) (hna : l.length <= 1048576) (ha : ∀ h ∈ l, h.In w /\ h.l.length <= 1048576) (hb : ∀ h ∈ m, h.In w) (hlk : iN l m) :
 Calls Tryz.prog 106 #[.slice aa l.length ca, .slice ab m.length cb] w fun e w' => e = .returned (.bool true) /\ Below w.heap.size w w' := by
 have hml := hlk.len; rw [hml]
 go_enter Tryz.func106, Tryz.ntmps106
 go_wp2
 go_loopw [5] (fun i wr => ∃ k : Nat, k <= l.length /\ i = .int .i64 k /\ Below w.heap.size w wr) (fun i _ => l.length - (intOf i).toNat)
 case atStart => exact ⟨0, nz _, rfl, br _ _⟩
 case round =>
  obtain ⟨k, hk, rfl, hN⟩ := hrel
  by_cases hlt : k < l.length
  · rcases hla with h | ⟨bl, off, rfl, hc⟩
    · subst h; simp at hlt
    rcases hlb with h | ⟨bl2, off2, rfl, hc2⟩
    · subst h; simp at hml; omega
    have hbx := (hc k hlt).zL hN; have hby := (hc2 k (by omega)).zL hN; have hia := ha l[k] (lgm hlt); have hib := hb (m[k]'(by omega)) (lgm _); have hlike : Hid ((m[k]'(by omega)).l = l[k].l) := hlk.like k hlt; obtain ⟨a, hae⟩ : ∃ a, a = l[k] := ⟨_, rfl⟩; obtain ⟨b, hbe⟩ : ∃ b, b = m[k]'(by omega) := ⟨_, rfl⟩; rw [← hae] at hbx hia hlike; rw [← hbe] at hby hib hlike; have hib' : Xs 2 Cx.cells w b.a a.l := by rw [← hlike.out]; exact hib
    clear hae hbe hc hc2; have c0 := p9 hbx; have d0 := p9 hby; rw [Nat.mul_one] at c0 d0; rw [hlike.out] at d0; clear hbx hby hib; have hne : Nonempty (bG wr) := ⟨⟨wr, br _ _⟩⟩; have f0 := bG.cell c0; have g0 := bG.cell d0; have hi0 : (0 : Int) <= (k : Int) := by omega
    have hi1 : (k : Int) < (l.length : Int) := by omega
    clear c0 d0; go_wp2_with fail
    refine aL (by kernel_rfl) (by kernel_rfl) ?_
    repeat (go_big_quiet_step ((go_at_call 147; exact bG.call _ (EN a b.a b.c _ (hia.1.zL (aD hN (bG.h _))) (hib'.zL (aD hN (bG.h _))) hia.2))))
    refine wpQuiet_nil ?_; rintro _ ⟨s, rfl⟩; have hb1 := s.h; generalize s.w = w1 at hb1; clear s f0 g0 hne; go_wp2
    go_roundw
    case rel => exact ⟨k + 1, by omega, by go_num, aD hN hb1⟩
    case measure => simp [intOf]; omega
  · go_wp2
    go_ret; exact ⟨rfl, hN⟩
theorem AA (n cap : Nat) (left : Int) (ao : Option Addr) (w : World) (h0 : 0 <= left) (h1 : left <= 1048576) (hn : n <= 9223372036854775807) :
 Calls Tryz.prog 178 #[.slice ao n cap, .int .i64 left] w fun e w' => (∃ r : Int, e = .returned (.int .i64 r) /\ -1 <= r /\ (0 <= r -> r + n <= left)) /\ w' = w := by
 by_cases h : (n : Int) <= left
 · go_enter Tryz.func178, Tryz.ntmps178
   go_wp2
   go_ret; exact ⟨⟨_, rfl, by omega, by omega⟩, rfl⟩
 · go_enter Tryz.func178, Tryz.ntmps178
   go_wp2
   go_ret; exact ⟨⟨_, rfl, by omega, by omega⟩, rfl⟩
theorem DP (n cap : Nat) (left : Int) (ao : Option Addr) (w : World) (h0 : 0 <= left) (h1 : left <= 1048576) (hn : n <= 9223372036854775807) :
 Calls Tryz.prog 98 #[.slice ao n cap, .int .i64 left] w fun e w' => (∃ r : Int, e = .returned (.int .i64 r) /\ -1 <= r /\ (0 <= r -> r + n <= left)) /\ w' = w := by
 by_cases h : (n : Int) <= left
 · go_enter Tryz.func98, Tryz.ntmps98
   go_wp2
   go_ret; exact ⟨⟨_, rfl, by omega, by omega⟩, rfl⟩
 · go_enter Tryz.func98, Tryz.ntmps98
   go_wp2
   go_ret; exact ⟨⟨_, rfl, by omega, by omega⟩, rfl⟩
theorem IU (y : Yx) (left : Int) (w : World) (h0 : 0 <= left) (h1 : left <= 1048576) (hn : y.l.length <= 9223372036854775807) :
 Calls Tryz.prog 145 #[y.val, .int .i64 left] w fun e w' => (∃ r : Int, e = .returned (.int .i64 r) /\ -1 <= r /\ r <= left /\ (0 <= r -> y.l.length <= 1048576)) /\ Below w.heap.size w w' := by
 go_enter Tryz.func145, Tryz.ntmps145
 go_wp2_with (go_at_call 178; refine (AA _ _ _ _ _ (by omega) (by omega) (by assumption)).mono ?_; rintro e wr ⟨⟨r, rfl, hr0, hr1⟩, rfl⟩)
 · go_ret
   exact ⟨⟨_, rfl, by omega, by omega, by omega⟩, aA (br _ _) _⟩
 · go_ret
   exact ⟨⟨_, rfl, by omega, by omega, fun _ => by omega⟩, aA (br _ _) _⟩
theorem DR (l : List Yx) (ao : Option Addr) (cap : Nat) (w : World) (hl : Xs 1 Yx.cells w ao l) (hn : l.length <= 9223372036854775807) (hs : ∀ y ∈ l, y.l.length <= 9223372036854775807) (left : Int) (h0 : 0 <= left) (h1 : left <= 1048576) :
 Calls Tryz.prog 97 #[.slice ao l.length cap, .int .i64 left] w fun e w' => (∃ r : Int, e = .returned (.int .i64 r) /\ -1 <= r /\ (0 <= r -> r + l.length <= left /\ ∀ y ∈ l, y.l.length <= 1048576)) /\ Below w.heap.size w w' := by
 by_cases hle : (l.length : Int) <= left
 · go_enter Tryz.func97, Tryz.ntmps97
   go_wp2
   go_loopw [1, 5] (fun lv i wr => ∃ (k : Nat) (r : Int), k <= l.length /\ i = .int .i64 k /\ lv = .int .i64 r /\ 0 <= r /\ r + l.length <= left /\ Below w.heap.size w wr /\ Hid (∀ y ∈ l.take k, y.l.length <= 1048576)) (fun _ i _ => l.length - (intOf i).toNat)
   case atStart => exact ⟨0, left - l.length, nz _, rfl, rfl, by omega, by omega, br _ _, by simp [Hid]⟩
   case round =>
    obtain ⟨k, r, hk, rfl, rfl, hr0, hr1, hN, hfit⟩ := hrel
    by_cases hlt : k < l.length
    · rcases hl with h | ⟨bl, off, rfl, hc⟩
      · subst h; simp at hlt
      · have hbx := (hc k hlt).zL hN
        have hsz := hs l[k] (lgm hlt); obtain ⟨b, hbe⟩ : ∃ b, b = l[k] := ⟨_, rfl⟩; rw [← hbe] at hbx hsz; have HB : Hid (b = l[k]) := hbe; clear hbe hc; have c0 := p9 hbx; rw [Nat.mul_one] at c0; clear hbx
        go_wp2_with (go_at_call 145; refine (IU b _ _ (by omega) (by omega) hsz).mono ?_; rintro e w1 ⟨⟨r', rfl, hq0, hq1, hq2⟩, hb1⟩; have hN1 : Below w.heap.size w w1 := aT hN (nlq _) hb1; clear hN c0 hb1)
        · go_ret
          exact ⟨⟨_, rfl, by omega, by omega⟩, hN1⟩
        · have hbf : b.l.length <= 1048576 := hq2 (by omega)
          go_roundw
          case rel => exact ⟨k + 1, r', by omega, by go_num, rfl, by omega, by omega, hN1, by
           rw [Hid, List.take_succ_eq_append_getElem hlt]; intro h hm
           rcases lma.1 hm with hm | hm
           · exact hfit.out h hm
           · simp only [List.mem_singleton] at hm; rw [hm, ← HB.out]; exact hbf⟩
          case measure => simp [intOf]; omega
    · rw [ltl (by omega)] at hfit
      go_wp2
      go_ret; exact ⟨⟨_, rfl, by omega, fun _ => ⟨by omega, hfit.out⟩⟩, hN⟩
 · go_enter Tryz.func97, Tryz.ntmps97
   go_wp2
   go_ret; exact ⟨⟨_, rfl, by omega, by omega⟩, br _ _⟩
structure Wx.Wide (x : Wx) : Prop where
 wn : x.wl.length <= 9223372036854775807
 yn : ∀ y ∈ x.wl, y.l.length <= 9223372036854775807
 ln : x.ll.length <= 9223372036854775807
 sn : x.n.size <= 9223372036854775807
theorem D7 (x : Wx) (left : Int) (w : World) (hi : x.In w) (h0 : 0 <= left) (h1 : left <= 1048576) (hw : x.Wide) :
 Calls Tryz.prog 46 #[x.val, .int .i64 left] w fun e w' => (∃ r : Int, e = .returned (.int .i64 r) /\ -1 <= r /\ (0 <= r -> r <= left /\ x.Fit)) /\ Below w.heap.size w w' := by
 obtain ⟨wn, yn, ln, sn⟩ := hw
 by_cases hs : (x.n.size : Int) <= left
 · go_enter Tryz.func46, Tryz.ntmps46
   go_wp2_with (first
    | (go_at_call 97; refine (DR _ _ _ _ (hi.ws.zL (aA (br _ _) _)) wn yn _ (by omega) (by omega)).mono ?_; rintro e w1 ⟨⟨r1, rfl, hr0, hr1⟩, hb1⟩; have hN : Below w.heap.size w w1 := aD (aA (br _ _) _) hb1; have k2 : w1.cell? ⟨w.heap.size, 7, none⟩ = some (.slice x.la x.ll.length x.lc) := (hb1.cell (p := ⟨w.heap.size, 7, none⟩) (by simp)).trans (by simp))
    | (go_at_call 98; refine (DP _ _ _ _ _ (by omega) (by omega) ln).mono ?_; rintro e w2 ⟨⟨r2, rfl, hq0, hq1⟩, rfl⟩))
   · go_ret
     exact ⟨⟨_, rfl, by omega, by omega⟩, hN⟩
   · go_ret
     exact ⟨⟨_, rfl, by omega, by omega⟩, hN⟩
   · have hq := hr1 (by omega)
     go_ret; exact ⟨⟨_, rfl, by omega, fun _ => ⟨by omega, by omega, hq.2, by omega, sn⟩⟩, hN⟩
 · go_enter Tryz.func46, Tryz.ntmps46
   go_wp2
   go_ret; exact ⟨⟨_, rfl, by omega, by omega⟩, (br _ _).alloc (nlq _) _⟩
def kW (z : Nat) (w : World) (y y' : Yx) : Prop := y'.l = y.l /\ y'.c = y.l.length /\ ∃ p, y'.a = some ⟨p, 0, none⟩ /\ z <= p /\ bJ 171 2 Cx.cells w p y'.l.length y'.l y'.l.length
theorem kW.inn {z : Nat} {w : World} {h h' : Yx} (m : kW z w h h') : h'.In w := by
 obtain ⟨_, _, p, e, _, r⟩ := m
 show Xs 2 Cx.cells w h'.a h'.l
 rw [e]; exact r.xs Cx.cells_length (nlq _) (nlq _)
theorem kW.zL {z : Nat} {w w' : World} {h h' : Yx} (m : kW z w h h') (hb : Below w.heap.size w w') : kW z w' h h' := by
 obtain ⟨l, c, p, e, hz, r⟩ := m; exact ⟨l, c, p, e, hz, r.zL hb⟩
theorem kW.other {z : Nat} {w : World} {h h' : Yx} (m : kW z w h h') {g : Nat} (hg : g < z) (o : Nat) (v : Value) : kW z (w.setCell ⟨g, o, none⟩ v) h h' := by
 obtain ⟨l, c, p, e, hz, r⟩ := m; exact ⟨l, c, p, e, hz, r.setOther (by simp; omega) v⟩
theorem kW.weak {z z' : Nat} {w : World} {h h' : Yx} (m : kW z w h h') (hz : z' <= z) : kW z' w h h' := by
 obtain ⟨l, c, p, e, h1, r⟩ := m; exact ⟨l, c, p, e, by omega, r⟩
def iT (z : Nat) (w : World) (l m : List Yx) (k : Nat) : Prop := ∃ hl : m.length = l.length, ∀ j (h : j < l.length), j < k -> kW z w l[j] (m[j]'(by omega))
theorem iT.likes {z : Nat} {w : World} {l m : List Yx} (h : iT z w l m l.length) : iN l m := ⟨h.1, fun k hk => (h.2 k hk hk).1⟩
theorem iT.inn {z : Nat} {w : World} {l m : List Yx} (h : iT z w l m l.length) : ∀ x ∈ m, x.In w := fun x hx => by
 obtain ⟨k, hk, rfl⟩ := lgo hx; exact (h.2 k (by rw [← h.1]; exact hk) (by rw [← h.1]; exact hk)).inn
theorem iT.zL {z k : Nat} {w w' : World} {l m : List Yx} (h : iT z w l m k) (hb : Below w.heap.size w w') : iT z w' l m k := ⟨h.1, fun j hj hk => (h.2 j hj hk).zL hb⟩
theorem iT.other {z k : Nat} {w : World} {l m : List Yx} (h : iT z w l m k) {g : Nat} (hg : g < z) (o : Nat) (v : Value) : iT z (w.setCell ⟨g, o, none⟩ v) l m k := ⟨h.1, fun j hj hk => (h.2 j hj hk).other hg o v⟩
end Go.Proofs.YtiojdbffjdoniaaGreatDoor
namespace Go.Proofs.YtiojdbffjdoniaaGreatDoor
set_option maxRecDepth 100000
set_option maxHeartbeats 2000000
open Go.RowKit Go.Shelf
attribute [local go_sem] Oper.semAt_some
abbrev PC := { p : Cx × Cx // dY p.1 = true /\ dY p.2 = true }
theorem GI {l : List Cx} (h : l.all dY = true) (j : Nat) : dY (i7 l j) = true := by
 by_cases hj : j < l.length
 · rw [gP l j hj]; exact lat.1 h _ (lgm hj)
 · simp [i7, Nat.le_of_not_lt hj]; decide
def lM (l : List Cx) (h : l.all dY = true) (j : Nat) : PC := ⟨(i7 l j, i7 l (j + 1)), GI h j, GI h (j + 1)⟩
theorem rT {w w' : World} {bl o B : Nat} {c : List Value} (h : aN w bl o c) (hb : Below B w w') (hl : bl < B) : aN w' bl o c := fun j v hj => (hb.cell (p := ⟨bl, o + j, none⟩) hl).trans (h j v hj)
theorem J8 (n : Nat) (lp Bs n₀ bl off cap : Nat) (l : List Cx) (hok : l.all dY = true) (hl1 : 1 <= l.length) (hlen : l.length <= 1048576) (hb : bl < n₀) (hBn : Bs < n₀)
 (J Jx : List PC -> World -> Prop) (W : World) (hJa : AbidesFrom W.heap.size J)
 (hY : ∀ pre (x : PC) W, J pre W -> pre.length < l.length - 1 -> YieldAt Fence.wide (n - 1) Tryz.prog lp #[x.1.1.val, x.1.2.val] W fun e W' =>
  (e = .returned (.bool true) /\ J (pre ++ [x]) W' /\ Below n₀ W W') ∨ (e = .returned (.bool false) /\ Jx (pre ++ [x]) W'))
 (hBs : W.cell? ⟨Bs, 0, none⟩ = some (.slice (some ⟨bl, off, none⟩) l.length cap)) (hc : ∀ j (h : j < l.length), aN W bl (off + j * 2) l[j].cells) (h0 : J [] W) :
 CallsIn Fence.wide n Tryz.prog 243 #[.func (.yield lp) #[] #[], .pointer (some ⟨Bs, 0, none⟩)] W fun e W' => (∃ v, e = .returned v) /\
  ((∃ ys, ys = bI (lM l hok) (l.length - 1) /\ J ys W') ∨ (∃ pre, (∃ k, k <= l.length - 1 /\ pre = bI (lM l hok) k) /\ Jx pre W')) := by
 refine callsIn_of_wp Tryz.func243 rfl trivial ?_ rfl; simp only [Tryz.ntmps243, lsz, llc, lln, Nat.reduceAdd, Nat.reduceSub, ars, arz, lpt, lap, lna, lca]; gi_wp2
 gi_loopw [3] (fun i wr => ∃ k : Nat, k + 1 <= l.length /\ i = .int .i64 ((k : Int) + 1) /\ J (bI (lM l hok) k) wr /\ Below n₀ W wr)
  (fun i _ => l.length - (intOf i).toNat)
 case atStart => exact ⟨0, hl1, rfl, h0, br _ _⟩
 case round =>
  obtain ⟨k, hk, rfl, hJs, hnx⟩ := hrel; have hcb := (hnx.cell (p := ⟨Bs, 0, none⟩) hBn).trans hBs
  by_cases hlt : k + 1 < l.length
  · have hJd : J (bI (lM l hok) k) wr.drew := hJa _ _ _ none hJs (lR wr) (fun r e => by cases e)
    obtain ⟨fn, tmps, assign, body, hy, hR⟩ := hY _ (lM l hok k) wr.drew hJd (by rw [dD]; omega)
    dsimp only [lM] at hy
    have hW : Below n₀ wr wr.drew := (br _ _).drew; have hba : aN wr bl (off + k * 2) (i7 l k).cells := by rw [gP l k (by omega)]; exact rT (hc k (by omega)) hnx hb
    have hbb : aN wr bl (off + (k + 1) * 2) (i7 l (k + 1)).cells := by rw [gP l (k + 1) hlt]; exact rT (hc (k + 1) hlt) hnx hb
    generalize i7 l k = a at hy hba; generalize i7 l (k + 1) = b at hy hbb; obtain ⟨c0, c1⟩ := kS hba; obtain ⟨d0, d1⟩ := kS hbb; have hi0 : (0 : Int) <= (k : Int) := by omega
    have hi1 : (k : Int) < (l.length : Int) := by omega
    have hi2 : (k : Int) + 1 < (l.length : Int) := by omega
    have hi3 : (0 : Int) <= (k : Int) + 1 := by omega
    have HNX : Hid (Below n₀ W wr.drew) := hnx.trans hW; have HR := hR; clear hR hc hBs h0 hJs hJd hnx hW hY hJa hba hbb; gi_wp2_with fail
    refine gR 10 (by kernel_rfl) (by kernel_rfl) ?_; simp only [lts, List.take_zero, lds, List.drop_zero]
    repeat (go_big_quiet_step (fail))
    refine wpQuiet_nil ?_; clear c0 c1 d0 d1; gi_wp2_with fail
    refine ⟨fun h => (by cases h), ?_⟩; refine RoundIn.mono HR ?_; rintro e W3 (⟨rfl, hJ3, hk3⟩ | ⟨rfl, hJx3⟩)
    · clear HR hy
      gi_wp2
      go_roundw
      case rel => exact ⟨k + 1, by omega, by go_num, by rw [b9]; exact hJ3, HNX.out.trans hk3⟩
      case measure => simp [intOf]; omega
    · clear HR hy
      gi_wp2; refine bpr (results_none rfl _ _ _) rfl ?_; exact ⟨⟨_, rfl⟩, .inr ⟨_, ⟨k + 1, by omega, (b9 _ _).symm⟩, hJx3⟩⟩
  · have hke : k = l.length - 1 := by omega
    gi_wp2
    go_end0
    exact ⟨⟨_, rfl⟩, .inl ⟨_, rfl, by rw [← hke]; exact hJs⟩⟩
theorem LN (F : Fence) (n : Nat) (hf : F.fn 239) (hro : F.round = none) (a : Option Addr) (len cap : Nat) (w : World) :
 CallsIn F n Tryz.prog 239 #[.slice a len cap] w fun e w' => e = .returned (.func (.func 243) #[] #[.pointer (some ⟨w.heap.size, 0, none⟩)]) /\ w' = w.alloc (.cells #[.slice a len cap] 168) := by
 refine callsIn_of_wp Tryz.func239 rfl hf ?_ hro; simp only [Tryz.ntmps239, lsz, llc, lln, Nat.reduceAdd, Nat.reduceSub, ars, arz, lpt, lap, lna, lca]; gi_wp2; go_ret; exact ⟨rfl, rfl⟩
theorem AE (n : Nat) (Bs bl off cap : Nat) (l : List Cx) (hok : l.all dY = true) (hl1 : 1 <= l.length) (hlen : l.length <= 1048576) (w : World)
 (hBs : w.cell? ⟨Bs, 0, none⟩ = some (.slice (some ⟨bl, off, none⟩) l.length cap)) (hc : ∀ j (h : j < l.length), aN w bl (off + j * 2) l[j].cells) :
 SeqStopsK Fence.wide n Tryz.prog 243 #[.pointer (some ⟨Bs, 0, none⟩)] (fun x : PC => #[x.1.1.val, x.1.2.val]) (Below w.heap.size) (fun ys => ys = bI (lM l hok) (l.length - 1)) (fun pre => ∃ k, k <= l.length - 1 /\ pre = bI (lM l hok) k) (l.length - 1) w := fun lp J Jx W hW hJ _ hY h0 => by
 have hb : bl < w.heap.size := aB (kS (hc 0 (by omega))).1; have hBn : Bs < w.heap.size := aB hBs; exact J8 n lp Bs w.heap.size bl off cap l hok hl1 hlen hb hBn J Jx W hJ hY ((hW.cell (p := ⟨Bs, 0, none⟩) hBn).trans hBs) (fun j h => rT (hc j h) hW hb) h0
theorem FE {l : List Cx} {hok : l.all dY = true} (h : ∀ x ∈ bI (lM l hok) (l.length - 1), gI x.1.1 x.1.2 = true) : fE l = true := by
 refine (l8 l).2 fun i hi => ?_; have := h (lM l hok i) (by simp only [bI, List.mem_map, List.mem_range]; exact ⟨i, by omega, rfl⟩); simp only [lM] at this
 rwa [gP l i (by omega), gP l (i + 1) hi] at this
theorem DT {l : List Cx} {hok : l.all dY = true} {k : Nat} (hk : k <= l.length - 1) {x : PC} (hx : x ∈ bI (lM l hok) k) (h : gI x.1.1 x.1.2 = false) : fE l = false := by
 simp only [bI, List.mem_map, List.mem_range] at hx; obtain ⟨i, hi, rfl⟩ := hx; simp only [lM] at h; rw [gP l i (by omega), gP l (i + 1) (by omega)] at h; exact qU l i (by omega) h
def s8 (w : World) (bl : Nat) (c : Cx) : Prop := w.cell? ⟨bl, 0, none⟩ = some (.int .i64 c.x) /\ w.cell? ⟨bl, 1, none⟩ = some (.int .i64 c.y)
theorem s8.zL {w w' : World} {bl : Nat} {c : Cx} (h : s8 w bl c) (hb : Below w.heap.size w w') : s8 w' bl c := ⟨(hb.cell (aB h.1)).trans h.1, (hb.cell (aB h.2)).trans h.2⟩
theorem wS {W W' : World} {row : Option Nat} {bl : Nat} {b : Cx} (h : s8 W bl b) (hg : W.grownBy W' row) (hrow : ∀ r, row = some r -> ∃ o : Obj, W.heap[r]? = some o /\ o.isCells = false) : s8 W' bl b :=
 ⟨cell_kept h.1 hg hrow, cell_kept h.2 hg hrow⟩
theorem CE (W : World) (g : Nat) (hg : g = W.heap.size) (b : Cx) (t : Nat) : s8 (W.alloc (.cells #[.int .i64 b.x, .int .i64 b.y] t)) g b := by
 subst hg
 constructor <;> simp
end Go.Proofs.YtiojdbffjdoniaaGreatDoor
