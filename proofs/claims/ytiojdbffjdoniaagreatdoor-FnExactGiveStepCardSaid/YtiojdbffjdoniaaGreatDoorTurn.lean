import Derived.Shelf.RegionOpen
import Derived.Test.YtiojdbffjdoniaaGreatDoorCd
namespace Go.Proofs.YtiojdbffjdoniaaGreatDoor
set_option maxRecDepth 100000
set_option maxHeartbeats 4000000
open Go.RowKit Go.Shelf
attribute [local go_sem] Oper.semAt_some
theorem E5 (h : Hx) (w : World) :
 Calls Tryz.prog 138 #[h.val] w fun e w' => e = .returned (.slice h.ta h.tl.length h.tc) /\ Below w.heap.size w w' := by
 go_enter Tryz.func138, Tryz.ntmps138
 go_wp2
 go_ret; exact ⟨rfl, (br _ _).alloc (nlq _) _⟩
theorem D9 (h : Hx) (w : World) :
 Calls Tryz.prog 139 #[h.val] w fun e w' => e = .returned (.slice h.na h.nl.length h.nc) /\ Below w.heap.size w w' := by
 go_enter Tryz.func139, Tryz.ntmps139
 go_wp2
 go_ret; exact ⟨rfl, (br _ _).alloc (nlq _) _⟩
def Hx.pa (h : Hx) (s : Bool) : Option Addr := if s then h.na else h.ta
def Hx.pl (h : Hx) (s : Bool) : List Bx := if s then h.nl else h.tl
def Hx.pc (h : Hx) (s : Bool) : Nat := if s then h.nc else h.tc
abbrev Hx.part (h : Hx) (s : Bool) : Value := .slice (h.pa s) (h.pl s).length (h.pc s)
abbrev HP (w : World) := { x : Hx × Bool // x.1.In w /\ x.1.Fit }
def QJ : Hx := ⟨ByteArray.empty, none, [], 0, none, [], 0⟩
theorem EY {w : World} {l : List Hx} (h : ∀ x ∈ l, x.In w /\ x.Fit) (j : Nat) : (dM l j).In w /\ (dM l j).Fit := by
 by_cases hj : j < l.length
 · rw [bV l j hj]; exact h _ (lgm hj)
 · have e : dM l j = QJ := by simp [dM, QJ, Nat.le_of_not_lt hj]
   rw [e]; exact ⟨⟨Or.inl rfl, Or.inl rfl⟩, ⟨nz _, nz _, nz _⟩⟩
def cO {w : World} (l : List Hx) (h : ∀ x ∈ l, x.In w /\ x.Fit) (m : Nat) : HP w := ⟨(dM l (m / 2), decide (m % 2 = 1)), EY h (m / 2)⟩
theorem x9 {w w' : World} {bl o B : Nat} {c : List Value} (h : aM w bl o c) (hb : Below B w w') (hl : bl < B) : aM w' bl o c := fun j v hj => (hb.cell (p := ⟨bl, o + j, none⟩) hl).trans (h j v hj)
theorem eJ {W W' : World} (h : Below W.heap.size W W') : W.grownBy W' none := ⟨h.os, h.tape, h.output, h.size, fun k hk _ => h.block k hk⟩
structure mD (B : Nat) (A A' : World) : Prop where
 b : Below B A A'
 c : ∀ (k : Nat) (o : Obj), A.heap[k]? = some o -> o.isCells = true -> A'.heap[k]? = some o
theorem mD.trans {B : Nat} {X Y Z : World} (h : mD B X Y) (g : mD B Y Z) : mD B X Z := ⟨h.b.trans g.b, fun k o hk ho => g.c k o (h.c k o hk ho) ho⟩
theorem mD.of_below {B : Nat} {X Y : World} (h : Below X.heap.size X Y) (hB : B <= X.heap.size) : mD B X Y := ⟨h.mono hB, fun k _ hk _ => (h.block k (bH hk)).trans hk⟩
abbrev Hx.obj (h : Hx) : Obj := .cells #[.string h.n, .slice h.ta h.tl.length h.tc, .slice h.na h.nl.length h.nc] 42
theorem bF {w : World} {z j : Nat} {cs : Array Value} {t : TypeId} {v : Value} (h : w.heap[z]? = some (.cells cs t)) (hj : cs[j]? = some v) : w.cell? ⟨z, j, none⟩ = some v := by simp [World.cell?, h, hj]
theorem qY {w : World} {l : List Hx} (h : ∀ x ∈ l, x.In w /\ x.Fit) (k : Nat) : (cO l h (k * 2 + 0)).1 = (dM l k, false) := by
 simp only [cO, Nat.add_zero, Nat.mul_div_cancel k (by decide : 0 < 2), Nat.mul_mod_left]; rfl
theorem qT {w : World} {l : List Hx} (h : ∀ x ∈ l, x.In w /\ x.Fit) (k : Nat) : (cO l h (k * 2 + 1)).1 = (dM l k, true) := by
 simp only [cO, show (k * 2 + 1) / 2 = k by omega, show (k * 2 + 1) % 2 = 1 by omega]; rfl
theorem zO {X : Nat -> Prop} {w w' : World} {bl o : Nat} {c : List Value} (h : aM w bl o c) (hk : aU X w w') (hx : ¬ X bl) : aM w' bl o c := fun j v hj => hk.cell (p := ⟨bl, o + j, none⟩) hx (h j v hj)
theorem LK (w0 : World) (n : Nat) (lp Bh Bp G n₀ cap : Nat) (X : Nat -> Prop) (hX0 : ∀ k, X k -> k < n₀) (ao : Option Addr) (l : List Hx) (hgood : ∀ x ∈ l, x.In w0 /\ x.Fit) (hlen : l.length <= 1048576) (hBp : ¬ X Bp) (hG : ¬ X G)
 (J Jx : List (HP w0) -> World -> Prop) (W : World) (hn₀ : n₀ <= W.heap.size) (hJa : AbidesFrom W.heap.size J)
 (hY : ∀ pre (x : HP w0) W, J pre W -> pre.length < l.length * 2 -> YieldAt Fence.wide (n - 1) Tryz.prog lp #[x.1.1.val, x.1.1.part x.1.2] W fun e W' =>
  (e = .returned (.bool true) /\ J (pre ++ [x]) W' /\ aU X W W') ∨ (e = .returned (.bool false) /\ Jx (pre ++ [x]) W'))
 (hBhc : W.cell? ⟨Bh, 0, none⟩ = some (.slice ao l.length cap)) (hBpc : W.cell? ⟨Bp, 0, none⟩ = some (.slice (some ⟨G, 0, none⟩) 2 2))
 (hg0 : W.cell? ⟨G, 0, none⟩ = some (.func (.func 138) #[] #[])) (hg1 : W.cell? ⟨G, 1, none⟩ = some (.func (.func 139) #[] #[]))
 (hX : l = [] ∨ ∃ bl off, ao = some ⟨bl, off, none⟩ /\ ¬ X bl /\ ∀ j (h : j < l.length), aM W bl (off + j * 3) l[j].cells) (h0 : J [] W) :
 CallsIn Fence.wide n Tryz.prog 168 #[.func (.yield lp) #[] #[], .pointer (some ⟨Bh, 0, none⟩), .pointer (some ⟨Bp, 0, none⟩)] W fun e W' => (∃ v, e = .returned v) /\
  ((∃ ys, ys = bJ (cO l hgood) (l.length * 2) /\ J ys W') ∨ (∃ pre, (∃ k, k <= l.length * 2 /\ pre = bJ (cO l hgood) k) /\ Jx pre W')) := by
 refine callsIn_of_wp Tryz.func168 rfl trivial ?_ rfl; simp only [Tryz.ntmps168, lsz, llc, lln, Nat.reduceAdd, Nat.reduceSub, ars, arz, lpt, lap, lna, lca]; gi_wp2
 gi_loopw [10] (fun i wr => ∃ k : Nat, k <= l.length /\ i = .int .i64 k /\ J (bJ (cO l hgood) (k * 2)) wr /\ aU X W wr) (fun i _ => l.length - (intOf i).toNat)
 case atStart => exact ⟨0, nz _, rfl, h0, aU.refl _ _⟩
 case round =>
  obtain ⟨k, hk, rfl, hJs, hnx⟩ := hrel
  by_cases hlt : k < l.length
  · obtain ⟨bl, off, rfl, hb, hc⟩ := hX.resolve_left (fun e => by rw [e] at hlt; simp at hlt)
    have hcb := hnx.cell (p := ⟨Bp, 0, none⟩) hBp hBpc; have hcx := zO (hc k hlt) hnx hb; obtain ⟨h, hbe⟩ : ∃ h, h = dM l k := ⟨_, rfl⟩; rw [← bV l k hlt, ← hbe] at hcx; have HB : Hid (h = dM l k) := hbe; clear hbe; obtain ⟨c0, c1, c2⟩ := eS hcx; clear hcx; have hz : Bp < wr.heap.size := aB hcb; have hgr : n₀ <= wr.heap.size := Nat.le_trans hn₀ hnx.size; have hnew : (wr.alloc h.obj).heap[wr.heap.size]? = some h.obj := wnq wr _; have hJn : J (bJ (cO l hgood) (k * 2)) (wr.alloc h.obj) := hJa _ _ _ none hJs (eJ ((br _ _).alloc (nlq _) _)) (fun r e => by cases e); have hBn : aU X W (wr.alloc h.obj) := hnx.trans (aU.of_below ((br _ _).alloc (nlq _) _)); gi_wp2; obtain ⟨z, hze⟩ : ∃ z, z = wr.heap.size := ⟨_, rfl⟩; have hzX : ¬ X z := fun e => by have := hX0 _ e; omega
    rw [← hze] at hnew ⊢; clear hcb c0 c1 c2 hz hJs hnx hze
    gi_loopw [16] (fun i wr' => ∃ s : Nat, s <= 2 /\ i = .int .i64 s /\ J (bJ (cO l hgood) (k * 2 + s)) wr' /\ aU X W wr' /\ wr'.heap[z]? = some h.obj) (fun i _ => 2 - (intOf i).toNat)
    case atStart => exact ⟨0, by omega, rfl, hJn, hBn, hnew⟩
    case round =>
     clear hnew hJn hBn hgr; obtain ⟨s, hs, rfl, hJ2, hnx2, hzo⟩ := hrel; have hcb2 := hnx2.cell (p := ⟨Bp, 0, none⟩) hBp hBpc; have hk0 := hnx2.cell (p := ⟨G, 0, none⟩) hG hg0; have hk1 := hnx2.cell (p := ⟨G, 1, none⟩) hG hg1; have e0 : wr.cell? ⟨z, 0, none⟩ = some (.string h.n) := bF hzo rfl; have e1 : wr.cell? ⟨z, 1, none⟩ = some (.slice h.ta h.tl.length h.tc) := bF hzo rfl; have e2 : wr.cell? ⟨z, 2, none⟩ = some (.slice h.na h.nl.length h.nc) := bF hzo rfl
     rcases (by omega : s = 0 ∨ s = 1 ∨ s = 2) with rfl | rfl | rfl
     · gi_wp2_with fail
       refine jT 5 (by kernel_rfl) (by kernel_rfl) ?_; have HA : Nonempty (bG wr) := ⟨⟨wr, br _ _⟩⟩; have f0 := fun s : bG wr => bG.cell e0 s; have f1 := fun s : bG wr => bG.cell e1 s; have f2 := fun s : bG wr => bG.cell e2 s; clear e0 e1 e2 hcb2 hk0 hk1; simp only [lts, List.take_zero, lds, List.drop_zero]
       repeat (go_big_quiet_step ((go_at_call 138; exact bG.call _ (E5 h _))))
       refine wpQuiet_nil ?_; rintro _ ⟨st, rfl⟩; have hxe : (cO l hgood (k * 2 + 0)).1 = (h, false) := by rw [HB.out]; exact qY hgood k
       have hJd : J (bJ (cO l hgood) (k * 2 + 0)) st.w := hJa _ _ _ none hJ2 (eJ st.h) (fun r e => by cases e); obtain ⟨fn, tmps, assign, body, hy, hR⟩ := hY _ (cO l hgood (k * 2 + 0)) st.w hJd (by rw [dD]; omega); rw [hxe] at hy; have HR := hR; have hzn : st.w.heap[z]? = some h.obj := (st.h.block z (bH hzo)).trans hzo; have hBt : aU X W st.w := hnx2.trans (aU.of_below st.h); clear hR hY hJd f0 f1 f2; simp only [Hx.part, Hx.pa, Hx.pl, Hx.pc, Hx.val, Bool.false_eq_true, if_false] at hy; gi_wp2_with fail
       refine ⟨fun h => (by cases h), ?_⟩; refine RoundIn.mono HR ?_; rintro e W3 (⟨rfl, hJ3, hk3⟩ | ⟨rfl, hJx3⟩)
       · clear HR hy
         gi_wp2; refine ⟨⟨0 + 1, by omega, rfl, ?_, hBt.trans hk3, hk3.c z _ hzX hzn rfl⟩, by simp [intOf]⟩; have hu := b9 (cO l hgood) (k * 2 + 0); rw [show k * 2 + (0 + 1) = k * 2 + 0 + 1 by omega, hu]; exact hJ3
       · clear HR hy
         gi_wp2; refine bpr (results_none rfl _ _ _) rfl ?_; exact ⟨⟨_, rfl⟩, .inr ⟨_, ⟨k * 2 + 0 + 1, by omega, (b9 _ _).symm⟩, hJx3⟩⟩
     · gi_wp2_with fail
       refine jT 5 (by kernel_rfl) (by kernel_rfl) ?_; have HA : Nonempty (bG wr) := ⟨⟨wr, br _ _⟩⟩; have f0 := fun s : bG wr => bG.cell e0 s; have f1 := fun s : bG wr => bG.cell e1 s; have f2 := fun s : bG wr => bG.cell e2 s; clear e0 e1 e2 hcb2 hk0 hk1; simp only [lts, List.take_zero, lds, List.drop_zero]
       repeat (go_big_quiet_step ((go_at_call 139; exact bG.call _ (D9 h _))))
       refine wpQuiet_nil ?_; rintro _ ⟨st, rfl⟩; have hxe : (cO l hgood (k * 2 + 1)).1 = (h, true) := by rw [HB.out]; exact qT hgood k
       have hJd : J (bJ (cO l hgood) (k * 2 + 1)) st.w := hJa _ _ _ none hJ2 (eJ st.h) (fun r e => by cases e); obtain ⟨fn, tmps, assign, body, hy, hR⟩ := hY _ (cO l hgood (k * 2 + 1)) st.w hJd (by rw [dD]; omega); rw [hxe] at hy; have HR := hR; have hzn : st.w.heap[z]? = some h.obj := (st.h.block z (bH hzo)).trans hzo; have hBt : aU X W st.w := hnx2.trans (aU.of_below st.h); clear hR hY hJd f0 f1 f2; simp only [Hx.part, Hx.pa, Hx.pl, Hx.pc, Hx.val, if_true] at hy; gi_wp2_with fail
       refine ⟨fun h => (by cases h), ?_⟩; refine RoundIn.mono HR ?_; rintro e W3 (⟨rfl, hJ3, hk3⟩ | ⟨rfl, hJx3⟩)
       · clear HR hy
         gi_wp2; refine ⟨⟨1 + 1, by omega, rfl, ?_, hBt.trans hk3, hk3.c z _ hzX hzn rfl⟩, by simp [intOf]⟩; have hu := b9 (cO l hgood) (k * 2 + 1); rw [show k * 2 + (1 + 1) = k * 2 + 1 + 1 by omega, hu]; exact hJ3
       · clear HR hy
         gi_wp2; refine bpr (results_none rfl _ _ _) rfl ?_; exact ⟨⟨_, rfl⟩, .inr ⟨_, ⟨k * 2 + 1 + 1, by omega, (b9 _ _).symm⟩, hJx3⟩⟩
     · clear e0 e1 e2 hk0 hk1 hcb2
       gi_wp2; refine ⟨⟨k + 1, by omega, by go_num, ?_, hnx2⟩, by simp [intOf]; omega⟩; rw [show (k + 1) * 2 = k * 2 + 2 by omega]; exact hJ2
  · have hke : k = l.length := by omega
    gi_wp2
    go_end0
    exact ⟨⟨_, rfl⟩, .inl ⟨_, rfl, by rw [← hke]; exact hJs⟩⟩
theorem JG (n : Nat) (a b : Option Addr) (len cap k c : Nat) (w : World) :
 CallsIn Fence.wide n Tryz.prog 137 #[.slice a len cap, .slice b k c] w fun e w' => e = .returned (.func (.func 168) #[] #[.pointer (some ⟨w.heap.size, 0, none⟩), .pointer (some ⟨w.heap.size + 1, 0, none⟩)]) /\
  w' = (w.alloc (.cells #[.slice a len cap] 27)).alloc (.cells #[.slice b k c] 228) := by
 refine callsIn_of_wp Tryz.func137 rfl trivial ?_ rfl; simp only [Tryz.ntmps137, lsz, llc, lln, Nat.reduceAdd, Nat.reduceSub, ars, arz, lpt, lap, lna, lca]; gi_wp2; go_ret; exact ⟨by simp, rfl⟩
theorem wQ (n : Nat) (h1 : 1 <= n) (a : Option Addr) (len cap : Nat) (w : World) :
 CallsIn Fence.wide n Tryz.prog 91 #[.slice a len cap] w fun e w' => ∃ Bh Bp G, e = .returned (.func (.func 168) #[] #[.pointer (some ⟨Bh, 0, none⟩), .pointer (some ⟨Bp, 0, none⟩)]) /\ Below w.heap.size w w' /\
  w'.cell? ⟨Bh, 0, none⟩ = some (.slice a len cap) /\ w'.cell? ⟨Bp, 0, none⟩ = some (.slice (some ⟨G, 0, none⟩) 2 2) /\ w'.cell? ⟨G, 0, none⟩ = some (.func (.func 138) #[] #[]) /\ w'.cell? ⟨G, 1, none⟩ = some (.func (.func 139) #[] #[]) /\ w.heap.size <= Bp /\ w.heap.size <= G := by
 refine callsIn_of_wp Tryz.func91 rfl trivial ?_ rfl; simp only [Tryz.ntmps91, lsz, llc, lln, Nat.reduceAdd, Nat.reduceSub, ars, arz, lpt, lap, lna, lca]; gi_wp2_with fail
 refine ⟨trivial, ?_⟩; refine (JG (n - 1) _ _ _ _ _ _ _).mono ?_; rintro e w' ⟨rfl, rfl⟩; have b1 := Boxed.new (w.alloc (.cells #[.func (.func 138) #[] #[], .func (.func 139) #[] #[]] 207)) 27 (.slice a len cap); have b2 := Boxed.new ((w.alloc (.cells #[.func (.func 138) #[] #[], .func (.func 139) #[] #[]] 207)).alloc (.cells #[.slice a len cap] 27)) 228 (.slice (some ⟨w.heap.size, 0, none⟩) 2 2); have b0 : (w.alloc (.cells #[.func (.func 138) #[] #[], .func (.func 139) #[] #[]] 207)).heap[w.heap.size]? = some (.cells #[.func (.func 138) #[] #[], .func (.func 139) #[] #[]] 207) := wnq w _
 have hB : Below w.heap.size w (((w.alloc (.cells #[.func (.func 138) #[] #[], .func (.func 139) #[] #[]] 207)).alloc (.cells #[.slice a len cap] 27)).alloc (.cells #[.slice (some ⟨w.heap.size, 0, none⟩) 2 2] 228)) :=
  (((br _ w).alloc (nlq _) _).alloc (by simp) _).alloc (by simp; omega) _
 have b1' := b1.alloc (.cells #[.slice (some ⟨w.heap.size, 0, none⟩) 2 2] 228); have b0' := (halq _ (.cells #[.slice (some ⟨w.heap.size, 0, none⟩) 2 2] 228) w.heap.size (by simp; omega)).trans ((halq _ (.cells #[.slice a len cap] 27) w.heap.size (by simp)).trans b0); simp only [wsa] at b1' b2; gi_wp2; go_ret; exact ⟨_, _, w.heap.size, rfl, hB, by simpa using b1'.cell, by simpa using b2.cell, bF b0' rfl, bF b0' rfl, by omega, nlq _⟩
theorem uM (n : Nat) (h1 : 1 <= n) (a : Option Addr) (len cap : Nat) (w : World) :
 CallsIn Fence.wide n Tryz.prog 91 #[.slice a len cap] w fun e w' => ∃ Bh Bp G, e = .returned (.func (.func 168) #[] #[.pointer (some ⟨Bh, 0, none⟩), .pointer (some ⟨Bp, 0, none⟩)]) /\ Below w.heap.size w w' /\
  w'.cell? ⟨Bh, 0, none⟩ = some (.slice a len cap) /\ w'.cell? ⟨Bp, 0, none⟩ = some (.slice (some ⟨G, 0, none⟩) 2 2) /\ w'.cell? ⟨G, 0, none⟩ = some (.func (.func 138) #[] #[]) /\ w'.cell? ⟨G, 1, none⟩ = some (.func (.func 139) #[] #[]) :=
 (wQ n h1 a len cap w).mono (fun _ _ ⟨Bh, Bp, G, h1, h2, h3, h4, h5, h6, _⟩ => ⟨Bh, Bp, G, h1, h2, h3, h4, h5, h6⟩)
theorem xW {B : Nat} {X Y Z : World} (h : mD B X Y) (g : mD B Y Z) : mD B X Z := h.trans g
theorem xU {B : Nat} {w : World} (hB : B <= w.heap.size) (W : World) (l : Nat) (o o' : Obj) (hl : w.heap.size <= l) (ho : W.heap[l]? = some o) (hc : o.isCells = false) (hw : o.isWalk = false) : mD B W (W.putObj l o') := by
 refine ⟨belowK_b hB W l o o' hl ho hc hw, fun k u hk hu => ?_⟩; have hne : k ≠ l := fun e => by subst e; rw [ho] at hk; cases hk; rw [hc] at hu; cases hu
 exact ((grownBy_putObj' W l o').block k (bH hk) (fun e => hne (Option.some.inj e))).trans hk
theorem KY {α : Type} {F : Fence} {n : Nat} {P : Program} {g : Nat} {lb : Array Value} {encs : α -> Array Value} {Kp Kq : World -> World -> Prop} {S Sp : List α -> Prop} {N : Nat} {w : World} (h : SeqStopsK F n P g lb encs Kp S Sp N w) (hk : ∀ A B, Kq A B -> Kp A B) : SeqStopsK F n P g lb encs Kq S Sp N w :=
 fun l J Jx W hW hJ hJx hY h0 => h l J Jx W hW hJ hJx (fun pre x W1 hj hl => (hY pre x W1 hj hl).mono (fun _ _ r => r.imp (fun a => ⟨a.1, a.2.1, hk _ _ a.2.2⟩) id)) h0
theorem qS (n : Nat) (Bh Bp G cap : Nat) (ao : Option Addr) (l : List Hx) (w0 : World) (hgood : ∀ x ∈ l, x.In w0 /\ x.Fit) (hlen : l.length <= 1048576) (w : World) (X : Nat -> Prop) (hX0 : ∀ k, X k -> k < w.heap.size) (hXp : ¬ X Bp) (hXg : ¬ X G) (hXl : ∀ p, ao = some p -> l ≠ [] -> ¬ X p.block)
 (hBh : w.cell? ⟨Bh, 0, none⟩ = some (.slice ao l.length cap)) (hBp : w.cell? ⟨Bp, 0, none⟩ = some (.slice (some ⟨G, 0, none⟩) 2 2)) (hg0 : w.cell? ⟨G, 0, none⟩ = some (.func (.func 138) #[] #[])) (hg1 : w.cell? ⟨G, 1, none⟩ = some (.func (.func 139) #[] #[]))
 (hX : Xs 3 Hx.cells w ao l) :
 SeqStopsK Fence.wide n Tryz.prog 168 #[.pointer (some ⟨Bh, 0, none⟩), .pointer (some ⟨Bp, 0, none⟩)] (fun x : HP w0 => #[x.1.1.val, x.1.1.part x.1.2]) (aU X) (fun ys => ys = bJ (cO l hgood) (l.length * 2)) (fun pre => ∃ k, k <= l.length * 2 /\ pre = bJ (cO l hgood) k) (l.length * 2) w := fun lp J Jx W hW hJ _ hY h0 => by
 refine LK w0 n lp Bh Bp G w.heap.size cap X hX0 ao l hgood hlen hXp hXg J Jx W hW.size hJ hY ((hW.cell (aB hBh)).trans hBh) ((hW.cell (aB hBp)).trans hBp) ((hW.cell (aB hg0)).trans hg0) ((hW.cell (aB hg1)).trans hg1) ?_ h0
 rcases l with _ | ⟨x, l⟩
 · exact .inl rfl
 · rcases hX with h | ⟨bl, off, e, hc⟩
   · cases h
   · have hb : bl < w.heap.size := aB (eS (hc 0 (by simp))).1
     exact .inr ⟨bl, off, e, hXl _ e (by simp), fun j h => x9 (hc j h) hW hb⟩
theorem mZ (n : Nat) (Bh Bp G cap : Nat) (ao : Option Addr) (l : List Hx) (w0 : World) (hgood : ∀ x ∈ l, x.In w0 /\ x.Fit) (hlen : l.length <= 1048576) (w : World)
 (hBh : w.cell? ⟨Bh, 0, none⟩ = some (.slice ao l.length cap)) (hBp : w.cell? ⟨Bp, 0, none⟩ = some (.slice (some ⟨G, 0, none⟩) 2 2)) (hg0 : w.cell? ⟨G, 0, none⟩ = some (.func (.func 138) #[] #[])) (hg1 : w.cell? ⟨G, 1, none⟩ = some (.func (.func 139) #[] #[]))
 (hX : Xs 3 Hx.cells w ao l) :
 SeqStopsK Fence.wide n Tryz.prog 168 #[.pointer (some ⟨Bh, 0, none⟩), .pointer (some ⟨Bp, 0, none⟩)] (fun x : HP w0 => #[x.1.1.val, x.1.1.part x.1.2]) (mD w.heap.size) (fun ys => ys = bJ (cO l hgood) (l.length * 2)) (fun pre => ∃ k, k <= l.length * 2 /\ pre = bJ (cO l hgood) k) (l.length * 2) w :=
 KY (qS n Bh Bp G cap ao l w0 hgood hlen w (fun _ => False) (fun _ h => h.elim) id id (fun _ _ _ => id) hBh hBp hg0 hg1 hX) (fun _ _ h => ⟨h.b.size, fun k o _ hk ho => h.c k o hk ho⟩)
end Go.Proofs.YtiojdbffjdoniaaGreatDoor
namespace Go.Proofs.YtiojdbffjdoniaaGreatDoor
set_option maxRecDepth 100000
set_option maxHeartbeats 1000000
open Go.RowKit
structure mW (z : Nat) (w : World) (h h' : Hx) : Prop where
 like : h.Like h'
 rt : ∃ p, h'.ta = some ⟨p, 0, none⟩ /\ z <= p /\ fB w p h'.tl.length h'.tl h'.tl.length
 rn : ∃ p, h'.na = some ⟨p, 0, none⟩ /\ z <= p /\ fB w p h'.nl.length h'.nl h'.nl.length
theorem mW.inn {z : Nat} {w : World} {h h' : Hx} (m : mW z w h h') : h'.In w := by
 obtain ⟨p, e, _, r⟩ := m.rt; obtain ⟨q, e2, _, r2⟩ := m.rn; exact ⟨by rw [e]; exact r.bxs (nlq _) (nlq _), by rw [e2]; exact r2.bxs (nlq _) (nlq _)⟩
theorem JI (w : World) (t : Nat) (v0 v1 v2 : Value) : (w.alloc (.cells #[v0, v1, v2] t)).rowIs w.heap.size t 3 (fun i => (#[v0, v1, v2] : Array Value).getD i undef) :=
 World.rowIs_alloc w #[v0, v1, v2] t _ (fun i hi => by simp at hi; match i, hi with | 0, _ => rfl | 1, _ => rfl | 2, _ => rfl)
theorem fB.setOther {w : World} {bl n k : Nat} {l : List Bx} (h : fB w bl n l k) {a : Addr} (ha : bl ≠ a.block) (v : Value) : fB (w.setCell a v) bl n l k := by
 obtain ⟨f, hrow, hf⟩ := h; exact ⟨f, hrow.setOther ha v, hf⟩
theorem GC (h : Hx) (w : World) (hi : h.In w) (hf : h.Fit) :
 Calls Tryz.prog 100 #[h.val] w fun e w' => (∃ h', e = .returned h'.val /\ mW w.heap.size w' h h') /\ Below w.heap.size w w' := by
 go_enter Tryz.func100, Tryz.ntmps100
 go_wp2_with fail
 have a2 := bF (z := w.heap.size) (j := 2) (v := .slice h.na h.nl.length h.nc) ((halq ((w.alloc (.cells #[.string h.n, .slice h.ta h.tl.length h.tc, .slice h.na h.nl.length h.nc] 154)).alloc (.cells #[.string ByteArray.empty, .slice none 0 0, .slice none 0 0] 42)) (.cells #[.string h.n, .slice none 0 0, .slice none 0 0] 42) w.heap.size (by simp; omega)).trans ((halq (w.alloc (.cells #[.string h.n, .slice h.ta h.tl.length h.tc, .slice h.na h.nl.length h.nc] 154)) (.cells #[.string ByteArray.empty, .slice none 0 0, .slice none 0 0] 42) w.heap.size (by simp)).trans (wnq w _))) rfl; have rR := (JI (w.alloc (.cells #[.string h.n, .slice h.ta h.tl.length h.tc, .slice h.na h.nl.length h.nc] 154)) 42 (.string ByteArray.empty) (.slice none 0 0) (.slice none 0 0)).alloc (.cells #[.string h.n, .slice none 0 0, .slice none 0 0] 42); have rO := JI ((w.alloc (.cells #[.string h.n, .slice h.ta h.tl.length h.tc, .slice h.na h.nl.length h.nc] 154)).alloc (.cells #[.string ByteArray.empty, .slice none 0 0, .slice none 0 0] 42)) 42 (.string h.n) (.slice none 0 0) (.slice none 0 0); have hB0 : Below w.heap.size w (((w.alloc (.cells #[.string h.n, .slice h.ta h.tl.length h.tc, .slice h.na h.nl.length h.nc] 154)).alloc (.cells #[.string ByteArray.empty, .slice none 0 0, .slice none 0 0] 42)).alloc (.cells #[.string h.n, .slice none 0 0, .slice none 0 0] 42)) := aA (aA (aA (br _ _) _) _) _; have hz : (((w.alloc (.cells #[.string h.n, .slice h.ta h.tl.length h.tc, .slice h.na h.nl.length h.nc] 154)).alloc (.cells #[.string ByteArray.empty, .slice none 0 0, .slice none 0 0] 42)).alloc (.cells #[.string h.n, .slice none 0 0, .slice none 0 0] 42)).heap.size = w.heap.size + 3 := by simp
 simp only [wsa] at rR rO; obtain ⟨W0, hW0⟩ : ∃ W0, ((w.alloc (.cells #[.string h.n, .slice h.ta h.tl.length h.tc, .slice h.na h.nl.length h.nc] 154)).alloc (.cells #[.string ByteArray.empty, .slice none 0 0, .slice none 0 0] 42)).alloc (.cells #[.string h.n, .slice none 0 0, .slice none 0 0] 42) = W0 := ⟨_, rfl⟩; rw [hW0] at a2 rR rO hB0 hz; have hcall := oY h.tl h.ta h.tc W0 (hi.1.zL hB0) hf.tn; rw [← hW0] at hcall; refine hcall.mono ?_; rw [hW0]; rintro e w1 ⟨rfl, hr1, hb1⟩; clear hcall hW0; rw [hz] at hr1 ⊢; have rR1 := rR.of_block (hb1.block _ rR.lt); have rO1 := rO.of_block (hb1.block _ rO.lt); have a21 := (hb1.cell (aB a2)).trans a2; have hz1 : w.heap.size + 3 < w1.heap.size := by obtain ⟨f, hrow, _⟩ := hr1; exact hrow.lt
 have hB1 : Below w.heap.size w w1 := aC hB0 hb1; clear rR rO a2 hb1 hB0 hz; have o0 := rO1.cell (i := 0) (by omega); have o1 := rO1.cell (i := 1) (by omega); have o2 := rO1.cell (i := 2) (by omega); have fO := fun i => rO1.frozen i; go_wp2_with fail
 have rO2 := rO1.set 1 (.slice (some ⟨w.heap.size + 3, 0, none⟩) h.tl.length h.tl.length); have rR2 := rR1.setOther (a := ⟨w.heap.size + 1 + 1, 1, none⟩) (by simp) (.slice (some ⟨w.heap.size + 3, 0, none⟩) h.tl.length h.tl.length); have hr2 := hr1.setOther (a := ⟨w.heap.size + 1 + 1, 1, none⟩) (by simp) (.slice (some ⟨w.heap.size + 3, 0, none⟩) h.tl.length h.tl.length); have hB2 : Below w.heap.size w (w1.setCell ⟨w.heap.size + 1 + 1, 1, none⟩ (.slice (some ⟨w.heap.size + 3, 0, none⟩) h.tl.length h.tl.length)) := hB1.setCell (by simp; omega) _; have hz2 : (w1.setCell ⟨w.heap.size + 1 + 1, 1, none⟩ (.slice (some ⟨w.heap.size + 3, 0, none⟩) h.tl.length h.tl.length)).heap.size = w1.heap.size := by simp
 obtain ⟨W2, hW2⟩ : ∃ W2, w1.setCell ⟨w.heap.size + 1 + 1, 1, none⟩ (.slice (some ⟨w.heap.size + 3, 0, none⟩) h.tl.length h.tl.length) = W2 := ⟨_, rfl⟩; rw [hW2] at rO2 rR2 hr2 hB2 hz2 ⊢; clear hW2 rO1 rR1 hr1 hB1 a21 o0 o1 o2 fO; refine (oY h.nl h.na h.nc W2 (hi.2.zL hB2) hf.nn).mono ?_; rintro e w3 ⟨rfl, hr3, hb3⟩; rw [hz2] at hr3 ⊢; have rR3 := rR2.of_block (hb3.block _ rR2.lt); have rO3 := rO2.of_block (hb3.block _ rO2.lt); have hr4 := hr2.zL hb3; have hB3 : Below w.heap.size w w3 := aC hB2 hb3; have hz3 : w1.heap.size < w3.heap.size := by obtain ⟨f, hrow, _⟩ := hr3; exact hrow.lt
 clear rR2 rO2 hr2 hB2 hb3 hz2 hi; have o0 := rO3.cell (i := 0) (by omega); have o1 := rO3.cell (i := 1) (by omega); have o2 := rO3.cell (i := 2) (by omega); have fO := fun i => rO3.frozen i; have p0 := rR3.cell (i := 0) (by omega); have p1 := rR3.cell (i := 1) (by omega); have p2 := rR3.cell (i := 2) (by omega); have fR := fun i => rR3.frozen i; have o0' : w3.cell? ⟨w.heap.size + 1 + 1, 0, none⟩ = some (.string h.n) := o0; have o1' : w3.cell? ⟨w.heap.size + 1 + 1, 1, none⟩ = some (.slice (some ⟨w.heap.size + 3, 0, none⟩) h.tl.length h.tl.length) := o1; clear o0 o1; go_wp2
 refine bpr (v := Hx.val ⟨h.n, some ⟨w.heap.size + 3, 0, none⟩, h.tl, h.tl.length, some ⟨w1.heap.size, 0, none⟩, h.nl, h.nl.length⟩) (by simp [results, Tryz.results100, go_sem, p0, p1, p2]) rfl ?_; refine ⟨⟨_, rfl, ⟨rfl, rfl, rfl⟩, ⟨_, rfl, by omega, ?_⟩, ⟨_, rfl, by omega, ?_⟩⟩, ?_⟩
 · exact (((hr4.setOther (by simp) _).setOther (by simp) _).setOther (by simp) _).setOther (by simp) _
 · exact (((hr3.setOther (by simp; omega) _).setOther (by simp; omega) _).setOther (by simp; omega) _).setOther (by simp; omega) _
 · exact (((hB3.setCell (by simp; omega) _).setCell (by simp) _).setCell (by simp) _).setCell (by simp) _
theorem Tryz.info42 : (Tryz.prog.info? 42).map (fun i => (i.zero, i.size, i.bytes)) = some (some (.agg #[.string ByteArray.empty, .slice none 0 0, .slice none 0 0]), 3, 64) := by kernel_rfl
theorem PK (n : Nat) (hn : n <= 1048576) (w : World) :
 (Instr.makeSlice 27 (.int .i64 (n : Int)) (.int .i64 (n : Int))).run Tryz.prog w = .ok (.slice (some ⟨w.heap.size, 0, none⟩) n n) (w.alloc (.cells (madeCells #[.string ByteArray.empty, .slice none 0 0, .slice none 0 0] (n * 3)) 42)) := by
 obtain ⟨i, hi, hz0, hz1, hz2⟩ := info_parts Tryz.info42; have hr := run_make (P := Tryz.prog) w 27 42 i _ Tryz.underlying27 hi hz0 .i64 .i64 n n (by omega) (Int.le_refl _) (by rw [hz2]; omega) (by omega); rw [hz1, Int.toNat_natCast] at hr; exact hr
theorem mW.zL {z : Nat} {w w' : World} {h h' : Hx} (m : mW z w h h') (hb : Below w.heap.size w w') : mW z w' h h' := by
 obtain ⟨l, ⟨p, e, hz, r⟩, q, e2, hz2, r2⟩ := m; exact ⟨l, ⟨p, e, hz, r.zL hb⟩, q, e2, hz2, r2.zL hb⟩
theorem mW.store {z : Nat} {w : World} {h h' : Hx} (m : mW (z + 1) w h h') (o : Nat) (v : Value) : mW (z + 1) (w.setCell ⟨z, o, none⟩ v) h h' := by
 obtain ⟨l, ⟨p, e, hz, r⟩, q, e2, hz2, r2⟩ := m; exact ⟨l, ⟨p, e, hz, r.setOther (by simp; omega) v⟩, q, e2, hz2, r2.setOther (by simp; omega) v⟩
theorem mW.weak {z z' : Nat} {w : World} {h h' : Hx} (m : mW z w h h') (hz : z' <= z) : mW z' w h h' := by
 obtain ⟨l, ⟨p, e, h1, r⟩, q, e2, h2, r2⟩ := m; exact ⟨l, ⟨p, e, by omega, r⟩, q, e2, by omega, r2⟩
def j6 (z : Nat) (w : World) (l m : List Hx) (k : Nat) : Prop := ∃ hl : m.length = l.length, ∀ j (h : j < l.length), j < k -> mW z w l[j] (m[j]'(by omega))
theorem s7 (l : List Hx) (ao : Option Addr) (cap : Nat) (w : World) (hl : Xs 3 Hx.cells w ao l) (hn : l.length <= 1048576) (hg : ∀ h ∈ l, h.In w /\ h.Fit) :
 Calls Tryz.prog 49 #[.slice ao l.length cap] w fun e w' => (∃ m, e = .returned (.slice (some ⟨w.heap.size, 0, none⟩) l.length l.length) /\ bI 42 3 Hx.cells w' w.heap.size l.length m l.length /\ j6 (w.heap.size + 1) w' l m l.length) /\ Below w.heap.size w w' := by
 have hmk := PK l.length hn
 go_enter Tryz.func49, Tryz.ntmps49
 go_wp2
 go_loopw [4] (fun i wr => ∃ (k : Nat) (L : List Hx), k <= l.length /\ i = .int .i64 k /\ bI 42 3 Hx.cells wr w.heap.size l.length L k /\ Hid (j6 (w.heap.size + 1) wr l L k) /\ Below w.heap.size w wr) (fun i _ => l.length - (intOf i).toNat)
 case atStart => exact ⟨0, l, nz _, rfl, bI.start _ _ _ _ _ _, ⟨rfl, fun j _ h => absurd h (by omega)⟩, aA (br _ _) _⟩
 case round =>
  clear hmk; obtain ⟨k, L, hk, rfl, hR, hM, hN⟩ := hrel
  by_cases hlt : k < l.length
  · rcases hl with h | ⟨bl, off, rfl, hc⟩
    · subst h; simp at hlt
    · have hbx := (hc k hlt).zL hN
      have hgk := hg l[k] (lgm hlt); obtain ⟨b, hbe⟩ : ∃ b, b = l[k] := ⟨_, rfl⟩; rw [← hbe] at hbx hgk; have HB : Hid (b = l[k]) := hbe; clear hbe hc; obtain ⟨c0, c1, c2⟩ := eS hbx; clear hbx; obtain ⟨f, hrow, hf⟩ := hR; have HF : Hid (∀ i (h : i < L.length), i < k -> ∀ j v, (Hx.cells L[i])[j]? = some v -> f (i * 3 + j) = v) := hf; clear hf
      go_wp2_with (go_at_call 100; refine (GC b _ (hgk.1.zL hN) hgk.2).mono ?_; rintro e w1 ⟨⟨h', rfl, hmade⟩, hb1⟩; have hrow1 := hrow.of_block (hb1.block _ hrow.lt); have hN1 : Below w.heap.size w w1 := aT hN (nlq _) hb1; have hM1 : Hid (j6 (w.heap.size + 1) w1 l L k) := ⟨hM.out.1, fun j hj hjk => (hM.out.2 j hj hjk).zL hb1⟩; have hmade := hmade.weak (z' := w.heap.size + 1) hrow.lt; clear hM hN hrow c0 c1 c2 hb1; have hfr := fun i => hrow1.frozen i; have hz : w.heap.size < w1.heap.size := hrow1.lt; have e0 := hrow1.cell (i := k * 3) (by omega); have e1 := hrow1.cell (i := k * 3 + 1) (by omega); have e2 := hrow1.cell (i := k * 3 + 2) (by omega))
      obtain ⟨hLl, hMk⟩ := hM1.out; have hkL : k < (L.set k h').length := by rw [List.length_set]; omega
      refine ⟨⟨k + 1, L.set k h', by omega, by go_num, bI.store3 (l := L.set k h') (hk := hkL) hrow1 ?_ Hx.cells_length (by rw [List.getElem_set_self]; rfl), ?_, ?_⟩, by simp [intOf]; omega⟩
      · intro i hi hik j v hj
        rw [List.getElem_set_ne (by omega)] at hj; exact HF.out i (by rw [List.length_set] at hi; exact hi) hik j v hj
      · refine ⟨by rw [List.length_set]; exact hLl, fun j hj hjk => ?_⟩
        refine ((mW.store ?_ _ _).store _ _).store _ _
        by_cases e : j = k
        · subst e
          rw [List.getElem_set_self, ← HB.out]; exact hmade
        · rw [List.getElem_set_ne (by omega)]
          exact hMk j hj (by omega)
      · exact ((hN1.setCell (by exact nlq _) _).setCell (by exact nlq _) _).setCell (by exact nlq _) _
  · have hkk : k = l.length := by omega
    go_wp2
    go_ret; exact ⟨⟨L, rfl, by rw [hkk] at hR; exact hR, by rw [hkk] at hM; exact hM.out⟩, hN⟩
theorem j6.likes {z : Nat} {w : World} {l m : List Hx} (h : j6 z w l m l.length) : aI l m := ⟨h.1, fun k hk => (h.2 k hk hk).like⟩
theorem j6.inn {z : Nat} {w : World} {l m : List Hx} (h : j6 z w l m l.length) : ∀ x ∈ m, x.In w := fun x hx => by
 obtain ⟨k, hk, rfl⟩ := lgo hx; exact (h.2 k (by rw [← h.1]; exact hk) (by rw [← h.1]; exact hk)).inn
theorem aI.fit {l m : List Hx} (h : aI l m) (hf : ∀ x ∈ l, x.Fit) : ∀ x ∈ m, x.Fit := fun x hx => by
 obtain ⟨k, hk, rfl⟩ := lgo hx; have hkl : k < l.length := by rw [← h.len]; exact hk
 have g := hf l[k] (lgm hkl); have e := h.like k hkl; exact ⟨by rw [← e.t]; exact g.tn, by rw [← e.x]; exact g.nn, by rw [← e.n]; exact g.sn⟩
theorem bI.setOther {α : Type} {t sz : Nat} {c : α -> List Value} {w : World} {bl n k : Nat} {l : List α} (h : bI t sz c w bl n l k) {a : Addr} (ha : bl ≠ a.block) (v : Value) : bI t sz c (w.setCell a v) bl n l k := by
 obtain ⟨f, hrow, hf⟩ := h; exact ⟨f, hrow.setOther ha v, hf⟩
theorem bI.xs' {α : Type} {t sz : Nat} {c : α -> List Value} {w : World} {bl n k : Nat} {l : List α} (h : bI t sz c w bl n l k) (hc : ∀ a, (c a).length = sz) (hk : l.length <= k) (hn : l.length <= n) : ∀ i (h : i < l.length), aM w bl (0 + i * sz) (c l[i]) := by
 obtain ⟨f, hrow, hf⟩ := h; intro i hi j v hj
 have hjs : j < sz := by
  rw [← hc l[i]]; exact (lgs.1 hj).1
 rw [Nat.zero_add, hrow.cell (zM sz (by omega) hjs), hf i hi (by omega) j v hj]
theorem mW.other {z : Nat} {w : World} {h h' : Hx} (m : mW z w h h') {g : Nat} (hg : g < z) (o : Nat) (v : Value) : mW z (w.setCell ⟨g, o, none⟩ v) h h' := by
 obtain ⟨l, ⟨p, e, hz, r⟩, q, e2, hz2, r2⟩ := m; exact ⟨l, ⟨p, e, hz, r.setOther (by simp; omega) v⟩, q, e2, hz2, r2.setOther (by simp; omega) v⟩
theorem j6.other {z k : Nat} {w : World} {l m : List Hx} (h : j6 z w l m k) {g : Nat} (hg : g < z) (o : Nat) (v : Value) : j6 z (w.setCell ⟨g, o, none⟩ v) l m k := ⟨h.1, fun j hj hk => (h.2 j hj hk).other hg o v⟩
structure eL (w : World) (b b' : Bk) : Prop where
 now : b'.now = b.now
 fl : b'.fl = b.fl
 fc : b'.fc = b.fl.length
 fs : Xs 3 Fx.cells w b'.fa b'.fl
 hs : ∃ q, b'.ha = some ⟨q, 0, none⟩ /\ ∀ i (h : i < b'.hl.length), aM w q (0 + i * 3) b'.hl[i].cells
 likes : aI b.hl b'.hl
 inn : ∀ h ∈ b'.hl, h.In w
theorem pA (b : Bk) (w : World) (hf : Xs 3 Fx.cells w b.fa b.fl) (hnf : b.fl.length <= 1048576) (hh : Xs 3 Hx.cells w b.ha b.hl) (hnh : b.hl.length <= 1048576) (hg : ∀ h ∈ b.hl, h.In w /\ h.Fit) :
 Calls Tryz.prog 15 #[b.val] w fun e w' => (∃ b', e = .returned b'.val /\ eL w' b b') /\ Below w.heap.size w w' := by
 go_enter Tryz.func15, Tryz.ntmps15
 go_wp2_with fail
 have a2 := bF (z := w.heap.size) (j := 2) (v := .slice b.ha b.hl.length b.hc) ((halq ((w.alloc (.cells #[.int .i64 b.now, .slice b.fa b.fl.length b.fc, .slice b.ha b.hl.length b.hc] 49)).alloc (.cells #[.int .i64 0, .slice none 0 0, .slice none 0 0] 29)) (.cells #[.int .i64 b.now, .slice none 0 0, .slice none 0 0] 29) w.heap.size (by simp; omega)).trans ((halq (w.alloc (.cells #[.int .i64 b.now, .slice b.fa b.fl.length b.fc, .slice b.ha b.hl.length b.hc] 49)) (.cells #[.int .i64 0, .slice none 0 0, .slice none 0 0] 29) w.heap.size (by simp)).trans (wnq w _))) rfl; have rR := (JI (w.alloc (.cells #[.int .i64 b.now, .slice b.fa b.fl.length b.fc, .slice b.ha b.hl.length b.hc] 49)) 29 (.int .i64 0) (.slice none 0 0) (.slice none 0 0)).alloc (.cells #[.int .i64 b.now, .slice none 0 0, .slice none 0 0] 29); have rO := JI ((w.alloc (.cells #[.int .i64 b.now, .slice b.fa b.fl.length b.fc, .slice b.ha b.hl.length b.hc] 49)).alloc (.cells #[.int .i64 0, .slice none 0 0, .slice none 0 0] 29)) 29 (.int .i64 b.now) (.slice none 0 0) (.slice none 0 0); have hB0 : Below w.heap.size w (((w.alloc (.cells #[.int .i64 b.now, .slice b.fa b.fl.length b.fc, .slice b.ha b.hl.length b.hc] 49)).alloc (.cells #[.int .i64 0, .slice none 0 0, .slice none 0 0] 29)).alloc (.cells #[.int .i64 b.now, .slice none 0 0, .slice none 0 0] 29)) := aA (aA (aA (br _ _) _) _) _; have hz : (((w.alloc (.cells #[.int .i64 b.now, .slice b.fa b.fl.length b.fc, .slice b.ha b.hl.length b.hc] 49)).alloc (.cells #[.int .i64 0, .slice none 0 0, .slice none 0 0] 29)).alloc (.cells #[.int .i64 b.now, .slice none 0 0, .slice none 0 0] 29)).heap.size = w.heap.size + 3 := by simp
 simp only [wsa] at rR rO; obtain ⟨W0, hW0⟩ : ∃ W0, ((w.alloc (.cells #[.int .i64 b.now, .slice b.fa b.fl.length b.fc, .slice b.ha b.hl.length b.hc] 49)).alloc (.cells #[.int .i64 0, .slice none 0 0, .slice none 0 0] 29)).alloc (.cells #[.int .i64 b.now, .slice none 0 0, .slice none 0 0] 29) = W0 := ⟨_, rfl⟩; rw [hW0] at a2 rR rO hB0 hz; have hcall := uL b.fl b.fa b.fc W0 (hf.zL hB0) hnf; rw [← hW0] at hcall; refine hcall.mono ?_; rw [hW0]; rintro e w1 ⟨rfl, hr1, hb1⟩; clear hcall hW0; rw [hz] at hr1 ⊢; have rR1 := rR.of_block (hb1.block _ rR.lt); have rO1 := rO.of_block (hb1.block _ rO.lt); have a21 := (hb1.cell (aB a2)).trans a2; have hz1 : w.heap.size + 3 < w1.heap.size := hr1.lt; have hB1 : Below w.heap.size w w1 := aC hB0 hb1; clear rR rO a2 hb1 hB0 hz; have o0 := rO1.cell (i := 0) (by omega); have o1 := rO1.cell (i := 1) (by omega); have o2 := rO1.cell (i := 2) (by omega); have fO := fun i => rO1.frozen i; go_wp2_with fail
 have rO2 := rO1.set 1 (.slice (some ⟨w.heap.size + 3, 0, none⟩) b.fl.length b.fl.length); have rR2 := rR1.setOther (a := ⟨w.heap.size + 1 + 1, 1, none⟩) (by simp) (.slice (some ⟨w.heap.size + 3, 0, none⟩) b.fl.length b.fl.length); have hr2 := hr1.setOther (a := ⟨w.heap.size + 1 + 1, 1, none⟩) (by simp) (.slice (some ⟨w.heap.size + 3, 0, none⟩) b.fl.length b.fl.length); have hB2 : Below w.heap.size w (w1.setCell ⟨w.heap.size + 1 + 1, 1, none⟩ (.slice (some ⟨w.heap.size + 3, 0, none⟩) b.fl.length b.fl.length)) := hB1.setCell (by simp; omega) _; have hz2 : (w1.setCell ⟨w.heap.size + 1 + 1, 1, none⟩ (.slice (some ⟨w.heap.size + 3, 0, none⟩) b.fl.length b.fl.length)).heap.size = w1.heap.size := by simp
 obtain ⟨W2, hW2⟩ : ∃ W2, w1.setCell ⟨w.heap.size + 1 + 1, 1, none⟩ (.slice (some ⟨w.heap.size + 3, 0, none⟩) b.fl.length b.fl.length) = W2 := ⟨_, rfl⟩; rw [hW2] at rO2 rR2 hr2 hB2 hz2 ⊢; clear hW2 rO1 rR1 hr1 hB1 a21 o0 o1 o2 fO; refine (s7 b.hl b.ha b.hc W2 (hh.zL hB2) hnh (fun h m => ⟨(hg h m).1.zL hB2, (hg h m).2⟩)).mono ?_; rintro e w3 ⟨⟨m, rfl, hr3, hM⟩, hb3⟩; rw [hz2] at hr3 hM ⊢; have rR3 := rR2.of_block (hb3.block _ rR2.lt); have rO3 := rO2.of_block (hb3.block _ rO2.lt); have hr4 := hr2.zL hb3; have hB3 : Below w.heap.size w w3 := aC hB2 hb3; have hz3 : w1.heap.size < w3.heap.size := hr3.lt; clear rR2 rO2 hr2 hB2 hb3 hz2 hf hh hg; have o0 := rO3.cell (i := 0) (by omega); have o1 := rO3.cell (i := 1) (by omega); have o2 := rO3.cell (i := 2) (by omega); have fO := fun i => rO3.frozen i; have p0 := rR3.cell (i := 0) (by omega); have p1 := rR3.cell (i := 1) (by omega); have p2 := rR3.cell (i := 2) (by omega); have fR := fun i => rR3.frozen i; have o0' : w3.cell? ⟨w.heap.size + 1 + 1, 0, none⟩ = some (.int .i64 b.now) := o0; have o1' : w3.cell? ⟨w.heap.size + 1 + 1, 1, none⟩ = some (.slice (some ⟨w.heap.size + 3, 0, none⟩) b.fl.length b.fl.length) := o1; clear o0 o1; go_wp2
 have hml : m.length = b.hl.length := hM.1; refine bpr (v := Bk.val ⟨b.now, some ⟨w.heap.size + 3, 0, none⟩, b.fl, b.fl.length, some ⟨w1.heap.size, 0, none⟩, m, b.hl.length⟩) (by simp [results, Tryz.results15, go_sem, p0, p1, p2, hml]) rfl ?_; refine ⟨⟨_, rfl, rfl, rfl, rfl, ?_, ⟨_, rfl, ?_⟩, hM.likes, ?_⟩, ?_⟩
 · exact bI.xs ((((hr4.setOther (by simp) _).setOther (by simp) _).setOther (by simp) _).setOther (by simp) _) Fx.cells_length (nlq _) (nlq _)
 · exact bI.xs' ((((hr3.setOther (by simp; omega) _).setOther (by simp; omega) _).setOther (by simp; omega) _).setOther (by simp; omega) _) Hx.cells_length (by show m.length <= _; omega) (by show m.length <= _; omega)
 · exact j6.inn ((((hM.other (by omega) _ _).other (by omega) _ _).other (by omega) _ _).other (by omega) _ _)
 · exact (((hB3.setCell (by simp; omega) _).setCell (by simp) _).setCell (by simp) _).setCell (by simp) _
end Go.Proofs.YtiojdbffjdoniaaGreatDoor
