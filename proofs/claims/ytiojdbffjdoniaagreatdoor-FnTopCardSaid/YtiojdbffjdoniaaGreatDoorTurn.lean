import Derived.Shelf.RegionOpen
import Derived.Test.YtiojdbffjdoniaaGreatDoorBook2
import Derived.Test.YtiojdbffjdoniaaGreatDoorKeep
namespace Go.Proofs.YtiojdbffjdoniaaGreatDoor
set_option maxRecDepth 100000
set_option maxHeartbeats 4000000
open Go.RowKit Go.Shelf
attribute [local go_sem] Oper.semAt_some
theorem DV (h : Hx) (w : World) :
 Calls Tryz.prog 138 #[h.val] w fun e w' => e = .returned (.slice h.ta h.tl.length h.tc) /\ Below w.heap.size w w' := by
 go_enter Tryz.func138, Tryz.ntmps138
 go_wp2
 go_ret;exact ⟨rfl, (br _ _).alloc (nlq _) _⟩
theorem D3 (h : Hx) (w : World) :
 Calls Tryz.prog 139 #[h.val] w fun e w' => e = .returned (.slice h.na h.nl.length h.nc) /\ Below w.heap.size w w' := by
 go_enter Tryz.func139, Tryz.ntmps139
 go_wp2
 go_ret;exact ⟨rfl, (br _ _).alloc (nlq _) _⟩
def Hx.pa (h : Hx) (s : Bool) : Option Addr := if s then h.na else h.ta
def Hx.pl (h : Hx) (s : Bool) : List Bx := if s then h.nl else h.tl
def Hx.pc (h : Hx) (s : Bool) : Nat := if s then h.nc else h.tc
abbrev Hx.part (h : Hx) (s : Bool) : Value := .slice (h.pa s) (h.pl s).length (h.pc s)
abbrev HP (w : World) := { x : Hx × Bool // x.1.In w /\ x.1.Fit }
def DQ : Hx := ⟨ByteArray.empty, none, [], 0, none, [], 0⟩
theorem FX {w : World} {l : List Hx} (h : ∀ x ∈ l, x.In w /\ x.Fit) (j : Nat) : (dJ l j).In w /\ (dJ l j).Fit := by
 by_cases hj : j < l.length
 · rw [bX l j hj];exact h _ (lgm hj)
 · have e : dJ l j = DQ := by simp [dJ, DQ, Nat.le_of_not_lt hj]
   rw [e];exact ⟨⟨Or.inl rfl, Or.inl rfl⟩, ⟨nz _, nz _, nz _⟩⟩
def cS {w : World} (l : List Hx) (h : ∀ x ∈ l, x.In w /\ x.Fit) (m : Nat) : HP w := ⟨(dJ l (m / 2), decide (m % 2 = 1)), FX h (m / 2)⟩
theorem yM {w w' : World} {bl o B : Nat} {c : List Value} (h : aM w bl o c) (hb : Below B w w') (hl : bl < B) : aM w' bl o c := fun j v hj => (hb.cell (p := ⟨bl, o + j, none⟩) hl).trans (h j v hj)
theorem eQ {W W' : World} (h : Below W.heap.size W W') : W.grownBy W' none := ⟨h.os, h.tape, h.output, h.size, fun k hk _ => h.block k hk⟩
structure mC (B : Nat) (A A' : World) : Prop where
 b : Below B A A'
 c : ∀ (k : Nat) (o : Obj), A.heap[k]? = some o -> o.isCells = true -> A'.heap[k]? = some o
theorem mC.trans {B : Nat} {X Y Z : World} (h : mC B X Y) (g : mC B Y Z) : mC B X Z := ⟨h.b.trans g.b, fun k o hk ho => g.c k o (h.c k o hk ho) ho⟩
theorem mC.of_below {B : Nat} {X Y : World} (h : Below X.heap.size X Y) (hB : B <= X.heap.size) : mC B X Y := ⟨h.mono hB, fun k _ hk _ => (h.block k (bP hk)).trans hk⟩
abbrev Hx.obj (h : Hx) : Obj := .cells #[.string h.n, .slice h.ta h.tl.length h.tc, .slice h.na h.nl.length h.nc] 42
theorem bW {w : World} {z j : Nat} {cs : Array Value} {t : TypeId} {v : Value} (h : w.heap[z]? = some (.cells cs t)) (hj : cs[j]? = some v) : w.cell? ⟨z, j, none⟩ = some v := by simp [World.cell?, h, hj]
theorem qT {w : World} {l : List Hx} (h : ∀ x ∈ l, x.In w /\ x.Fit) (k : Nat) : (cS l h (k * 2 + 0)).1 = (dJ l k, false) := by
 simp only [cS, Nat.add_zero, Nat.mul_div_cancel k (by decide : 0 < 2), Nat.mul_mod_left];rfl
theorem qY {w : World} {l : List Hx} (h : ∀ x ∈ l, x.In w /\ x.Fit) (k : Nat) : (cS l h (k * 2 + 1)).1 = (dJ l k, true) := by
 simp only [cS, show (k * 2 + 1) / 2 = k by omega, show (k * 2 + 1) % 2 = 1 by omega];rfl
theorem zK {X : Nat -> Prop} {w w' : World} {bl o : Nat} {c : List Value} (h : aM w bl o c) (hk : aU X w w') (hx : ¬ X bl) : aM w' bl o c := fun j v hj => hk.cell (p := ⟨bl, o + j, none⟩) hx (h j v hj)
theorem LO (w0 : World) (n : Nat) (lp Bh Bp G n₀ cap : Nat) (X : Nat -> Prop) (hX0 : ∀ k, X k -> k < n₀) (ao : Option Addr) (l : List Hx) (hgood : ∀ x ∈ l, x.In w0 /\ x.Fit) (hlen : l.length <= 1048576) (hBp : ¬ X Bp) (hG : ¬ X G)
 (J Jx : List (HP w0) -> World -> Prop) (W : World) (hn₀ : n₀ <= W.heap.size) (hJa : AbidesFrom W.heap.size J)
 (hY : ∀ pre (x : HP w0) W, J pre W -> pre.length < l.length * 2 -> YieldAt Fence.wide (n - 1) Tryz.prog lp #[x.1.1.val, x.1.1.part x.1.2] W fun e W' =>
  (e = .returned (.bool true) /\ J (pre ++ [x]) W' /\ aU X W W') ∨ (e = .returned (.bool false) /\ Jx (pre ++ [x]) W'))
 (hBhc : W.cell? ⟨Bh, 0, none⟩ = some (.slice ao l.length cap)) (hBpc : W.cell? ⟨Bp, 0, none⟩ = some (.slice (some ⟨G, 0, none⟩) 2 2))
 (hg0 : W.cell? ⟨G, 0, none⟩ = some (.func (.func 138) #[] #[])) (hg1 : W.cell? ⟨G, 1, none⟩ = some (.func (.func 139) #[] #[]))
 (hX : l = [] ∨ ∃ bl off, ao = some ⟨bl, off, none⟩ /\ ¬ X bl /\ ∀ j (h : j < l.length), aM W bl (off + j * 3) l[j].cells) (h0 : J [] W) :
 CallsIn Fence.wide n Tryz.prog 168 #[.func (.yield lp) #[] #[], .pointer (some ⟨Bh, 0, none⟩), .pointer (some ⟨Bp, 0, none⟩)] W fun e W' => (∃ v, e = .returned v) /\
  ((∃ ys, ys = bM (cS l hgood) (l.length * 2) /\ J ys W') ∨ (∃ pre, (∃ k, k <= l.length * 2 /\ pre = bM (cS l hgood) k) /\ Jx pre W')) := by
 refine callsIn_of_wp Tryz.func168 rfl trivial ?_ rfl;simp only [Tryz.ntmps168, lsz, llc, lln, Nat.reduceAdd, Nat.reduceSub, ars, arz, lpt, lap, lna, lca];gi_wp2
 gi_loopw [10] (fun i wr => ∃ k : Nat, k <= l.length /\ i = .int .i64 k /\ J (bM (cS l hgood) (k * 2)) wr /\ aU X W wr) (fun i _ => l.length - (intOf i).toNat)
 case atStart => exact ⟨0, nz _, rfl, h0, aU.refl _ _⟩
 case round =>
  obtain ⟨k, hk, rfl, hJs, hnx⟩ := hrel
  by_cases hlt : k < l.length
  · obtain ⟨bl, off, rfl, hb, hc⟩ := hX.resolve_left (fun e => by rw [e] at hlt;simp at hlt)
    have hcb := hnx.cell (p := ⟨Bp, 0, none⟩) hBp hBpc;have hcx := zK (hc k hlt) hnx hb;obtain ⟨h, hbe⟩ : ∃ h, h = dJ l k := ⟨_, rfl⟩;rw [← bX l k hlt, ← hbe] at hcx;have HB : Hid (h = dJ l k) := hbe;clear hbe;obtain ⟨c0, c1, c2⟩ := eC hcx;clear hcx;have hz : Bp < wr.heap.size := aA hcb;have hgr : n₀ <= wr.heap.size := Nat.le_trans hn₀ hnx.size;have hnew : (wr.alloc h.obj).heap[wr.heap.size]? = some h.obj := wnq wr _;have hJn : J (bM (cS l hgood) (k * 2)) (wr.alloc h.obj) := hJa _ _ _ none hJs (eQ ((br _ _).alloc (nlq _) _)) (fun r e => by cases e);have hBn : aU X W (wr.alloc h.obj) := hnx.trans (aU.of_below ((br _ _).alloc (nlq _) _));gi_wp2;obtain ⟨z, hze⟩ : ∃ z, z = wr.heap.size := ⟨_, rfl⟩;have hzX : ¬ X z := fun e => by have := hX0 _ e;omega
    rw [← hze] at hnew ⊢;clear hcb c0 c1 c2 hz hJs hnx hze
    gi_loopw [16] (fun i wr' => ∃ s : Nat, s <= 2 /\ i = .int .i64 s /\ J (bM (cS l hgood) (k * 2 + s)) wr' /\ aU X W wr' /\ wr'.heap[z]? = some h.obj) (fun i _ => 2 - (intOf i).toNat)
    case atStart => exact ⟨0, by omega, rfl, hJn, hBn, hnew⟩
    case round =>
     clear hnew hJn hBn hgr;obtain ⟨s, hs, rfl, hJ2, hnx2, hzo⟩ := hrel;have hcb2 := hnx2.cell (p := ⟨Bp, 0, none⟩) hBp hBpc;have hk0 := hnx2.cell (p := ⟨G, 0, none⟩) hG hg0;have hk1 := hnx2.cell (p := ⟨G, 1, none⟩) hG hg1;have e0 : wr.cell? ⟨z, 0, none⟩ = some (.string h.n) := bW hzo rfl;have e1 : wr.cell? ⟨z, 1, none⟩ = some (.slice h.ta h.tl.length h.tc) := bW hzo rfl;have e2 : wr.cell? ⟨z, 2, none⟩ = some (.slice h.na h.nl.length h.nc) := bW hzo rfl
     rcases (by omega : s = 0 ∨ s = 1 ∨ s = 2) with rfl | rfl | rfl
     · gi_wp2_with fail
       refine jW 5 (by kernel_rfl) (by kernel_rfl) ?_;have HA : Nonempty (bO wr) := ⟨⟨wr, br _ _⟩⟩;have f0 := fun s : bO wr => bO.cell e0 s;have f1 := fun s : bO wr => bO.cell e1 s;have f2 := fun s : bO wr => bO.cell e2 s;clear e0 e1 e2 hcb2 hk0 hk1;simp only [lts, List.take_zero, lds, List.drop_zero]
       repeat (go_big_quiet_step ((go_at_call 138;exact bO.call _ (DV h _))))
       refine wpQuiet_nil ?_;rintro _ ⟨st, rfl⟩;have hxe : (cS l hgood (k * 2 + 0)).1 = (h, false) := by rw [HB.out];exact qT hgood k
       have hJd : J (bM (cS l hgood) (k * 2 + 0)) st.w := hJa _ _ _ none hJ2 (eQ st.h) (fun r e => by cases e);obtain ⟨fn, tmps, assign, body, hy, hR⟩ := hY _ (cS l hgood (k * 2 + 0)) st.w hJd (by rw [c9];omega);rw [hxe] at hy;have HR := hR;have hzn : st.w.heap[z]? = some h.obj := (st.h.block z (bP hzo)).trans hzo;have hBt : aU X W st.w := hnx2.trans (aU.of_below st.h);clear hR hY hJd f0 f1 f2;simp only [Hx.part, Hx.pa, Hx.pl, Hx.pc, Hx.val, Bool.false_eq_true, if_false] at hy;gi_wp2_with fail
       refine ⟨fun h => (by cases h), ?_⟩;refine RoundIn.mono HR ?_;rintro e W3 (⟨rfl, hJ3, hk3⟩ | ⟨rfl, hJx3⟩)
       · clear HR hy
         gi_wp2;refine ⟨⟨0 + 1, by omega, rfl, ?_, hBt.trans hk3, hk3.c z _ hzX hzn rfl⟩, by simp [intOf]⟩;have hu := cX (cS l hgood) (k * 2 + 0);rw [show k * 2 + (0 + 1) = k * 2 + 0 + 1 by omega, hu];exact hJ3
       · clear HR hy
         gi_wp2;refine bpr (results_none rfl _ _ _) rfl ?_;exact ⟨⟨_, rfl⟩, .inr ⟨_, ⟨k * 2 + 0 + 1, by omega, (cX _ _).symm⟩, hJx3⟩⟩
     · gi_wp2_with fail
       refine jW 5 (by kernel_rfl) (by kernel_rfl) ?_;have HA : Nonempty (bO wr) := ⟨⟨wr, br _ _⟩⟩;have f0 := fun s : bO wr => bO.cell e0 s;have f1 := fun s : bO wr => bO.cell e1 s;have f2 := fun s : bO wr => bO.cell e2 s;clear e0 e1 e2 hcb2 hk0 hk1;simp only [lts, List.take_zero, lds, List.drop_zero]
       repeat (go_big_quiet_step ((go_at_call 139;exact bO.call _ (D3 h _))))
       refine wpQuiet_nil ?_;rintro _ ⟨st, rfl⟩;have hxe : (cS l hgood (k * 2 + 1)).1 = (h, true) := by rw [HB.out];exact qY hgood k
       have hJd : J (bM (cS l hgood) (k * 2 + 1)) st.w := hJa _ _ _ none hJ2 (eQ st.h) (fun r e => by cases e);obtain ⟨fn, tmps, assign, body, hy, hR⟩ := hY _ (cS l hgood (k * 2 + 1)) st.w hJd (by rw [c9];omega);rw [hxe] at hy;have HR := hR;have hzn : st.w.heap[z]? = some h.obj := (st.h.block z (bP hzo)).trans hzo;have hBt : aU X W st.w := hnx2.trans (aU.of_below st.h);clear hR hY hJd f0 f1 f2;simp only [Hx.part, Hx.pa, Hx.pl, Hx.pc, Hx.val, if_true] at hy;gi_wp2_with fail
       refine ⟨fun h => (by cases h), ?_⟩;refine RoundIn.mono HR ?_;rintro e W3 (⟨rfl, hJ3, hk3⟩ | ⟨rfl, hJx3⟩)
       · clear HR hy
         gi_wp2;refine ⟨⟨1 + 1, by omega, rfl, ?_, hBt.trans hk3, hk3.c z _ hzX hzn rfl⟩, by simp [intOf]⟩;have hu := cX (cS l hgood) (k * 2 + 1);rw [show k * 2 + (1 + 1) = k * 2 + 1 + 1 by omega, hu];exact hJ3
       · clear HR hy
         gi_wp2;refine bpr (results_none rfl _ _ _) rfl ?_;exact ⟨⟨_, rfl⟩, .inr ⟨_, ⟨k * 2 + 1 + 1, by omega, (cX _ _).symm⟩, hJx3⟩⟩
     · clear e0 e1 e2 hk0 hk1 hcb2
       gi_wp2;refine ⟨⟨k + 1, by omega, by go_num, ?_, hnx2⟩, by simp [intOf];omega⟩;rw [show (k + 1) * 2 = k * 2 + 2 by omega];exact hJ2
  · have hke : k = l.length := by omega
    gi_wp2
    go_end0
    exact ⟨⟨_, rfl⟩, .inl ⟨_, rfl, by rw [← hke];exact hJs⟩⟩
theorem KB (n : Nat) (a b : Option Addr) (len cap k c : Nat) (w : World) :
 CallsIn Fence.wide n Tryz.prog 137 #[.slice a len cap, .slice b k c] w fun e w' => e = .returned (.func (.func 168) #[] #[.pointer (some ⟨w.heap.size, 0, none⟩), .pointer (some ⟨w.heap.size + 1, 0, none⟩)]) /\
  w' = (w.alloc (.cells #[.slice a len cap] 27)).alloc (.cells #[.slice b k c] 228) := by
 refine callsIn_of_wp Tryz.func137 rfl trivial ?_ rfl;simp only [Tryz.ntmps137, lsz, llc, lln, Nat.reduceAdd, Nat.reduceSub, ars, arz, lpt, lap, lna, lca];gi_wp2;go_ret;exact ⟨by simp, rfl⟩
theorem wS (n : Nat) (h1 : 1 <= n) (a : Option Addr) (len cap : Nat) (w : World) :
 CallsIn Fence.wide n Tryz.prog 91 #[.slice a len cap] w fun e w' => ∃ Bh Bp G, e = .returned (.func (.func 168) #[] #[.pointer (some ⟨Bh, 0, none⟩), .pointer (some ⟨Bp, 0, none⟩)]) /\ Below w.heap.size w w' /\
  w'.cell? ⟨Bh, 0, none⟩ = some (.slice a len cap) /\ w'.cell? ⟨Bp, 0, none⟩ = some (.slice (some ⟨G, 0, none⟩) 2 2) /\ w'.cell? ⟨G, 0, none⟩ = some (.func (.func 138) #[] #[]) /\ w'.cell? ⟨G, 1, none⟩ = some (.func (.func 139) #[] #[]) /\ w.heap.size <= Bp /\ w.heap.size <= G := by
 refine callsIn_of_wp Tryz.func91 rfl trivial ?_ rfl;simp only [Tryz.ntmps91, lsz, llc, lln, Nat.reduceAdd, Nat.reduceSub, ars, arz, lpt, lap, lna, lca];gi_wp2_with fail
 refine ⟨trivial, ?_⟩;refine (KB (n - 1) _ _ _ _ _ _ _).mono ?_;rintro e w' ⟨rfl, rfl⟩;have b1 := Boxed.new (w.alloc (.cells #[.func (.func 138) #[] #[], .func (.func 139) #[] #[]] 207)) 27 (.slice a len cap);have b2 := Boxed.new ((w.alloc (.cells #[.func (.func 138) #[] #[], .func (.func 139) #[] #[]] 207)).alloc (.cells #[.slice a len cap] 27)) 228 (.slice (some ⟨w.heap.size, 0, none⟩) 2 2);have b0 : (w.alloc (.cells #[.func (.func 138) #[] #[], .func (.func 139) #[] #[]] 207)).heap[w.heap.size]? = some (.cells #[.func (.func 138) #[] #[], .func (.func 139) #[] #[]] 207) := wnq w _
 have hB : Below w.heap.size w (((w.alloc (.cells #[.func (.func 138) #[] #[], .func (.func 139) #[] #[]] 207)).alloc (.cells #[.slice a len cap] 27)).alloc (.cells #[.slice (some ⟨w.heap.size, 0, none⟩) 2 2] 228)) :=
  (((br _ w).alloc (nlq _) _).alloc (by simp) _).alloc (by simp;omega) _
 have b1' := b1.alloc (.cells #[.slice (some ⟨w.heap.size, 0, none⟩) 2 2] 228);have b0' := (halq _ (.cells #[.slice (some ⟨w.heap.size, 0, none⟩) 2 2] 228) w.heap.size (by simp;omega)).trans ((halq _ (.cells #[.slice a len cap] 27) w.heap.size (by simp)).trans b0);simp only [wsa] at b1' b2;gi_wp2;go_ret;exact ⟨_, _, w.heap.size, rfl, hB, by simpa using b1'.cell, by simpa using b2.cell, bW b0' rfl, bW b0' rfl, by omega, nlq _⟩
theorem uH (n : Nat) (h1 : 1 <= n) (a : Option Addr) (len cap : Nat) (w : World) :
 CallsIn Fence.wide n Tryz.prog 91 #[.slice a len cap] w fun e w' => ∃ Bh Bp G, e = .returned (.func (.func 168) #[] #[.pointer (some ⟨Bh, 0, none⟩), .pointer (some ⟨Bp, 0, none⟩)]) /\ Below w.heap.size w w' /\
  w'.cell? ⟨Bh, 0, none⟩ = some (.slice a len cap) /\ w'.cell? ⟨Bp, 0, none⟩ = some (.slice (some ⟨G, 0, none⟩) 2 2) /\ w'.cell? ⟨G, 0, none⟩ = some (.func (.func 138) #[] #[]) /\ w'.cell? ⟨G, 1, none⟩ = some (.func (.func 139) #[] #[]) :=
 (wS n h1 a len cap w).mono (fun _ _ ⟨Bh, Bp, G, h1, h2, h3, h4, h5, h6, _⟩ => ⟨Bh, Bp, G, h1, h2, h3, h4, h5, h6⟩)
theorem zJ {B : Nat} {X Y Z : World} (h : mC B X Y) (g : mC B Y Z) : mC B X Z := h.trans g
theorem zH {B : Nat} {w : World} (hB : B <= w.heap.size) (W : World) (l : Nat) (o o' : Obj) (hl : w.heap.size <= l) (ho : W.heap[l]? = some o) (hc : o.isCells = false) (hw : o.isWalk = false) : mC B W (W.putObj l o') := by
 refine ⟨belowK_b hB W l o o' hl ho hc hw, fun k u hk hu => ?_⟩;have hne : k ≠ l := fun e => by subst e;rw [ho] at hk;cases hk;rw [hc] at hu;cases hu
 exact ((grownBy_putObj' W l o').block k (bP hk) (fun e => hne (Option.some.inj e))).trans hk
theorem IY {α : Type} {F : Fence} {n : Nat} {P : Program} {g : Nat} {lb : Array Value} {encs : α -> Array Value} {Kp Kq : World -> World -> Prop} {S Sp : List α -> Prop} {N : Nat} {w : World} (h : SeqStopsK F n P g lb encs Kp S Sp N w) (hk : ∀ A B, Kq A B -> Kp A B) : SeqStopsK F n P g lb encs Kq S Sp N w :=
 fun l J Jx W hW hJ hJx hY h0 => h l J Jx W hW hJ hJx (fun pre x W1 hj hl => (hY pre x W1 hj hl).mono (fun _ _ r => r.imp (fun a => ⟨a.1, a.2.1, hk _ _ a.2.2⟩) id)) h0
theorem pP (n : Nat) (Bh Bp G cap : Nat) (ao : Option Addr) (l : List Hx) (w0 : World) (hgood : ∀ x ∈ l, x.In w0 /\ x.Fit) (hlen : l.length <= 1048576) (w : World) (X : Nat -> Prop) (hX0 : ∀ k, X k -> k < w.heap.size) (hXp : ¬ X Bp) (hXg : ¬ X G) (hXl : ∀ p, ao = some p -> l ≠ [] -> ¬ X p.block)
 (hBh : w.cell? ⟨Bh, 0, none⟩ = some (.slice ao l.length cap)) (hBp : w.cell? ⟨Bp, 0, none⟩ = some (.slice (some ⟨G, 0, none⟩) 2 2)) (hg0 : w.cell? ⟨G, 0, none⟩ = some (.func (.func 138) #[] #[])) (hg1 : w.cell? ⟨G, 1, none⟩ = some (.func (.func 139) #[] #[]))
 (hX : Xs 3 Hx.cells w ao l) :
 SeqStopsK Fence.wide n Tryz.prog 168 #[.pointer (some ⟨Bh, 0, none⟩), .pointer (some ⟨Bp, 0, none⟩)] (fun x : HP w0 => #[x.1.1.val, x.1.1.part x.1.2]) (aU X) (fun ys => ys = bM (cS l hgood) (l.length * 2)) (fun pre => ∃ k, k <= l.length * 2 /\ pre = bM (cS l hgood) k) (l.length * 2) w := fun lp J Jx W hW hJ _ hY h0 => by
 refine LO w0 n lp Bh Bp G w.heap.size cap X hX0 ao l hgood hlen hXp hXg J Jx W hW.size hJ hY ((hW.cell (aA hBh)).trans hBh) ((hW.cell (aA hBp)).trans hBp) ((hW.cell (aA hg0)).trans hg0) ((hW.cell (aA hg1)).trans hg1) ?_ h0
 rcases l with _ | ⟨x, l⟩
 · exact .inl rfl
 · rcases hX with h | ⟨bl, off, e, hc⟩
   · cases h
   · have hb : bl < w.heap.size := aA (eC (hc 0 (by simp))).1
     exact .inr ⟨bl, off, e, hXl _ e (by simp), fun j h => yM (hc j h) hW hb⟩
theorem nH (n : Nat) (Bh Bp G cap : Nat) (ao : Option Addr) (l : List Hx) (w0 : World) (hgood : ∀ x ∈ l, x.In w0 /\ x.Fit) (hlen : l.length <= 1048576) (w : World)
 (hBh : w.cell? ⟨Bh, 0, none⟩ = some (.slice ao l.length cap)) (hBp : w.cell? ⟨Bp, 0, none⟩ = some (.slice (some ⟨G, 0, none⟩) 2 2)) (hg0 : w.cell? ⟨G, 0, none⟩ = some (.func (.func 138) #[] #[])) (hg1 : w.cell? ⟨G, 1, none⟩ = some (.func (.func 139) #[] #[]))
 (hX : Xs 3 Hx.cells w ao l) :
 SeqStopsK Fence.wide n Tryz.prog 168 #[.pointer (some ⟨Bh, 0, none⟩), .pointer (some ⟨Bp, 0, none⟩)] (fun x : HP w0 => #[x.1.1.val, x.1.1.part x.1.2]) (mC w.heap.size) (fun ys => ys = bM (cS l hgood) (l.length * 2)) (fun pre => ∃ k, k <= l.length * 2 /\ pre = bM (cS l hgood) k) (l.length * 2) w :=
 IY (pP n Bh Bp G cap ao l w0 hgood hlen w (fun _ => False) (fun _ h => h.elim) id id (fun _ _ _ => id) hBh hBp hg0 hg1 hX) (fun _ _ h => ⟨h.b.size, fun k o _ hk ho => h.c k o hk ho⟩)
end Go.Proofs.YtiojdbffjdoniaaGreatDoor
namespace Go.Proofs.YtiojdbffjdoniaaGreatDoor
set_option maxRecDepth 100000
open Go.RowKit
theorem Tryz.info42 : (Tryz.prog.info? 42).map (fun i => (i.zero, i.size, i.bytes)) = some (some (.agg #[.string ByteArray.empty, .slice none 0 0, .slice none 0 0]), 3, 64) := by kernel_rfl
theorem aL.fit {l m : List Hx} (h : aL l m) (hf : ∀ x ∈ l, x.Fit) : ∀ x ∈ m, x.Fit := fun x hx => by
 obtain ⟨k, hk, rfl⟩ := lgo hx;have hkl : k < l.length := by rw [← h.len];exact hk
 have g := hf l[k] (lgm hkl);have e := h.like k hkl;exact ⟨by rw [← e.t];exact g.tn, by rw [← e.x];exact g.nn, by rw [← e.n];exact g.sn⟩
theorem fE.setOther {α : Type} {t sz : Nat} {c : α -> List Value} {w : World} {bl n k : Nat} {l : List α} (h : fE t sz c w bl n l k) {a : Addr} (ha : bl ≠ a.block) (v : Value) : fE t sz c (w.setCell a v) bl n l k := by
 obtain ⟨f, hrow, hf⟩ := h;exact ⟨f, hrow.setOther ha v, hf⟩
theorem fE.xs' {α : Type} {t sz : Nat} {c : α -> List Value} {w : World} {bl n k : Nat} {l : List α} (h : fE t sz c w bl n l k) (hc : ∀ a, (c a).length = sz) (hk : l.length <= k) (hn : l.length <= n) : ∀ i (h : i < l.length), aM w bl (0 + i * sz) (c l[i]) := by
 obtain ⟨f, hrow, hf⟩ := h;intro i hi j v hj
 have hjs : j < sz := by
  rw [← hc l[i]];exact (lgs.1 hj).1
 rw [Nat.zero_add, hrow.cell (zE sz (by omega) hjs), hf i hi (by omega) j v hj]
structure PW (w : World) (b b' : Bk) : Prop where
 now : b'.now = b.now
 fl : b'.fl = b.fl
 fc : b'.fc = b.fl.length
 fs : Xs 3 Fx.cells w b'.fa b'.fl
 hs : ∃ q, b'.ha = some ⟨q, 0, none⟩ /\ ∀ i (h : i < b'.hl.length), aM w q (0 + i * 3) b'.hl[i].cells
 likes : aL b.hl b'.hl
 inn : ∀ h ∈ b'.hl, h.In w
set_option maxHeartbeats 1000000
theorem J7 (fl : List Fx) (l : List Bx) (af ao : Option Addr) (cf cap : Nat) (w : World) (hfl : Xs 3 Fx.cells w af fl) (hl : iH w ao l) (hnf : fl.length <= 1048576) (hn : l.length <= 1048576) (hl1 : 1 <= l.length) :
 Calls Tryz.prog 174 #[.slice af fl.length cf, .slice ao l.length cap] w fun e w' => e = .returned (.bool (iT fl l)) /\ Below w.heap.size w w' := by
 rcases hl with h | ⟨bl, off, rfl, hc⟩
 · subst h;simp at hl1
 have hbx := hc (l.length - 1) (by omega);obtain ⟨b, hbe⟩ : ∃ b, b = l[l.length - 1]'(by omega) := ⟨_, rfl⟩;rw [← hbe] at hbx;have hV := wO fl l (by omega) b hbe;obtain ⟨V, hv⟩ : ∃ V, V = iT fl l := ⟨_, rfl⟩;rw [← hv] at hV ⊢;have HV : Hid (V = (decide (b.lo = 0) && qV fl b.x b.y)) := hV;clear hbe hc hV hv;have hq : (1 : Int) <= (l.length : Int) := by omega
 obtain ⟨c0, c1, c2, c3, c4, c5⟩ := hbx
 by_cases hz : b.lo = 0
 · have ez : (b.lo == 0) = true := by simp [hz]
   have HZ : Hid (b.lo = 0) := hz;clear hz
   go_enter Tryz.func174, Tryz.ntmps174
   go_wp2_with (go_at_call 135;refine (k8 fl _ _ _ _ _ (hfl.zL (aB (br _ _) _)) hnf).mono ?_;rintro e w1 ⟨rfl, hb1⟩)
   go_ret;exact ⟨aC (by rw [HV.out, decide_eq_true HZ.out];rfl), aD (aB (br _ _) _) hb1⟩
 · have ez : (b.lo == 0) = false := by simp [hz]
   have HZ : Hid (¬ b.lo = 0) := hz;clear hz
   go_enter Tryz.func174, Tryz.ntmps174
   go_wp2
   go_ret;exact ⟨aC (by rw [HV.out, decide_eq_false HZ.out];rfl), aB (br _ _) _⟩
theorem wA (fl : List Fx) (l : List Bx) (af ao : Option Addr) (cf cap B : Nat) (w : World) (hcell : w.cell? ⟨B, 0, none⟩ = some (.slice af fl.length cf)) (hfl : Xs 3 Fx.cells w af fl) (hl : iH w ao l) (hnf : fl.length <= 1048576) (hn : l.length <= 1048576) (hl1 : 1 <= l.length) :
 Calls Tryz.prog 173 #[.slice ao l.length cap, .pointer (some ⟨B, 0, none⟩)] w fun e w' => e = .returned (.bool (iT fl l)) /\ Below w.heap.size w w' := by
 go_enter Tryz.func173, Tryz.ntmps173
 go_wp2_with (go_at_call 174;refine (J7 fl l _ _ _ _ _ hfl hl hnf hn hl1).mono ?_;rintro e w1 ⟨rfl, hb1⟩)
 go_ret;exact ⟨rfl, hb1⟩
set_option maxHeartbeats 2000000
def GP (fl : List Fx) (l : List Bx) (k : Nat) : Prop := (0 < k -> kT l.length = true) /\ (1 < k -> l.all aF = true) /\ (2 < k -> dG l = true) /\ (3 < k -> iT fl l = true)
theorem BN {n : Nat} (h : kT n = true) : 1 <= n := by simp only [kT, dte] at h;omega
theorem wG {fl : List Fx} {l : List Bx} (h : iT fl l = false) : aK fl l = false := by rw [aK, h];simp
theorem xZ (fl : List Fx) (l : List Bx) (af ao : Option Addr) (cf cap G B : Nat) (w : World) (hfl : Xs 3 Fx.cells w af fl) (hl : iH w ao l) (hnf : fl.length <= 1048576) (hn : l.length <= 1048576)
 (g0 : w.cell? ⟨G, 0, none⟩ = some (.func (.func 170) #[] #[])) (g1 : w.cell? ⟨G, 1, none⟩ = some (.func (.func 171) #[] #[])) (g2 : w.cell? ⟨G, 2, none⟩ = some (.func (.func 172) #[] #[]))
 (g3 : w.cell? ⟨G, 3, none⟩ = some (.func (.func 173) #[] #[.pointer (some ⟨B, 0, none⟩)])) (hB : w.cell? ⟨B, 0, none⟩ = some (.slice af fl.length cf)) :
 Calls Tryz.prog 169 #[.slice ao l.length cap, .slice (some ⟨G, 0, none⟩) 4 4] w fun e w' => e = .returned (.bool (aK fl l)) /\ Below w.heap.size w w' := by
 obtain ⟨V, hV⟩ : ∃ V, V = aK fl l := ⟨_, rfl⟩;rw [← hV];have HV : Hid (V = aK fl l) := hV;clear hV;have HBc : Hid (w.cell? ⟨B, 0, none⟩ = some (.slice af fl.length cf)) := hB;clear hB
 go_enter Tryz.func169, Tryz.ntmps169
 go_wp2
 go_loopw [9] (fun i wr => ∃ k : Nat, k <= 4 /\ i = .int .i64 k /\ Below w.heap.size w wr /\ Hid (GP fl l k)) (fun i _ => 4 - (intOf i).toNat)
 case atStart => exact ⟨0, by omega, rfl, br _ _, by simp [Hid, GP]⟩
 case round =>
  obtain ⟨k, hk, rfl, hN, hno⟩ := hrel;have hcases : k = 0 ∨ k = 1 ∨ k = 2 ∨ k = 3 ∨ k = 4 := by omega
  rcases hcases with h0 | h1 | h2 | h3 | h4
  · subst h0
    have gk := (hN.cell (p := ⟨G, 0, none⟩) (aA g0)).trans g0;clear g0 g1 g2 g3
    go_wp2_with (go_at_call 170;refine (yB l.length cap ao _ hn).mono ?_;rintro e wr ⟨rfl, rfl⟩)
    · have hv : kT l.length = false := nf (by assumption)
      go_ret;exact ⟨aC (by rw [HV.out];exact (sQ hv).symm), hN⟩
    · have hv : kT l.length = true := nt (by assumption)
      go_roundw
      case rel => exact ⟨1, by omega, by go_num, hN, ⟨fun _ => hv, fun h => absurd h (by omega), fun h => absurd h (by omega), fun h => absurd h (by omega)⟩⟩
      case measure => simp [intOf]
  · subst h1
    have gk := (hN.cell (p := ⟨G, 1, none⟩) (aA g1)).trans g1;clear g0 g1 g2 g3
    go_wp2_with (go_at_call 171;refine (AN l ao cap _ (hl.zL hN) hn).mono ?_;rintro e w1 ⟨rfl, hb1⟩;have hN : Below w.heap.size w w1 := aY hN (nlq _) hb1)
    · have hv : l.all aF = false := nf (by assumption)
      go_ret;exact ⟨aC (by rw [HV.out];exact (sL hv).symm), hN⟩
    · have hv : l.all aF = true := nt (by assumption)
      go_roundw
      case rel => exact ⟨2, by omega, by go_num, hN, ⟨fun _ => hno.out.1 (by omega), fun _ => hv, fun h => absurd h (by omega), fun h => absurd h (by omega)⟩⟩
      case measure => simp [intOf]
  · subst h2
    have gk := (hN.cell (p := ⟨G, 2, none⟩) (aA g2)).trans g2;clear g0 g1 g2 g3
    go_wp2_with (go_at_call 172;refine (s4 ao cap l (hno.out.2.1 (by omega)) (BN (hno.out.1 (by omega))) hn _ (hl.zL hN)).mono ?_;rintro e w1 ⟨rfl, hb1⟩;have hN : Below w.heap.size w w1 := aY hN (nlq _) hb1)
    · have hv : dG l = false := nf (by assumption)
      go_ret;exact ⟨aC (by rw [HV.out];exact (rA hv).symm), hN⟩
    · have hv : dG l = true := nt (by assumption)
      go_roundw
      case rel => exact ⟨3, by omega, by go_num, hN, ⟨fun _ => hno.out.1 (by omega), fun _ => hno.out.2.1 (by omega), fun _ => hv, fun h => absurd h (by omega)⟩⟩
      case measure => simp [intOf]
  · subst h3
    have gk := (hN.cell (p := ⟨G, 3, none⟩) (aA g3)).trans g3;clear g0 g1 g2 g3
    go_wp2_with (go_at_call 173;refine (wA fl l af ao cf cap B _ ((hN.cell (p := ⟨B, 0, none⟩) (aA HBc.out)).trans HBc.out) (hfl.zL hN) (hl.zL hN) hnf hn (BN (hno.out.1 (by omega)))).mono ?_;rintro e w1 ⟨rfl, hb1⟩;have hN : Below w.heap.size w w1 := aY hN (nlq _) hb1)
    · have hv : iT fl l = false := nf (by assumption)
      go_ret;exact ⟨aC (by rw [HV.out];exact (wG hv).symm), hN⟩
    · have hv : iT fl l = true := nt (by assumption)
      go_roundw
      case rel => exact ⟨4, by omega, by go_num, hN, ⟨fun _ => hno.out.1 (by omega), fun _ => hno.out.2.1 (by omega), fun _ => hno.out.2.2.1 (by omega), fun _ => hv⟩⟩
      case measure => simp [intOf]
  · subst h4
    clear g0 g1 g2 g3;go_wp2
    go_ret;obtain ⟨q0, q1, q2, q3⟩ := hno.out;exact ⟨aC (by rw [HV.out, uW (q0 (by omega)) (q1 (by omega)) (q2 (by omega)), q3 (by omega)]), hN⟩
theorem qD (fl : List Fx) (l : List Bx) (af ao : Option Addr) (cf cap : Nat) (w : World) (hfl : Xs 3 Fx.cells w af fl) (hl : iH w ao l) (hnf : fl.length <= 1048576) (hn : l.length <= 1048576) :
 Calls Tryz.prog 140 #[.slice af fl.length cf, .slice ao l.length cap] w fun e w' => e = .returned (.bool (aK fl l)) /\ Below w.heap.size w w' := by
 go_enter Tryz.func140, Tryz.ntmps140
 go_wp2_with fail
 refine (xZ fl l af ao cf cap (w.heap.size + 1) w.heap.size _ (hfl.zL (aB (aB (br _ _) _) _)) (hl.zL (aB (aB (br _ _) _) _)) hnf hn (by simp) (by simp) (by simp) (by simp) (by simp)).mono ?_;rintro e w1 ⟨rfl, hb1⟩;go_wp2_with fail
 go_ret;exact ⟨rfl, aD (aB (aB (br _ _) _) _) hb1⟩
end Go.Proofs.YtiojdbffjdoniaaGreatDoor
namespace Go.Proofs.YtiojdbffjdoniaaGreatDoor
set_option maxRecDepth 100000
set_option maxHeartbeats 4000000
open Go.RowKit Go.Shelf
attribute [local go_sem] Oper.semAt_some
def iK (fl : List Fx) (now : Int) (x : Hx × Bool) : Bool := !x.1.tl.isEmpty && ((x.1.pl x.2).isEmpty || (aK fl (x.1.pl x.2) && eE now (x.1.pl x.2)))
theorem HP.bxs {w W : World} (x : HP w) (hb : Below w.heap.size w W) : iH W (x.1.1.pa x.1.2) (x.1.1.pl x.1.2) := by
 obtain ⟨⟨h, s⟩, hi, hf⟩ := x
 cases s
 · exact (hi.zL hb).1
 · exact (hi.zL hb).2
theorem HP.len {w : World} (x : HP w) : (x.1.1.pl x.1.2).length <= 1048576 := by
 obtain ⟨⟨h, s⟩, hi, hf⟩ := x
 cases s
 · exact hf.tn
 · exact hf.nn
theorem EF (fl : List Fx) : aK fl [] = false := by simp [aK, kT]
theorem sU (fl : List Fx) (now : Int) (h : Hx) : bV fl now h = (iK fl now (h, false) && iK fl now (h, true)) := by
 rcases ht : h.tl with _ | ⟨t, ts⟩
 · simp [bV, iK, ht, EF]
 · simp only [bV, iK, Hx.pl, ht, List.isEmpty_cons, Bool.not_false, Bool.true_and, Bool.false_or, Bool.false_eq_true, if_true, if_false, Bool.and_assoc]
theorem DU {w : World} {fl : List Fx} {now : Int} {l : List Hx} {hg : ∀ x ∈ l, x.In w /\ x.Fit} (h : ∀ x ∈ bM (cS l hg) (l.length * 2), iK fl now x.1 = true) : l.all (bV fl now) = true := by
 refine lat.2 fun x hx => ?_;obtain ⟨k, hk, rfl⟩ := lgo hx;have h0 := h (cS l hg (k * 2 + 0)) (by simp only [bM, List.mem_map, List.mem_range];exact ⟨_, by omega, rfl⟩);have h1 := h (cS l hg (k * 2 + 1)) (by simp only [bM, List.mem_map, List.mem_range];exact ⟨_, by omega, rfl⟩);rw [qT, bX l k hk] at h0;rw [qY, bX l k hk] at h1;rw [sU, h0, h1];rfl
theorem ET {w : World} {fl : List Fx} {now : Int} {l : List Hx} {hg : ∀ x ∈ l, x.In w /\ x.Fit} {q : Nat} (hq : q <= l.length * 2) {x : HP w} (hx : x ∈ bM (cS l hg) q) (h : iK fl now x.1 = false) : l.all (bV fl now) = false := by
 simp only [bM, List.mem_map, List.mem_range] at hx;obtain ⟨i, hi, rfl⟩ := hx;have hk : i / 2 < l.length := by omega
 have : bV fl now l[i / 2] = false := by
  rw [sU]
  rcases (by omega : i % 2 = 0 ∨ i % 2 = 1) with e | e
  · rw [show i = i / 2 * 2 + 0 by omega, qT, bX l _ hk] at h
    rw [h];rfl
  · rw [show i = i / 2 * 2 + 1 by omega, qY, bX l _ hk] at h
    rw [h];simp
 refine Bool.eq_false_iff.2 fun hall => ?_;have := lat.1 hall _ (lgm hk)
 simp_all
theorem qS (b : Bk) (t : List Bx) (ta : Option Addr) (tc : Nat) (w : World) (hf : Xs 3 Fx.cells w b.fa b.fl) (hnf : b.fl.length <= 1048576) (ht : iH w ta t) (hn : t.length <= 1048576) :
 Calls Tryz.prog 92 #[b.val, .slice ta t.length tc] w fun e w' => e = .returned (.bool (aK b.fl t && eE b.now t)) /\ Below w.heap.size w w' := by
 have hB0 : Below w.heap.size w (w.alloc (.cells #[.int .i64 b.now, .slice b.fa b.fl.length b.fc, .slice b.ha b.hl.length b.hc] 29)) := aB (br _ _) _;have A0 := wnq w (.cells #[.int .i64 b.now, .slice b.fa b.fl.length b.fc, .slice b.ha b.hl.length b.hc] 29);obtain ⟨v, hv⟩ : ∃ v, aK b.fl t = v := ⟨_, rfl⟩;obtain ⟨v2, hv2⟩ : ∃ v, eE b.now t = v := ⟨_, rfl⟩;rw [hv, hv2];have HV : Hid _ := hv;have HV2 : Hid _ := hv2;clear hv hv2
 go_enter Tryz.func92, Tryz.ntmps92
 go_wp2_with fail
 refine (qD b.fl t _ _ _ _ _ (hf.zL hB0) (ht.zL hB0) hnf hn).mono ?_;rintro e w1 ⟨rfl, hb1⟩;rw [HV.out];have N1 := aD hB0 hb1;have A1 := (hb1.block _ (bP A0)).trans A0;have k0 : w1.cell? ⟨w.heap.size, 0, none⟩ = some (.int .i64 b.now) := bW A1 rfl
 cases v with
 | false =>
  go_wp2
  go_ret;exact ⟨rfl, N1⟩
 | true =>
  go_wp2_with fail
  refine (vG t _ _ b.now w1 (ht.zL N1) hn).mono ?_;rintro e w2 ⟨rfl, hb2⟩;rw [HV2.out];have N2 := aD N1 hb2;go_wp2
  go_ret;exact ⟨rfl, N2⟩
theorem LZ (n : Nat) (hn : 6 <= n) (b : Bk) (w : World) (hf : Xs 3 Fx.cells w b.fa b.fl) (hnf : b.fl.length <= 1048576) (hh : Xs 3 Hx.cells w b.ha b.hl) (hnh : b.hl.length <= 1048576) (hgood : ∀ h ∈ b.hl, h.In w /\ h.Fit) :
 CallsIn Fence.wide n Tryz.prog 40 #[b.val] w fun e W' => e = .returned (.bool (b.hl.all (bV b.fl b.now))) /\ Below w.heap.size w W' := by
 have h1 : 1 <= n := by omega
 refine callsIn_of_wp_marks Tryz.func40 rfl trivial ?_ rfl;simp only [Tryz.ntmps40, lsz, llc, lln, Nat.reduceAdd, Nat.reduceSub, ars, arz, lpt, lap, lna, lca];gi_wp2_with fail
 refine ⟨trivial, ?_⟩;refine (uH (n - 1) (by omega) _ _ _ _).mono ?_;rintro e W0 ⟨Bh, Bp, G, rfl, hb0, hBh, hBp, hg0, hg1⟩;gi_wp2_with fail
 have bK : ((w.alloc (.cells #[.int .i64 b.now, .slice b.fa b.fl.length b.fc, .slice b.ha b.hl.length b.hc] 29)).alloc (.cells #[.bool false] 4)).heap[w.heap.size]? = some (.cells #[.int .i64 b.now, .slice b.fa b.fl.length b.fc, .slice b.ha b.hl.length b.hc] 29) :=
  (halq _ (.cells #[.bool false] 4) w.heap.size (by simp)).trans (wnq w _)
 have bR := Boxed.new (w.alloc (.cells #[.int .i64 b.now, .slice b.fa b.fl.length b.fc, .slice b.ha b.hl.length b.hc] 29)) 4 (.bool false);have hBa : Below w.heap.size w ((w.alloc (.cells #[.int .i64 b.now, .slice b.fa b.fl.length b.fc, .slice b.ha b.hl.length b.hc] 29)).alloc (.cells #[.bool false] 4)) := ((br _ w).alloc (nlq _) _).alloc (by simp) _;have hsz : ((w.alloc (.cells #[.int .i64 b.now, .slice b.fa b.fl.length b.fc, .slice b.ha b.hl.length b.hc] 29)).alloc (.cells #[.bool false] 4)).heap.size = w.heap.size + 2 := by simp
 simp only [wsa] at bR;obtain ⟨Wa, hWa⟩ : ∃ Wa, (w.alloc (.cells #[.int .i64 b.now, .slice b.fa b.fl.length b.fc, .slice b.ha b.hl.length b.hc] 29)).alloc (.cells #[.bool false] 4) = Wa := ⟨_, rfl⟩;rw [hWa] at bK bR hBa hsz hb0;clear hWa;have hB0 : Below w.heap.size w W0 := aD hBa hb0;have hz0 : w.heap.size + 2 <= W0.heap.size := by have := hb0.size;omega
 have bK0 := (hb0.block w.heap.size (by omega)).trans bK;have bR0 : Boxed W0 (w.heap.size + 1) 4 (.bool false) := (hb0.block (w.heap.size + 1) (by omega)).trans bR;clear bK bR hBa hsz hb0
 refine wpIn_rangeFunc_ownH rfl h1 (gf := 168) (lb := #[.pointer (some ⟨Bh, 0, none⟩), .pointer (some ⟨Bp, 0, none⟩)]) rfl trivial (enters_of Tryz.func168 (by kernel_rfl) rfl)
  (nH (n - 1) Bh Bp G b.hc b.ha b.hl w hgood hnh W0 hBh hBp hg0 hg1 (hh.zL hB0)) zJ (zH (nlq _)) (br _ _) (fun _ => rfl)
  (fun pre W => (∀ x ∈ pre, iK b.fl b.now x.1 = true) /\ Below W0.heap.size W0 W)
  (fun c pre W => ((c = .ret /\ ∃ x ∈ pre, iK b.fl b.now x.1 = false) /\ Boxed W (w.heap.size + 1) 4 (.bool false)) /\ Below w.heap.size w W)
  (OwnFrom.and (ownFrom_pure _ _) (ownFrom_below (nlq _) (nlq _)))
  (fun c => OwnFrom.and (OwnFrom.and (ownFrom_pure _ _) (Own.from (boxed_own _ _ _) _)) (ownFrom_below (nlq _) (by omega)))
  ⟨by simp, br _ _⟩
  (fun x a' W => ∃ B1, aM W B1 0 x.1.1.cells /\ a' = { tmps := #[b.val, .pointer (some ⟨w.heap.size, 0, none⟩), .pointer (some ⟨w.heap.size + 1, 0, none⟩), .pointer (some ⟨B1, 0, none⟩), x.1.1.part x.1.2, .pointer (some ⟨w.heap.size, 2, none⟩), .slice b.ha b.hl.length b.hc,
   .func (.func 168) #[] #[.pointer (some ⟨Bh, 0, none⟩), .pointer (some ⟨Bp, 0, none⟩)], x.1.1.val, x.1.1.part x.1.2, undef, undef, undef, undef, undef, undef, undef, undef, undef, undef, undef, undef, undef], defers := [] })
  (fun x a' _ X Y row hs hg hr => by obtain ⟨B1, e1, e3⟩ := hs;exact ⟨B1, dE e1 hg (fun r e => (hr r e).2), e3⟩)
  ?assign ?body ?done ?stop
 case assign =>
  rintro lp pre x W K ⟨hp, hB1⟩ hK;gi_wp2
  exact hK _ _ ((KeepsOthers.alloc _ _).from _) (mC.of_below ((br _ W).alloc (nlq _) _) hB1.size) ⟨hp, hB1.alloc hB1.size _⟩
   ⟨W.heap.size, eN W _ 42 rfl _ _ _, rfl⟩
 case body =>
  rintro lp pre x a' W hl' ⟨r, hr⟩ ⟨hp, hB1⟩ ⟨B1, e1, rfl⟩ hlt';have bK1 := (hB1.block w.heap.size (by omega)).trans bK0;have bR1 : Boxed W (w.heap.size + 1) 4 (.bool false) := (hB1.block (w.heap.size + 1) (by omega)).trans bR0;have k0 : W.cell? ⟨w.heap.size, 0, none⟩ = some (.int .i64 b.now) := bW bK1 rfl;have k1 : W.cell? ⟨w.heap.size, 1, none⟩ = some (.slice b.fa b.fl.length b.fc) := bW bK1 rfl;have hBw : Below w.heap.size w W := hB0.trans (hB1.mono (by omega));have cR := bR1.cell;have fR := bR1.frozen;obtain ⟨c0, c1, c2⟩ := eC e1;rw [Nat.zero_add] at c1 c2;have h1' : 1 <= n - 1 - 1 := by omega
  have hbx := x.bxs hBw;have hbl := x.len;obtain ⟨V, hV⟩ : ∃ V, V = iK b.fl b.now x.1 := ⟨_, rfl⟩;have HV : Hid (V = iK b.fl b.now x.1) := hV;have hbad : V = false -> ∃ y ∈ pre ++ [x], iK b.fl b.now y.1 = false := fun e => ⟨x, lma.2 (.inr (by simp)), by rw [← hV, e]⟩;have hgoodp : V = true -> ∀ y ∈ pre ++ [x], iK b.fl b.now y.1 = true := fun e y hy => (lma.1 hy).elim (hp y) (fun e' => by simp at e';subst e';rw [← hV, e]);clear hV hp hh hgood hnh hBh hBp hg0 hg1 bK0 bR0 hlt'
  by_cases ht : x.1.1.tl.length = 0
  · have hVf : V = false := by rw [HV.out, iK, List.eq_nil_of_length_eq_zero ht];rfl
    have htz : ((x.1.1.tl.length : Int) == 0) = true := by simp [ht]
    gi_wp2;exact ⟨(KeepsOthers.setCell _ _ _).from _, ⟨⟨rfl, hbad hVf⟩, bR1.set _⟩, hBw.setCell (p := ⟨w.heap.size + 1, 0, none⟩) (by simp) _⟩
  · have htz : ((x.1.1.tl.length : Int) == 0) = false := by simp;exact fun e => ht (by simp [e])
    have htl : x.1.1.tl.isEmpty = false := by rcases e : x.1.1.tl with _ | ⟨u, us⟩ <;> simp_all
    by_cases hpz : 0 < (x.1.1.pl x.1.2).length
    · have hpe : (x.1.1.pl x.1.2).isEmpty = false := by rcases e : x.1.1.pl x.1.2 with _ | ⟨u, us⟩ <;> simp_all
      obtain ⟨v, hv⟩ : ∃ v, aK b.fl (x.1.1.pl x.1.2) = v := ⟨_, rfl⟩;obtain ⟨v2, hv2⟩ : ∃ v, eE b.now (x.1.1.pl x.1.2) = v := ⟨_, rfl⟩;have hVe : V = (v && v2) := by rw [HV.out, iK, htl, hpe, hv, hv2];simp
      have k2 : W.cell? ⟨w.heap.size, 2, none⟩ = some (.slice b.ha b.hl.length b.hc) := bW bK1 rfl;gi_wp2_with fail
      refine ⟨trivial, ?_⟩;refine (CallsIn.inRound lp (cw.2 (qS b _ _ _ W (hf.zL hBw) hnf hbx hbl))).mono ?_;rintro e w1 ⟨rfl, hb1⟩;rw [hv, hv2];have cR1 := (hb1.cell (p := ⟨w.heap.size + 1, 0, none⟩) (aA cR)).trans cR;have fR1 := (hb1.frozen (p := ⟨w.heap.size + 1, 0, none⟩) (aA cR)).trans fR;have bR2 : Boxed w1 (w.heap.size + 1) 4 (.bool false) := (hb1.block _ (aA cR)).trans bR1;have hBw1 : Below w.heap.size w w1 := hBw.trans (hb1.mono hBw.size);clear cR fR k0 k1 k2 c0 c1 c2 e1;obtain ⟨vv, hvv⟩ : ∃ vv, (v && v2) = vv := ⟨_, rfl⟩;rw [hvv] at hVe ⊢;clear hvv
      cases vv
      · gi_wp2
        exact ⟨((bE hb1).trans (KeepsOthers.setCell _ _ _)).from _, ⟨⟨rfl, hbad hVe⟩, bR2.set _⟩, hBw1.setCell (p := ⟨w.heap.size + 1, 0, none⟩) (by simp) _⟩
      · gi_wp2
        exact ⟨(bE hb1).from _, mC.of_below hb1 hB1.size, hgoodp hVe, hB1.trans (hb1.mono hB1.size)⟩
    · have hVt : V = true := by rw [HV.out, iK, htl, List.eq_nil_of_length_eq_zero (by omega : (x.1.1.pl x.1.2).length = 0)];rfl
      gi_wp2;refine ⟨trivial, ?_⟩;gi_wp2;exact ⟨(KeepsOthers.refl _).from _, mC.of_below (br _ _) hB1.size, hgoodp hVt, hB1⟩
 case done =>
  rintro D zs W hD rfl ⟨hp, hB1⟩ hK;have bR3 : Boxed W (w.heap.size + 1) 4 (.bool false) := (hB1.block _ (by omega)).trans bR0;have cR := bR3.cell;have fR := bR3.frozen;gi_wp2;have hK' := (KeepsOthers.setCell W ⟨w.heap.size + 1, 0, none⟩ (.bool true)).same D _ hK rfl;refine ⟨by simp, .inl ⟨_, _, rfl, run_takeDeferred hK', ?_⟩⟩;have hc5 := cell_kept (bR3.set (.bool true)).cell (grownBy_putObj' _ D (.deferred none)) (fun r e => by cases e;exact ⟨_, hK', rfl⟩);refine ⟨.bool true, ?_, by rw [DU hp], (((hB0.trans (hB1.mono (by omega))).setCell (p := ⟨w.heap.size + 1, 0, none⟩) (by simp) _).trans (belowK_b (w := w) (nlq _) _ D _ _ (by omega) hK' rfl rfl))⟩
  simp [results, Tryz.f40, go_sem, hc5]
 case stop =>
  rintro D c pre W hD ⟨q, hq, rfl⟩ ⟨⟨⟨rfl, x, hx, hy⟩, bR3⟩, hB1⟩ hK;gi_wp2;refine ⟨by simp, .inl ⟨_, _, rfl, run_takeDeferred hK, ?_⟩⟩;have hc5 := cell_kept bR3.cell (grownBy_putObj' _ D (.deferred none)) (fun r e => by cases e;exact ⟨_, hK, rfl⟩);refine ⟨.bool false, ?_, by rw [ET hq hx hy], hB1.trans (belowK_b (w := w) (nlq _) W D _ _ (by omega) hK rfl rfl)⟩
  simp [results, Tryz.f40, go_sem, hc5]
theorem I2 (b : Bk) (w : World) (hf : Xs 3 Fx.cells w b.fa b.fl) (hnf : b.fl.length <= 1048576) (hh : Xs 3 Hx.cells w b.ha b.hl) (hnh : b.hl.length <= 1048576) (hgood : ∀ h ∈ b.hl, h.In w /\ h.Fit) :
 Calls Tryz.prog 40 #[b.val] w fun e W' => e = .returned (.bool (b.hl.all (bV b.fl b.now))) /\ Below w.heap.size w W' := cw.1 (LZ 6 (by omega) b w hf hnf hh hnh hgood)
def mX (x y : Hx × Bool) : Bool := eU x.1.n y.1.n && bI (x.1.pl x.2) (y.1.pl y.2)
def j8 (l : List Hx) : Bool := l.all (fun a => l.all (fun b => !(eU a.n b.n && bF a b)))
abbrev fB {w : World} (l : List Hx) (hg : ∀ x ∈ l, x.In w /\ x.Fit) : List (HP w) := bM (cS l hg) (l.length * 2)
theorem lK {w : World} {l : List Hx} {hg : ∀ x ∈ l, x.In w /\ x.Fit} {x : HP w} : x ∈ fB l hg -> x.1.1 ∈ l := by
 intro hx;simp only [bM, List.mem_map, List.mem_range] at hx;obtain ⟨i, hi, rfl⟩ := hx;have hk : i / 2 < l.length := by omega
 show dJ l (i / 2) ∈ l
 rw [bX l _ hk];exact lgm hk
theorem tK {α : Type} {f : Nat -> α} {q n : Nat} (hq : q <= n) {x : α} (h : x ∈ bM f q) : x ∈ bM f n := by
 simp only [bM, List.mem_map, List.mem_range] at h ⊢;obtain ⟨i, hi, e⟩ := h;exact ⟨i, by omega, e⟩
theorem nM {w : World} {l : List Hx} (hg : ∀ x ∈ l, x.In w /\ x.Fit) {a : Hx} (ha : a ∈ l) (s : Bool) : ∃ x ∈ fB l hg, x.1 = (a, s) := by
 obtain ⟨k, hk, rfl⟩ := lgo ha
 cases s
 · exact ⟨cS l hg (k * 2 + 0), by simp only [bM, List.mem_map, List.mem_range];exact ⟨_, by omega, rfl⟩, by rw [qT, bX l k hk]⟩
 · exact ⟨cS l hg (k * 2 + 1), by simp only [bM, List.mem_map, List.mem_range];exact ⟨_, by omega, rfl⟩, by rw [qY, bX l k hk]⟩
theorem AC {w : World} {l : List Hx} {hg : ∀ x ∈ l, x.In w /\ x.Fit} (h : ∀ x ∈ fB l hg, ∀ y ∈ fB l hg, mX x.1 y.1 = false) : j8 l = true := by
 refine lat.2 fun a ha => lat.2 fun c hc => ?_
 have g : ∀ s t, (eU a.n c.n && bI (a.pl s) (c.pl t)) = false := fun s t => by
  obtain ⟨x, hx, ex⟩ := nM hg ha s;obtain ⟨y, hy, ey⟩ := nM hg hc t;have := h x hx y hy;rw [ex, ey] at this;exact this
 cases hl : eU a.n c.n
 · rfl
 · rw [hl] at g
   have g0 := g false false;have g1 := g false true;have g2 := g true false;have g3 := g true true;simp only [Hx.pl, Bool.true_and, Bool.false_eq_true, if_true, if_false] at g0 g1 g2 g3;simp only [bF, g0, g1, g2, g3];rfl
theorem AQ {w : World} {l : List Hx} {hg : ∀ x ∈ l, x.In w /\ x.Fit} {x y : HP w} (hx : x ∈ fB l hg) (hy : y ∈ fB l hg) (h : mX x.1 y.1 = true) : j8 l = false := by
 refine Bool.eq_false_iff.2 fun hall => ?_;have h1 := lat.1 (lat.1 hall _ (lK hx)) _ (lK hy);obtain ⟨⟨a, s⟩, ga⟩ := x;obtain ⟨⟨c, t⟩, gc⟩ := y;simp only [mX, bat] at h
 have h2 : bF a c = true := by
  have := h.2
  cases s <;> cases t <;> simp only [Hx.pl, Bool.false_eq_true, if_true, if_false] at this <;> simp [bF, this]
 simp only [h.1, h2] at h1
 cases h1
theorem xW (W : World) (g t : Nat) (hg : g = W.heap.size) (v0 : Value) : aM (W.alloc (.cells #[v0] t)) g 0 [v0] := by
 subst hg;intro j v hj
 match j, hj with
 | 0, hj => cases hj;simp
theorem KM (n : Nat) (hn : 8 <= n) (b : Bk) (w : World) (hh : Xs 3 Hx.cells w b.ha b.hl) (hnh : b.hl.length <= 1048576) (hgood : ∀ h ∈ b.hl, h.In w /\ h.Fit) :
 CallsIn Fence.wide n Tryz.prog 41 #[b.val] w fun e W' => e = .returned (.bool (j8 b.hl)) /\ Below w.heap.size w W' := by
 have h1 : 1 <= n := by omega
 refine callsIn_of_wp_marks Tryz.func41 rfl trivial ?_ rfl;simp only [Tryz.ntmps41, lsz, llc, lln, Nat.reduceAdd, Nat.reduceSub, ars, arz, lpt, lap, lna, lca];gi_wp2_with fail
 refine ⟨trivial, ?_⟩;refine (uH (n - 1) (by omega) _ _ _ _).mono ?_;rintro e W0 ⟨Bh, Bp, G, rfl, hb0, hBh, hBp, hg0, hg1⟩;gi_wp2_with fail
 have bK : ((w.alloc (.cells #[.int .i64 b.now, .slice b.fa b.fl.length b.fc, .slice b.ha b.hl.length b.hc] 29)).alloc (.cells #[.bool false] 4)).heap[w.heap.size]? = some (.cells #[.int .i64 b.now, .slice b.fa b.fl.length b.fc, .slice b.ha b.hl.length b.hc] 29) :=
  (halq _ (.cells #[.bool false] 4) w.heap.size (by simp)).trans (wnq w _)
 have bR := Boxed.new (w.alloc (.cells #[.int .i64 b.now, .slice b.fa b.fl.length b.fc, .slice b.ha b.hl.length b.hc] 29)) 4 (.bool false);have hBa : Below w.heap.size w ((w.alloc (.cells #[.int .i64 b.now, .slice b.fa b.fl.length b.fc, .slice b.ha b.hl.length b.hc] 29)).alloc (.cells #[.bool false] 4)) := ((br _ w).alloc (nlq _) _).alloc (by simp) _;have hsz : ((w.alloc (.cells #[.int .i64 b.now, .slice b.fa b.fl.length b.fc, .slice b.ha b.hl.length b.hc] 29)).alloc (.cells #[.bool false] 4)).heap.size = w.heap.size + 2 := by simp
 simp only [wsa] at bR;obtain ⟨Wa, hWa⟩ : ∃ Wa, (w.alloc (.cells #[.int .i64 b.now, .slice b.fa b.fl.length b.fc, .slice b.ha b.hl.length b.hc] 29)).alloc (.cells #[.bool false] 4) = Wa := ⟨_, rfl⟩;rw [hWa] at bK bR hBa hsz hb0;clear hWa;have hB0 : Below w.heap.size w W0 := aD hBa hb0;have hz0 : w.heap.size + 2 <= W0.heap.size := by have := hb0.size;omega
 have bK0 := (hb0.block w.heap.size (by omega)).trans bK;have bR0 : Boxed W0 (w.heap.size + 1) 4 (.bool false) := (hb0.block (w.heap.size + 1) (by omega)).trans bR;clear bK bR hBa hsz hb0
 refine wpIn_rangeFunc_ownH rfl h1 (gf := 168) (lb := #[.pointer (some ⟨Bh, 0, none⟩), .pointer (some ⟨Bp, 0, none⟩)]) rfl trivial (enters_of Tryz.func168 (by kernel_rfl) rfl)
  (nH (n - 1) Bh Bp G b.hc b.ha b.hl w hgood hnh W0 hBh hBp hg0 hg1 (hh.zL hB0)) zJ (zH (nlq _)) (br _ _) (fun _ => rfl)
  (fun pre W => (∀ x ∈ pre, ∀ y ∈ fB b.hl hgood, mX x.1 y.1 = false) /\ Below W0.heap.size W0 W)
  (fun c pre W => ((c = .ret /\ ∃ x ∈ pre, ∃ y ∈ fB b.hl hgood, mX x.1 y.1 = true) /\ Boxed W (w.heap.size + 1) 4 (.bool false)) /\ Below w.heap.size w W)
  (OwnFrom.and (ownFrom_pure _ _) (ownFrom_below (nlq _) (nlq _)))
  (fun c => OwnFrom.and (OwnFrom.and (ownFrom_pure _ _) (Own.from (boxed_own _ _ _) _)) (ownFrom_below (nlq _) (by omega)))
  ⟨by simp, br _ _⟩
  (fun x a' W => ∃ B1 B2, aM W B1 0 x.1.1.cells /\ aM W B2 0 [x.1.1.part x.1.2] /\ a' = { tmps := #[b.val, .pointer (some ⟨w.heap.size, 0, none⟩), .pointer (some ⟨w.heap.size + 1, 0, none⟩), .pointer (some ⟨B1, 0, none⟩), .pointer (some ⟨B2, 0, none⟩), undef, undef, .pointer (some ⟨w.heap.size, 2, none⟩), .slice b.ha b.hl.length b.hc, .func (.func 168) #[] #[.pointer (some ⟨Bh, 0, none⟩), .pointer (some ⟨Bp, 0, none⟩)], x.1.1.val, x.1.1.part x.1.2, undef, undef, undef, undef, undef, undef, undef, undef, undef, undef, undef, undef, undef, undef, undef], defers := [] })
  (fun x a' _ X Y row hs hg hr => by obtain ⟨B1, B2, e1, e2, e3⟩ := hs;exact ⟨B1, B2, dE e1 hg (fun r e => (hr r e).2), dE e2 hg (fun r e => (hr r e).2), e3⟩)
  ?assign ?body ?done ?stop
 case assign =>
  rintro lp pre x W K ⟨hp, hB1⟩ hK;gi_wp2;have hbb : Below W.heap.size W ((W.alloc x.1.1.obj).alloc (.cells #[x.1.1.part x.1.2] 34)) := ((br _ W).alloc (nlq _) _).alloc (by simp) _
  exact hK _ _ ((bE hbb).from _) (mC.of_below hbb hB1.size) ⟨hp, hB1.trans (hbb.mono hB1.size)⟩
   ⟨W.heap.size, W.heap.size + 1, (eN W _ 42 rfl _ _ _).zL ((br _ _).alloc (nlq _) _), xW _ _ 34 (by simp) _, rfl⟩
 case body =>
  rintro lp pre x a' W hl' ⟨r, hr⟩ ⟨hp, hB1⟩ ⟨B1, B2, e1, e2, rfl⟩ hlt';have bK1 := (hB1.block w.heap.size (by omega)).trans bK0;have k2 : W.cell? ⟨w.heap.size, 2, none⟩ = some (.slice b.ha b.hl.length b.hc) := bW bK1 rfl;have hBw : Below w.heap.size w W := hB0.trans (hB1.mono (by omega));have h1' : 1 <= n - 1 - 1 := by omega
  gi_wp2_with fail
  refine ⟨trivial, ?_⟩;refine (CallsIn.inRound lp (uH (n - 1 - 1 - 1) (by omega) _ _ _ _)).mono ?_;rintro e W1 ⟨Ch, Cp, H, rfl, hd0, hCh, hCp, hh0, hh1⟩;have hBw1 : Below w.heap.size w W1 := aD hBw hd0;have hr' : W1.heap[lp]? = some (.loop r) := (hd0.block lp (bP hr)).trans hr;have e1' := e1.zL hd0;have e2' := e2.zL hd0;have bR1 : Boxed W1 (w.heap.size + 1) 4 (.bool false) := (hd0.block (w.heap.size + 1) (by have := hB1.size;omega)).trans ((hB1.block (w.heap.size + 1) (by omega)).trans bR0);have hsW := hd0.size;have hsW0 := hB1.size;clear e1 e2 k2 bK1;gi_wp2_with fail
  refine wpIn_rangeFunc_ownN (l₀ := lp) (r₀ := r) rfl hr' h1' (gf := 168) (lb := #[.pointer (some ⟨Ch, 0, none⟩), .pointer (some ⟨Cp, 0, none⟩)]) rfl trivial (enters_of Tryz.func168 (by kernel_rfl) rfl)
   ((nH (n - 1 - 1 - 1) Ch Cp H b.hc b.ha b.hl w hgood hnh W1 hCh hCp hh0 hh1 (hh.zL hBw1)).inRound lp) zJ (zH (nlq _)) (br _ _) (fun _ => rfl)
   (fun pre' W' => (∀ y ∈ pre', mX x.1 y.1 = false) /\ Below W1.heap.size W1 W')
   (fun c pre' W' => ((c = .ret /\ ∃ y ∈ pre', mX x.1 y.1 = true) /\ Boxed W' (w.heap.size + 1) 4 (.bool false)) /\ (Below w.heap.size w W' /\ KeepsFrom W0.heap.size W W'))
   (OwnFrom.and (ownFrom_pure _ _) (ownFrom_below (nlq _) (nlq _)))
   (fun c => OwnFrom.and (OwnFrom.and (ownFrom_pure _ _) (Own.from (boxed_own _ _ _) _)) (OwnFrom.and (ownFrom_below (nlq _) (by have := hBw1.size;omega)) (ownFrom_keepsFrom hsW)))
   ⟨by simp, br _ _⟩
   (fun y a'' W' => ∃ B3, aM W' B3 0 y.1.1.cells /\ a'' = { tmps := #[b.val, .pointer (some ⟨w.heap.size, 0, none⟩), .pointer (some ⟨w.heap.size + 1, 0, none⟩), .pointer (some ⟨B1, 0, none⟩), .pointer (some ⟨B2, 0, none⟩), .pointer (some ⟨B3, 0, none⟩), y.1.1.part y.1.2, .pointer (some ⟨w.heap.size, 2, none⟩), .slice b.ha b.hl.length b.hc, .func (.func 168) #[] #[.pointer (some ⟨Bh, 0, none⟩), .pointer (some ⟨Bp, 0, none⟩)], x.1.1.val, x.1.1.part x.1.2, .pointer (some ⟨w.heap.size, 2, none⟩), .slice b.ha b.hl.length b.hc, .func (.func 168) #[] #[.pointer (some ⟨Ch, 0, none⟩), .pointer (some ⟨Cp, 0, none⟩)], y.1.1.val, y.1.1.part y.1.2, undef, undef, undef, undef, undef, undef, undef, undef, undef, undef], defers := [] })
   (fun y a'' _ X Y row hs hg hr => by obtain ⟨B3, e1, e3⟩ := hs;exact ⟨B3, dE e1 hg (fun r e => (hr r e).2), e3⟩)
   ?assign2 ?body2 ?done2 ?stop2
  case assign2 =>
   rintro l2 pre' y W' K ⟨hq, hB2⟩ hK;gi_wp2
   exact hK _ _ ((KeepsOthers.alloc _ _).from _) (mC.of_below ((br _ W').alloc (nlq _) _) hB2.size) ⟨hq, hB2.alloc hB2.size _⟩
    ⟨W'.heap.size, eN W' _ 42 rfl _ _ _, rfl⟩
  case body2 =>
   rintro l2 pre' y a'' W' hl2 _ ⟨hq, hB2⟩ ⟨B3, f1, rfl⟩ hlt2;have bR2 : Boxed W' (w.heap.size + 1) 4 (.bool false) := (hB2.block (w.heap.size + 1) (by omega)).trans bR1;have cR := bR2.cell;have fR := bR2.frozen;have h2' : 1 <= n - 1 - 1 - 1 - 1 := by omega
   obtain ⟨c0, c1, c2⟩ := eC (e1'.zL hB2);obtain ⟨d0, d1, d2⟩ := eC f1;rw [Nat.zero_add] at c1 c2 d1 d2;have p0 : W'.cell? ⟨B2, 0, none⟩ = some (x.1.1.part x.1.2) := (e2'.zL hB2) 0 _ rfl;have hBw2 : Below w.heap.size w W' := hBw1.trans (hB2.mono hBw1.size);have hKF : KeepsFrom W0.heap.size W W' := (bE (aD hd0 hB2)).from _;obtain ⟨v, hv⟩ : ∃ v, Op.bytesLess x.1.1.n.toList y.1.1.n.toList = v := ⟨_, rfl⟩
   cases v
   · have hcl : mX x.1 y.1 = false := by simp only [mX, eU, hv, Bool.false_and]
     gi_wp2;refine ⟨trivial, ?_⟩;gi_wp2;exact ⟨(KeepsOthers.refl _).from _, mC.of_below (br _ _) hB2.size, fun z hz => (lma.1 hz).elim (hq z) (fun e => by simp at e;subst e;exact hcl), hB2⟩
   · obtain ⟨u, hu⟩ : ∃ u, bI (x.1.1.pl x.1.2) (y.1.1.pl y.1.2) = u := ⟨_, rfl⟩
     have hcl : mX x.1 y.1 = u := by simp only [mX, eU, hv, hu, Bool.true_and]
     gi_wp2_with fail
     refine ⟨trivial, ?_⟩;refine (CallsIn.inRound l2 (CallsIn.inRound lp (cw.2 (qE (x.1.1.pl x.1.2) (y.1.1.pl y.1.2) _ _ _ _ W' (x.bxs hBw2) (y.bxs hBw2) x.len y.len)))).mono ?_;rintro e w1 ⟨rfl, hb1⟩;have hu' : ((x.1.1.pl x.1.2).any fun a => (y.1.1.pl y.1.2).any (aV a)) = u := hu;rw [hu'];have cR1 := (hb1.cell (p := ⟨w.heap.size + 1, 0, none⟩) (aA cR)).trans cR;have fR1 := (hb1.frozen (p := ⟨w.heap.size + 1, 0, none⟩) (aA cR)).trans fR;have bR3 : Boxed w1 (w.heap.size + 1) 4 (.bool false) := (hb1.block _ (aA cR)).trans bR2;clear cR fR c0 c1 c2 d0 d1 d2 p0
     cases u
     · gi_wp2
       exact ⟨(bE hb1).from _, mC.of_below hb1 hB2.size, fun z hz => (lma.1 hz).elim (hq z) (fun e => by simp at e;subst e;exact hcl), hB2.trans (hb1.mono hB2.size)⟩
     · gi_wp2
       exact ⟨((bE hb1).trans (KeepsOthers.setCell _ _ _)).from _, ⟨⟨rfl, y, lma.2 (.inr (by simp)), hcl⟩, bR3.set _⟩, (aD hBw2 hb1).setCell (p := ⟨w.heap.size + 1, 0, none⟩) (by simp) _, hKF.trans (((bE hb1).trans (KeepsOthers.setCell _ _ _)).from _)⟩
  case done2 =>
   rintro ys' W' rfl ⟨hq, hB2⟩;have hb3 : Below W.heap.size W W' := aD hd0 hB2;gi_wp2;exact ⟨(bE hb3).from _, mC.of_below hb3 hsW0, fun z hz => (lma.1 hz).elim (hp z) (fun e => by simp at e;subst e;exact hq), hB1.trans (hb3.mono hsW0)⟩
  case stop2 =>
   rintro c pre' W' ⟨q, hq, rfl⟩ ⟨⟨⟨rfl, y, hy, hcl⟩, bR2⟩, hBW, hKF⟩;gi_wp2;exact ⟨hKF, ⟨⟨rfl, x, lma.2 (.inr (by simp)), y, tK hq hy, hcl⟩, bR2⟩, hBW⟩
 case done =>
  rintro D zs W hD rfl ⟨hp, hB1⟩ hK;have bR3 : Boxed W (w.heap.size + 1) 4 (.bool false) := (hB1.block _ (by omega)).trans bR0;have cR := bR3.cell;have fR := bR3.frozen;gi_wp2;have hK' := (KeepsOthers.setCell W ⟨w.heap.size + 1, 0, none⟩ (.bool true)).same D _ hK rfl;refine ⟨by simp, .inl ⟨_, _, rfl, run_takeDeferred hK', ?_⟩⟩;have hc5 := cell_kept (bR3.set (.bool true)).cell (grownBy_putObj' _ D (.deferred none)) (fun r e => by cases e;exact ⟨_, hK', rfl⟩);refine ⟨.bool true, ?_, by rw [AC hp], (((hB0.trans (hB1.mono (by omega))).setCell (p := ⟨w.heap.size + 1, 0, none⟩) (by simp) _).trans (belowK_b (w := w) (nlq _) _ D _ _ (by omega) hK' rfl rfl))⟩
  simp [results, Tryz.f41, go_sem, hc5]
 case stop =>
  rintro D c pre W hD ⟨q, hq, rfl⟩ ⟨⟨⟨rfl, x, hx, y, hy, hcl⟩, bR3⟩, hB1⟩ hK;gi_wp2;refine ⟨by simp, .inl ⟨_, _, rfl, run_takeDeferred hK, ?_⟩⟩;have hc5 := cell_kept bR3.cell (grownBy_putObj' _ D (.deferred none)) (fun r e => by cases e;exact ⟨_, hK, rfl⟩);refine ⟨.bool false, ?_, by rw [AQ (tK hq hx) hy hcl], hB1.trans (belowK_b (w := w) (nlq _) W D _ _ (by omega) hK rfl rfl)⟩
  simp [results, Tryz.f41, go_sem, hc5]
theorem E5 (b : Bk) (w : World) (hh : Xs 3 Hx.cells w b.ha b.hl) (hnh : b.hl.length <= 1048576) (hgood : ∀ h ∈ b.hl, h.In w /\ h.Fit) :
 Calls Tryz.prog 41 #[b.val] w fun e W' => e = .returned (.bool (j8 b.hl)) /\ Below w.heap.size w W' := cw.1 (KM 8 (by omega) b w hh hnh hgood)
end Go.Proofs.YtiojdbffjdoniaaGreatDoor
namespace Go.Proofs.YtiojdbffjdoniaaGreatDoor
set_option maxRecDepth 100000
set_option maxHeartbeats 2000000
open Go.RowKit
def xT (l : List Hx) : Bool := cI l.length && a9 Hx.n l
theorem JV (b : Bk) (w : World) (hh : Xs 3 Hx.cells w b.ha b.hl) (hn : b.hl.length <= 1048576) (hs : ∀ h ∈ b.hl, h.n.size <= 9223372036854775807) :
 Calls Tryz.prog 39 #[b.val] w fun e w' => e = .returned (.bool (xT b.hl)) /\ Below w.heap.size w w' := BF b w hh hn hs
def j5 (b : Bk) : Bool := mD b.now && (aW b.fl && (xT b.hl && (b.hl.all (bV b.fl b.now) && j8 b.hl)))
def PV (w : World) (z : Nat) (b : Bk) : Prop := w.heap[z]? = some (.cells #[.int .i64 b.now, .slice b.fa b.fl.length b.fc, .slice b.ha b.hl.length b.hc] 29)
def AZ (b : Bk) (k : Nat) : Prop := (0 < k -> mD b.now = true) /\ (1 < k -> aW b.fl = true) /\ (2 < k -> xT b.hl = true) /\ (3 < k -> b.hl.all (bV b.fl b.now) = true) /\ (4 < k -> j8 b.hl = true)
theorem zQ (b : Bk) (G : Nat) (w : World) (hf : Xs 3 Fx.cells w b.fa b.fl) (hnf : b.fl.length <= 1048576) (hcap : b.fl.length <= b.fc) (hc2 : b.fc <= 9223372036854775807) (hs : ∀ f ∈ b.fl, f.n.size <= 9223372036854775807)
 (hh : Xs 3 Hx.cells w b.ha b.hl) (hnh : b.hl.length <= 1048576) (hgood : ∀ h ∈ b.hl, h.In w /\ h.Fit)
 (g0 : w.cell? ⟨G, 0, none⟩ = some (.func (.func 36) #[] #[])) (g1 : w.cell? ⟨G, 1, none⟩ = some (.func (.func 37) #[] #[])) (g2 : w.cell? ⟨G, 2, none⟩ = some (.func (.func 39) #[] #[])) (g3 : w.cell? ⟨G, 3, none⟩ = some (.func (.func 40) #[] #[])) (g4 : w.cell? ⟨G, 4, none⟩ = some (.func (.func 41) #[] #[])) :
 Calls Tryz.prog 35 #[b.val, .slice (some ⟨G, 0, none⟩) 5 5] w fun e w' => e = .returned (.bool (j5 b)) /\ Below w.heap.size w w' := by
 obtain ⟨V, hV⟩ : ∃ V, V = j5 b := ⟨_, rfl⟩;rw [← hV];have HV : Hid (V = j5 b) := hV;clear hV
 go_enter Tryz.func35, Tryz.ntmps35
 go_wp2
 go_loopw [9] (fun i wr => ∃ k : Nat, k <= 5 /\ i = .int .i64 k /\ Below w.heap.size w wr /\ PV wr w.heap.size b /\ Hid (AZ b k)) (fun i _ => 5 - (intOf i).toNat)
 case atStart => exact ⟨0, by omega, rfl, aB (br _ _) _, wnq w _, by simp [Hid, AZ]⟩
 case round =>
  obtain ⟨k, hk, rfl, hN, hbk, hno⟩ := hrel;have b0 : wr.cell? ⟨w.heap.size, 0, none⟩ = some (.int .i64 b.now) := bW hbk rfl;have b1 : wr.cell? ⟨w.heap.size, 1, none⟩ = some (.slice b.fa b.fl.length b.fc) := bW hbk rfl;have b2 : wr.cell? ⟨w.heap.size, 2, none⟩ = some (.slice b.ha b.hl.length b.hc) := bW hbk rfl;have hcases : k = 0 ∨ k = 1 ∨ k = 2 ∨ k = 3 ∨ k = 4 ∨ k = 5 := by omega
  rcases hcases with h0 | h1 | h2 | h3 | h4 | h5
  · subst h0
    have gk := (hN.cell (p := ⟨G, 0, none⟩) (aA g0)).trans g0;clear g0 g1 g2 g3 g4
    go_wp2_with (go_at_call 36;refine (HJ b _).mono ?_;rintro e w1 ⟨rfl, hb1⟩;have hbk := (hb1.block _ (aA b0)).trans hbk;have hN : Below w.heap.size w w1 := aY hN (nlq _) hb1)
    · have hv : (mD b.now) = false := nf (by assumption)
      go_ret;exact ⟨aC (by rw [HV.out];exact (show j5 b = false from by rw [j5, hv];simp).symm), hN⟩
    · have hv : (mD b.now) = true := nt (by assumption)
      go_roundw
      case rel => exact ⟨1, by omega, by go_num, hN, hbk, ⟨fun _ => hv, fun h => absurd h (by omega), fun h => absurd h (by omega), fun h => absurd h (by omega), fun h => absurd h (by omega)⟩⟩
      case measure => simp [intOf]
  · subst h1
    have gk := (hN.cell (p := ⟨G, 1, none⟩) (aA g1)).trans g1;clear g0 g1 g2 g3 g4
    go_wp2_with (go_at_call 37;refine (JT b _ (hf.zL hN) hnf hcap hc2 hs).mono ?_;rintro e w1 ⟨rfl, hb1⟩;have hbk := (hb1.block _ (aA b0)).trans hbk;have hN : Below w.heap.size w w1 := aY hN (nlq _) hb1)
    · have hv : (aW b.fl) = false := nf (by assumption)
      go_ret;exact ⟨aC (by rw [HV.out];exact (show j5 b = false from by rw [j5, hv];simp).symm), hN⟩
    · have hv : (aW b.fl) = true := nt (by assumption)
      go_roundw
      case rel => exact ⟨2, by omega, by go_num, hN, hbk, ⟨fun _ => hno.out.1 (by omega), fun _ => hv, fun h => absurd h (by omega), fun h => absurd h (by omega), fun h => absurd h (by omega)⟩⟩
      case measure => simp [intOf]
  · subst h2
    have gk := (hN.cell (p := ⟨G, 2, none⟩) (aA g2)).trans g2;clear g0 g1 g2 g3 g4
    go_wp2_with (go_at_call 39;refine (JV b _ (hh.zL hN) hnh (fun h m => (hgood h m).2.sn)).mono ?_;rintro e w1 ⟨rfl, hb1⟩;have hbk := (hb1.block _ (aA b0)).trans hbk;have hN : Below w.heap.size w w1 := aY hN (nlq _) hb1)
    · have hv : (xT b.hl) = false := nf (by assumption)
      go_ret;exact ⟨aC (by rw [HV.out];exact (show j5 b = false from by rw [j5, hv];simp).symm), hN⟩
    · have hv : (xT b.hl) = true := nt (by assumption)
      go_roundw
      case rel => exact ⟨3, by omega, by go_num, hN, hbk, ⟨fun _ => hno.out.1 (by omega), fun _ => hno.out.2.1 (by omega), fun _ => hv, fun h => absurd h (by omega), fun h => absurd h (by omega)⟩⟩
      case measure => simp [intOf]
  · subst h3
    have gk := (hN.cell (p := ⟨G, 3, none⟩) (aA g3)).trans g3;clear g0 g1 g2 g3 g4
    go_wp2_with (go_at_call 40;refine (I2 b _ (hf.zL hN) hnf (hh.zL hN) hnh (fun h m => ⟨(hgood h m).1.zL hN, (hgood h m).2⟩)).mono ?_;rintro e w1 ⟨rfl, hb1⟩;have hbk := (hb1.block _ (aA b0)).trans hbk;have hN : Below w.heap.size w w1 := aY hN (nlq _) hb1)
    · have hv : (b.hl.all (bV b.fl b.now)) = false := nf (by assumption)
      go_ret;exact ⟨aC (by rw [HV.out];exact (show j5 b = false from by rw [j5, hv];simp).symm), hN⟩
    · have hv : (b.hl.all (bV b.fl b.now)) = true := nt (by assumption)
      go_roundw
      case rel => exact ⟨4, by omega, by go_num, hN, hbk, ⟨fun _ => hno.out.1 (by omega), fun _ => hno.out.2.1 (by omega), fun _ => hno.out.2.2.1 (by omega), fun _ => hv, fun h => absurd h (by omega)⟩⟩
      case measure => simp [intOf]
  · subst h4
    have gk := (hN.cell (p := ⟨G, 4, none⟩) (aA g4)).trans g4;clear g0 g1 g2 g3 g4
    go_wp2_with (go_at_call 41;refine (E5 b _ (hh.zL hN) hnh (fun h m => ⟨(hgood h m).1.zL hN, (hgood h m).2⟩)).mono ?_;rintro e w1 ⟨rfl, hb1⟩;have hbk := (hb1.block _ (aA b0)).trans hbk;have hN : Below w.heap.size w w1 := aY hN (nlq _) hb1)
    · have hv : (j8 b.hl) = false := nf (by assumption)
      go_ret;exact ⟨aC (by rw [HV.out];exact (show j5 b = false from by rw [j5, hv];simp).symm), hN⟩
    · have hv : (j8 b.hl) = true := nt (by assumption)
      go_roundw
      case rel => exact ⟨5, by omega, by go_num, hN, hbk, ⟨fun _ => hno.out.1 (by omega), fun _ => hno.out.2.1 (by omega), fun _ => hno.out.2.2.1 (by omega), fun _ => hno.out.2.2.2.1 (by omega), fun _ => hv⟩⟩
      case measure => simp [intOf]
  · subst h5
    clear g0 g1 g2 g3 g4;go_wp2
    go_ret;obtain ⟨q0, q1, q2, q3, q4⟩ := hno.out;exact ⟨aC (by rw [HV.out, j5, q0 (by omega), q1 (by omega), q2 (by omega), q3 (by omega), q4 (by omega)];rfl), hN⟩
theorem vQ : ∀ a : List UInt8, Op.bytesLess a a = false := by
 intro a
 induction a with
 | nil => rfl
 | cons x xs ih => simp [Op.bytesLess, ih]
theorem yH (x y : UInt8) (xs ys : List UInt8) : Op.bytesLess (x :: xs) (y :: ys) = true ↔ x.toNat < y.toNat ∨ (x.toNat = y.toNat /\ Op.bytesLess xs ys = true) := by
 simp only [Op.bytesLess, Bool.or_eq_true, dte, bat, beq_iff_eq, UInt8.lt_iff_toNat_lt, ← UInt8.toNat_inj]
theorem nE : ∀ a b c : List UInt8, Op.bytesLess a b = true -> Op.bytesLess b c = true -> Op.bytesLess a c = true := by
 intro a
 induction a with
 | nil => intro b c h1 h2;cases b <;> cases c <;> simp_all [Op.bytesLess]
 | cons x xs ih =>
  intro b c h1 h2
  cases b with
  | nil => simp [Op.bytesLess] at h1
  | cons y ys =>
   cases c with
   | nil => simp [Op.bytesLess] at h2
   | cons z zs =>
    rw [yH] at h1 h2 ⊢
    rcases h1 with h1 | ⟨e1, h1⟩ <;> rcases h2 with h2 | ⟨e2, h2⟩
    · exact .inl (by omega)
    · exact .inl (by omega)
    · exact .inl (by omega)
    · exact .inr ⟨by omega, ih _ _ h1 h2⟩
theorem uY {l : List Hx} (h : iO Hx.n l = true) {i : Nat} : ∀ (d : Nat) (hj : i + d + 1 < l.length), eU (l[i]'(by omega)).n (l[i + d + 1]).n = true
 | 0, hj => (fP Hx.n l).1 h i hj
 | d + 1, hj => nE _ _ _ (uY h d (by omega)) ((fP Hx.n l).1 h (i + d + 1) hj)
theorem oD (l : List Hx) : ∀ m, m <= l.length -> (eM l m = true ↔ ∀ i j (_hj : j < m) (hm : j < l.length) (hi : i < j), bF (l[i]'(by omega)) l[j] = false)
 | 0, _ => by simp [eM]
 | m + 1, hm => by
  rw [eM, bat, oD l m (by omega), iX, bX l m (by omega)]
  constructor
  · rintro ⟨h1, h2⟩ i j hj hjl hi
    rcases (by omega : j < m ∨ j = m) with h | rfl
    · exact h1 i j h hjl hi
    · have h3 : (l.take j).any (fun g => bF g l[j]) = false := by simpa using h2
      rw [List.any_eq_false] at h3;have := h3 (l[i]'(by omega)) (List.mem_take_iff_getElem.2 ⟨i, by omega, rfl⟩)
      simpa using this
  · intro h
    refine ⟨fun i j hj hjl hi => h i j (by omega) hjl hi, ?_⟩
    have h3 : (l.take m).any (fun g => bF g l[m]) = false := by
     rw [List.any_eq_false];intro x hx;obtain ⟨i, hi, rfl⟩ := List.mem_take_iff_getElem.1 hx;have := h i m (by omega) (by omega) (by omega)
     simpa using this
    rw [h3];rfl
theorem zC {l : List Hx} (h : iO Hx.n l = true) : j8 l = eM l l.length := by
 rw [Bool.eq_iff_iff, oD l l.length (nlq _)]
 constructor
 · intro hn i j _ hjl hi
   have h1 := lat.1 (lat.1 hn (l[i]'(by omega)) (lgm _)) l[j] (lgm _);have h2 := uY h (i := i) (j - i - 1) (by omega);simp only [show i + (j - i - 1) + 1 = j by omega] at h2;rw [h2] at h1
   simpa using h1
 · intro ha
   refine lat.2 fun a hal => lat.2 fun c hcl => ?_;obtain ⟨i, hi, rfl⟩ := lgo hal;obtain ⟨j, hj, rfl⟩ := lgo hcl
   rcases (by omega : i < j ∨ i = j ∨ j < i) with hlt | rfl | hgt
   · rw [ha i j hj hj hlt];simp
   · have : eU l[i].n l[i].n = false := vQ _
     rw [this];rfl
   · have h2 := uY h (i := j) (i - j - 1) (by omega)
     simp only [show j + (i - j - 1) + 1 = i by omega] at h2
     cases h3 : eU l[i].n l[j].n
     · rfl
     · have h4 : eU l[j].n l[j].n = true := nE _ _ _ h2 h3
       have : eU l[j].n l[j].n = false := vQ _;rw [this] at h4;cases h4
theorem JW (b : Bk) : j5 b = aO b := by
 unfold j5 aO xT cH
 cases hn : a9 Hx.n b.hl
 · simp
 · have ha : iO Hx.n b.hl = true := by rw [a9, bat] at hn;exact hn.2
   rw [zC ha];simp only [Bool.true_and, Bool.and_true]
theorem qL (b : Bk) (w : World) (hf : Xs 3 Fx.cells w b.fa b.fl) (hnf : b.fl.length <= 1048576) (hcap : b.fl.length <= b.fc) (hc2 : b.fc <= 9223372036854775807) (hs : ∀ f ∈ b.fl, f.n.size <= 9223372036854775807)
 (hh : Xs 3 Hx.cells w b.ha b.hl) (hnh : b.hl.length <= 1048576) (hgood : ∀ h ∈ b.hl, h.In w /\ h.Fit) :
 Calls Tryz.prog 9 #[b.val] w fun e w' => e = .returned (.bool (aO b)) /\ Below w.heap.size w w' := by
 go_enter Tryz.func9, Tryz.ntmps9
 go_wp2_with fail
 refine (zQ b (w.heap.size + 1) _ (hf.zL (aB (aB (br _ _) _) _)) hnf hcap hc2 hs (hh.zL (aB (aB (br _ _) _) _)) hnh (fun h m => ⟨(hgood h m).1.zL (aB (aB (br _ _) _) _), (hgood h m).2⟩) (by simp) (by simp) (by simp) (by simp) (by simp)).mono ?_;rintro e w1 ⟨rfl, hb1⟩;go_wp2_with fail
 go_ret;exact ⟨aC (JW b), aD (aB (aB (br _ _) _) _) hb1⟩
end Go.Proofs.YtiojdbffjdoniaaGreatDoor
namespace Go.Proofs.YtiojdbffjdoniaaGreatDoor
set_option maxRecDepth 100000
set_option maxHeartbeats 4000000
open Go.RowKit Go.Shelf
attribute [local go_sem] Oper.semAt_some
def pW (nm n : ByteArray) : Bool := !(n.toList == nm.toList)
def mV (nm : ByteArray) {w : World} (x : HP w) : Bool := pW nm x.1.1.n
theorem OwnFrom.mono {β : Type} {B B' : Nat} {I : β -> World -> Prop} (h : OwnFrom B I) (hB : B <= B') : OwnFrom B' I := fun s W W' row hs hg hr => h s W W' row hs hg (fun r e => ⟨Nat.le_trans hB (hr r e).1, (hr r e).2⟩)
theorem jQ {β : Type} {B : Nat} {X : Nat -> Prop} {w₀ : World} : OwnFrom B (fun (_ : β) W => aU X w₀ W) := fun _ A A' row hs hg hr => ⟨Nat.le_trans hs.size hg.size, fun k o hx hk ho => by
 have h1 := hs.c k o hx hk ho;refine (hg.block k (bP h1) (fun e => ?_)).trans h1;obtain ⟨_, u, hu, hc⟩ := hr k e.symm
 rw [h1] at hu;cases hu;rw [ho] at hc;cases hc⟩
theorem vM (n : Nat) (hn : 6 <= n) (b : Bk) (nm : ByteArray) (Bb Bn : Nat) (w0 w : World) (hgood : ∀ x ∈ b.hl, x.In w0 /\ x.Fit) (hnh : b.hl.length <= 1048576) (X : Nat -> Prop) (hX0 : ∀ k, X k -> k < w.heap.size) (hXn : ¬ X Bn) (hXl : ∀ p, b.ha = some p -> b.hl ≠ [] -> ¬ X p.block)
 (hBb : w.heap[Bb]? = some (.cells #[.int .i64 b.now, .slice b.fa b.fl.length b.fc, .slice b.ha b.hl.length b.hc] 29)) (hBn : w.cell? ⟨Bn, 0, none⟩ = some (.string nm)) (hh : Xs 3 Hx.cells w b.ha b.hl) :
 QS Fence.wide n Tryz.prog 226 #[.pointer (some ⟨Bb, 0, none⟩), .pointer (some ⟨Bn, 0, none⟩)] (fun x : HP w0 => #[x.1.1.part x.1.2]) X (fun ys => ys = (bM (cS b.hl hgood) (b.hl.length * 2)).filter (mV nm)) (fun pre => ∃ k, k <= b.hl.length * 2 /\ pre = (bM (cS b.hl hgood) k).filter (mV nm)) (b.hl.length * 2) w := fun lp J Jx W hW hJ hJx hY h0 => by
 have h1 : 1 <= n := by omega
 have hBb' := (hW.block Bb (bP hBb)).trans hBb;have k2 : W.cell? ⟨Bb, 2, none⟩ = some (.slice b.ha b.hl.length b.hc) := bW hBb' rfl;have hbz : Bb < W.heap.size := aA k2;refine callsIn_of_wp_marks Tryz.func226 rfl trivial ?_ rfl;simp only [Tryz.ntmps226, lsz, llc, lln, Nat.reduceAdd, Nat.reduceSub, ars, arz, lpt, lap, lna, lca];gi_wp2_with fail
 refine ⟨trivial, ?_⟩;refine (wS (n - 1) (by omega) _ _ _ _).mono ?_;rintro e W0 ⟨Bh, Bp, G, rfl, hb0, hBh, hBp, hg0, hg1, hp0, hg2⟩;have bY := Boxed.new W 231 (.func (.yield lp) #[] #[]);have hB1 : Below W.heap.size W (W.alloc (.cells #[.func (.yield lp) #[] #[]] 231)) := (br _ W).alloc (nlq _) _;have bY0 : Boxed W0 W.heap.size 231 (.func (.yield lp) #[] #[]) := (hb0.block W.heap.size (by simp)).trans bY;have hB0 : Below W.heap.size W W0 := aD hB1 hb0;have hz0 : W.heap.size + 1 <= W0.heap.size := by have := hb0.size;simp at this;omega
 have hw0 : w.heap.size <= W.heap.size := hW.size;have hBn0 : W0.cell? ⟨Bn, 0, none⟩ = some (.string nm) := (hB0.cell (p := ⟨Bn, 0, none⟩) (Nat.lt_of_lt_of_le (aA hBn) hw0)).trans ((hW.cell (p := ⟨Bn, 0, none⟩) (aA hBn)).trans hBn);simp only [wsa] at hp0 hg2;have hJ0 : J [] W0 := hJ _ _ _ none h0 (eQ hB0) (fun r e => by cases e);clear bY hB1 hb0 k2;gi_wp2_with fail
 refine wpIn_rangeFunc_ownH rfl h1 (gf := 168) (lb := #[.pointer (some ⟨Bh, 0, none⟩), .pointer (some ⟨Bp, 0, none⟩)]) rfl trivial (enters_of Tryz.func168 (by kernel_rfl) rfl)
  (pP (n - 1) Bh Bp G b.hc b.ha b.hl w0 hgood hnh W0 X (fun k hk => by have := hX0 k hk;omega) (fun e => by have := hX0 _ e;omega) (fun e => by have := hX0 _ e;omega) hXl hBh hBp hg0 hg1 (hh.zL (aD hW hB0)))
  GM (GD) (br _ _) (fun _ => rfl)
  (fun pre W' => J (pre.filter (mV nm)) W' /\ aU X W0 W')
  (fun c pre W' => c = .ret /\ Jx (pre.filter (mV nm)) W')
  (OwnFrom.and (fun s A A' row hs hg hr => (OwnFrom.mono hJ (by omega)) _ A A' row hs hg hr) jQ)
  (fun c => OwnFrom.and (ownFrom_pure _ _) (fun s A A' row hs hg hr => (OwnFrom.mono hJx (by omega)) _ A A' row hs hg hr))
  ⟨hJ0, aU.refl _ _⟩
  (fun x a' W' => ∃ B1, aM W' B1 0 x.1.1.cells /\ a' = { tmps := #[.func (.yield lp) #[] #[], .pointer (some ⟨Bb, 0, none⟩), .pointer (some ⟨Bn, 0, none⟩), .pointer (some ⟨W.heap.size, 0, none⟩), .pointer (some ⟨B1, 0, none⟩), x.1.1.part x.1.2, .pointer (some ⟨Bb, 2, none⟩), .slice b.ha b.hl.length b.hc,
   .func (.func 168) #[] #[.pointer (some ⟨Bh, 0, none⟩), .pointer (some ⟨Bp, 0, none⟩)], x.1.1.val, x.1.1.part x.1.2, undef, undef, undef, undef, undef, undef, undef, undef, undef, undef], defers := [] })
  (fun x a' _ X Y row hs hg hr => by obtain ⟨B1, e1, e3⟩ := hs;exact ⟨B1, dE e1 hg (fun r e => (hr r e).2), e3⟩)
  ?assign ?body ?done ?stop
 case assign =>
  rintro l2 pre x W' K ⟨hj, hk⟩ hK;gi_wp2
  exact hK _ _ ((KeepsOthers.alloc _ _).from _) (aU.of_below ((br _ W').alloc (nlq _) _)) ⟨hJ.alloc _ hj, hk.trans (aU.of_below ((br _ W').alloc (nlq _) _))⟩
   ⟨W'.heap.size, eN W' _ 42 rfl _ _ _, rfl⟩
 case body =>
  rintro l2 pre x a' W' hl2 ⟨r, hr⟩ ⟨hj, hk⟩ ⟨B1, e1, rfl⟩ hlt';have cN := hk.cell (p := ⟨Bn, 0, none⟩) hXn hBn0;have cY := hk.cell (p := ⟨W.heap.size, 0, none⟩) (fun e => by have := hX0 _ e;simp at this;omega) bY0.cell;obtain ⟨c0, c1, c2⟩ := eC e1;rw [Nat.zero_add] at c1 c2;have h1' : 1 <= n - 1 - 1 := by omega
  obtain ⟨v, hv⟩ : ∃ v, (x.1.1.n.toList == nm.toList) = v := ⟨_, rfl⟩;have hov : mV nm x = !v := by rw [mV, pW, hv]
  cases v
  · have hf : (pre ++ [x]).filter (mV nm) = pre.filter (mV nm) ++ [x] := by simp [List.filter_append, hov]
    obtain ⟨fn, tmps, assign, body, hy, hR⟩ := hY (pre.filter (mV nm)) x W' hj (Nat.lt_of_le_of_lt (List.length_filter_le _ _) hlt');have HR := hR;clear hR hY hov;gi_wp2_with fail
    refine RoundIn.mono (oP l2 (nO rfl HR)) ?_;clear HR hy
    rintro e W3 ⟨hkf, ⟨rfl, hJ3, hk3⟩ | ⟨rfl, hJx3⟩⟩
    · gi_wp2
      exact ⟨KeepsFrom.mono hkf (by omega), hk3, by rw [hf];exact hJ3, hk.trans hk3⟩
    · gi_wp2
      exact ⟨KeepsFrom.mono hkf (by omega), rfl, by rw [hf];exact hJx3⟩
  · have hf : (pre ++ [x]).filter (mV nm) = pre.filter (mV nm) := by simp [List.filter_append, hov]
    clear hY hov;gi_wp2_with fail
    refine ⟨fun _ h => (by cases h), ?_⟩;gi_wp2;exact ⟨(KeepsOthers.refl _).from _, aU.refl _ _, by rw [hf];exact hj, hk⟩
 case done =>
  rintro D zs W' hD rfl ⟨hj, hk⟩ hK;gi_wp2;refine ⟨by simp, .inl ⟨_, _, rfl, run_takeDeferred hK, ?_⟩⟩;exact ⟨_, results_none rfl _ _ _, ⟨_, rfl⟩, .inl ⟨_, rfl, hJ.putObj _ hj (by omega) hK rfl⟩⟩
 case stop =>
  rintro D c pre W' hD ⟨q, hq, rfl⟩ ⟨rfl, hj⟩ hK;gi_wp2;refine ⟨by simp, .inl ⟨_, _, rfl, run_takeDeferred hK, ?_⟩⟩;exact ⟨_, results_none rfl _ _ _, ⟨_, rfl⟩, .inr ⟨_, ⟨q, hq, rfl⟩, hJx.putObj _ hj (by omega) hK rfl⟩⟩
def iE (nm : ByteArray) (t : List Bx) (l : List Hx) : Bool := l.all fun h => !(pW nm h.n && (bI t h.tl || bI t h.nl))
theorem IF {w : World} {nm : ByteArray} {t : List Bx} {l : List Hx} {hg : ∀ x ∈ l, x.In w /\ x.Fit} (h : ∀ x ∈ (fB l hg).filter (mV nm), bI t (x.1.1.pl x.1.2) = false) : iE nm t l = true := by
 refine lat.2 fun a ha => ?_
 cases ho : pW nm a.n
 · rfl
 · have g : ∀ s, bI t (a.pl s) = false := fun s => by
    obtain ⟨x, hx, ex⟩ := nM hg ha s;have := h x (List.mem_filter.2 ⟨hx, by rw [mV, ex];exact ho⟩);rw [ex] at this;exact this
   have g0 := g false;have g1 := g true;simp only [Hx.pl, Bool.false_eq_true, if_true, if_false] at g0 g1
   simp [g0, g1]
theorem KK {w : World} {nm : ByteArray} {t : List Bx} {l : List Hx} {hg : ∀ x ∈ l, x.In w /\ x.Fit} {q : Nat} (hq : q <= l.length * 2) {x : HP w} (hx : x ∈ (bM (cS l hg) q).filter (mV nm)) (h : bI t (x.1.1.pl x.1.2) = true) : iE nm t l = false := by
 refine Bool.eq_false_iff.2 fun hall => ?_;obtain ⟨hm, ho⟩ := List.mem_filter.1 hx;have h1 := lat.1 hall _ (lK (tK hq hm));obtain ⟨⟨a, s⟩, ga⟩ := x;have ho' : pW nm a.n = true := ho
 cases s <;> simp only [Hx.pl, Bool.false_eq_true, if_true, if_false] at h <;> simp [ho', h] at h1
theorem MK (n : Nat) (b : Bk) (nm : ByteArray) (w : World) :
 CallsIn Fence.wide n Tryz.prog 208 #[b.val, .string nm] w fun e w' => ∃ Bb Bn, e = .returned (.func (.func 226) #[] #[.pointer (some ⟨Bb, 0, none⟩), .pointer (some ⟨Bn, 0, none⟩)]) /\ Below w.heap.size w w' /\
  w'.heap[Bb]? = some (.cells #[.int .i64 b.now, .slice b.fa b.fl.length b.fc, .slice b.ha b.hl.length b.hc] 29) /\ w'.cell? ⟨Bn, 0, none⟩ = some (.string nm) /\ w.heap.size <= Bn := by
 refine callsIn_of_wp Tryz.func208 rfl trivial ?_ rfl;simp only [Tryz.ntmps208, lsz, llc, lln, Nat.reduceAdd, Nat.reduceSub, ars, arz, lpt, lap, lna, lca];gi_wp2;go_ret;have b2 := Boxed.new (w.alloc (.cells #[.int .i64 b.now, .slice b.fa b.fl.length b.fc, .slice b.ha b.hl.length b.hc] 29)) 9 (.string nm);simp only [wsa] at b2;exact ⟨w.heap.size, w.heap.size + 1, rfl, ((br _ w).alloc (nlq _) _).alloc (by simp) _, (halq _ _ w.heap.size (by simp)).trans (wnq w _), b2.cell, by omega⟩
end Go.Proofs.YtiojdbffjdoniaaGreatDoor
namespace Go.Proofs.YtiojdbffjdoniaaGreatDoor
set_option maxRecDepth 100000
set_option maxHeartbeats 4000000
open Go.RowKit
theorem sV (a b : Bx) : aV a b = aV b a := by
 have e1 : fV a b = fV b a := by simp only [fV, decide_eq_decide];omega
 have e2 : eT a b = eT b a := by simp only [eT, decide_eq_decide];omega
 have e3 : jU a b = jU b a := by simp only [jU, decide_eq_decide];omega
 rw [aV, aV, e1, e2, e3, Bool.and_comm (aF a) (aF b)]
theorem l8 (a b : List Bx) : bI a b = bI b a := by
 rw [Bool.eq_iff_iff];simp only [bI, List.any_eq_true]
 constructor
 · rintro ⟨x, hx, y, hy, h⟩;exact ⟨y, hy, x, hx, by rw [sV];exact h⟩
 · rintro ⟨x, hx, y, hy, h⟩;exact ⟨y, hy, x, hx, by rw [sV];exact h⟩
def fY (nm : ByteArray) (t : List Bx) (h : Hx) : Bool := !(pW nm h.n && (bI t h.tl || bI t h.nl))
theorem GN {nm : ByteArray} {t : List Bx} {l : List Hx} {k : Nat} (hk : k < l.length) (h : fY nm t l[k] = false) : l.all (fY nm t) = false := by
 rw [Bool.eq_false_iff];intro ha;have := lat.1 ha l[k] (lgm hk);rw [h] at this;cases this
theorem L7 (nm : ByteArray) (t : List Bx) (l : List Hx) : iE nm t l = l.all (fY nm t) := rfl
structure wE (w : World) (b : Bk) (t : List Bx) (ta : Option Addr) : Prop where
 hf : Xs 3 Fx.cells w b.fa b.fl
 hnf : b.fl.length <= 1048576
 hcap : b.fl.length <= b.fc
 hc2 : b.fc <= 9223372036854775807
 hs : ∀ f ∈ b.fl, f.n.size <= 9223372036854775807
 hh : Xs 3 Hx.cells w b.ha b.hl
 hnh : b.hl.length <= 1048576
 hgood : ∀ h ∈ b.hl, h.In w /\ h.Fit
 ht : iH w ta t
 hnt : t.length <= 1048576
theorem wE.zL {w w' : World} {b : Bk} {t : List Bx} {ta : Option Addr} (h : wE w b t ta) (hb : Below w.heap.size w w') : wE w' b t ta :=
 ⟨h.hf.zL hb, h.hnf, h.hcap, h.hc2, h.hs, h.hh.zL hb, h.hnh, fun x hx => ⟨(h.hgood x hx).1.zL hb, (h.hgood x hx).2⟩, h.ht.zL hb, h.hnt⟩
theorem wL (b : Bk) (w : World) (hl : b.hl = []) (hf : Xs 3 Fx.cells w b.fa b.fl) (hnf : b.fl.length <= 1048576) (hs : ∀ f ∈ b.fl, f.n.size <= 9223372036854775807) :
 Calls Tryz.prog 28 #[b.val] w fun e w' => e = .returned (.bool (aO b)) /\ Below w.heap.size w w' := by
 obtain ⟨now, fa, fl, fc, ha, hl', hc⟩ := b;simp only at hl hf hnf hs;subst hl;obtain ⟨V, hV⟩ : ∃ V, V = aO ⟨now, fa, fl, fc, ha, [], hc⟩ := ⟨_, rfl⟩;rw [← hV]
 have HV : Hid (V = (mD now && aW fl)) := by
  rw [Hid, hV, aO]
  show (mD now && (aW fl && (true && true))) = _
  simp
 clear hV;have hB0 : Below w.heap.size w (w.alloc (.cells #[.int .i64 now, .slice fa fl.length fc, .slice ha 0 hc] 29)) := aB (br _ _) _;have A0 := wnq w (.cells #[.int .i64 now, .slice fa fl.length fc, .slice ha 0 hc] 29);obtain ⟨nv, hnv⟩ : ∃ v, dS now 0 10000 = v := ⟨_, rfl⟩;have HNV : Hid (mD now = nv) := hnv
 go_enter Tryz.func28, Tryz.ntmps28
 go_wp2_with fail
 refine (fO _ _ _ _ hnv _).mono ?_;rintro e w0 ⟨rfl, hw0⟩;subst hw0
 cases nv with
 | false =>
  go_wp2_with fail
  go_ret;exact ⟨aC (by rw [HV.out, HNV.out];rfl), hB0⟩
 | true =>
 go_wp2_with fail
 obtain ⟨fv, hfv⟩ : ∃ v, aW fl = v := ⟨_, rfl⟩;refine (nB fl _ hfv _ _ _ (hf.zL hB0) hnf hs).mono ?_;rintro e w1 ⟨rfl, hb1⟩;have hN1 := aD hB0 hb1;have A1 := (hb1.block _ (bP A0)).trans A0;have k2 : w1.cell? ⟨w.heap.size, 2, none⟩ = some (.slice ha 0 hc) := bW A1 rfl
 cases fv with
 | false =>
  go_wp2_with fail
  go_ret;exact ⟨aC (by rw [HV.out, HNV.out, hfv];rfl), hN1⟩
 | true =>
  have HR : Hid (V = true) := by rw [Hid, HV.out, HNV.out, hfv];rfl
  clear hfv A0 A1 hb1;go_wp2
  go_loopw [3] (fun i wr => i = .int .i64 0 /\ wr = w1) (fun _ _ => 0)
  case atStart => exact ⟨rfl, rfl⟩
  case round =>
   obtain ⟨rfl, rfl⟩ := hrel;go_wp2
   go_ret;exact ⟨aC HR.out.symm, hN1⟩
theorem BI (b : Bk) (nm : ByteArray) (t : List Bx) (ta : Option Addr) (tc : Nat) (w : World) (hl : b.hl = []) :
 Calls Tryz.prog 80 #[b.val, .string nm, .slice ta t.length tc] w fun e w' => e = .returned (.bool true) /\ Below w.heap.size w w' := by
 obtain ⟨now, fa, fl, fc, ha, hl', hc⟩ := b;simp only at hl;subst hl;have A0 := wnq w (.cells #[.int .i64 now, .slice fa fl.length fc, .slice ha 0 hc] 29);have hB0 : Below w.heap.size w (w.alloc (.cells #[.int .i64 now, .slice fa fl.length fc, .slice ha 0 hc] 29)) := aB (br _ _) _;obtain ⟨W0, hW0⟩ : ∃ W0, W0 = w.alloc (.cells #[.int .i64 now, .slice fa fl.length fc, .slice ha 0 hc] 29) := ⟨_, rfl⟩
 go_enter Tryz.func80, Tryz.ntmps80
 go_wp2
 rw [← hW0] at A0 hB0 ⊢;have k2 : W0.cell? ⟨w.heap.size, 2, none⟩ = some (.slice ha 0 hc) := bW A0 rfl;clear hW0
 go_loopw [7] (fun i wr => i = .int .i64 0 /\ wr = W0) (fun _ _ => 0)
 case atStart => exact ⟨rfl, rfl⟩
 case round =>
  obtain ⟨rfl, rfl⟩ := hrel;go_wp2
  go_ret;exact ⟨rfl, hB0⟩
theorem yF {w : World} {b : Bk} {t : List Bx} {ta : Option Addr} (h : wE w b t ta) (v : Bool) (hv : aO b = v) : Calls Tryz.prog 9 #[b.val] w fun e w' => e = .returned (.bool v) /\ Below w.heap.size w w' := by
 subst hv;exact qL b w h.hf h.hnf h.hcap h.hc2 h.hs h.hh h.hnh h.hgood
theorem yZ {w : World} {b : Bk} {t : List Bx} {ta : Option Addr} (h : wE w b t ta) (v : Bool) (hv : aO b = v) : Calls Tryz.prog 28 #[b.val] w fun e w' => e = .returned (.bool v) /\ Below w.heap.size w w' := by
 subst hv
 rcases h.hh with hl | ⟨bl, off, e, hc⟩
 · exact wL b w hl h.hf h.hnf h.hs
 exact wB b bl off e w h.hf h.hnf hc h.hnh (fun x hx => (h.hgood x hx).1) (fun x hx => (h.hgood x hx).2) h.hs
theorem tR (b : Bk) (nm : ByteArray) (t : List Bx) (ta : Option Addr) (tc : Nat) (w : World) (ha : wE w b t ta) :
 Calls Tryz.prog 80 #[b.val, .string nm, .slice ta t.length tc] w fun e w' => e = .returned (.bool (iE nm t b.hl)) /\ Below w.heap.size w w' := by
 obtain ⟨V, hV⟩ : ∃ V, V = iE nm t b.hl := ⟨_, rfl⟩;rw [← hV];have HV : Hid (V = b.hl.all (fY nm t)) := hV;clear hV
 rcases ha.hh with hl | ⟨bl, off, hba, hc⟩
 · obtain rfl : V = true := by rw [HV.out, hl];rfl
   refine (BI b nm t ta tc w hl).mono ?_;rintro e w' ⟨rfl, hb⟩;exact ⟨rfl, hb⟩
 have hB0 : Below w.heap.size w (w.alloc (.cells #[.int .i64 b.now, .slice b.fa b.fl.length b.fc, .slice (some ⟨bl, off, none⟩) b.hl.length b.hc] 29)) := aB (br _ _) _;have A0 := wnq w (.cells #[.int .i64 b.now, .slice b.fa b.fl.length b.fc, .slice (some ⟨bl, off, none⟩) b.hl.length b.hc] 29);obtain ⟨W0, hW0⟩ : ∃ W0, W0 = w.alloc (.cells #[.int .i64 b.now, .slice b.fa b.fl.length b.fc, .slice (some ⟨bl, off, none⟩) b.hl.length b.hc] 29) := ⟨_, rfl⟩;have hnh := ha.hnh;unfold Bk.val;rw [hba]
 go_enter Tryz.func80, Tryz.ntmps80
 go_wp2
 rw [← hW0] at A0 hB0 ⊢;have HW0 : Hid (W0 = w.alloc (.cells #[.int .i64 b.now, .slice b.fa b.fl.length b.fc, .slice (some ⟨bl, off, none⟩) b.hl.length b.hc] 29)) := hW0;clear hW0
 go_loopw [7] (fun i wr => ∃ k : Nat, k <= b.hl.length /\ i = .int .i64 k /\ Below W0.heap.size W0 wr /\ Hid ((b.hl.take k).all (fY nm t) = true)) (fun i _ => b.hl.length - (intOf i).toNat)
 case atStart => exact ⟨0, nz _, rfl, br _ _, by simp [Hid]⟩
 case round =>
  obtain ⟨k, hk, rfl, hA, hno⟩ := hrel;have hN : Below w.heap.size w wr := hB0.trans (hA.mono hB0.size);have A1 := (hA.block _ (bP A0)).trans A0;have k2 : wr.cell? ⟨w.heap.size, 2, none⟩ = some (.slice (some ⟨bl, off, none⟩) b.hl.length b.hc) := bW A1 rfl
  by_cases hlt : k < b.hl.length
  · have hhx := (hc k hlt).zL hN
    have hmem : b.hl[k] ∈ b.hl := lgm hlt;have hg := ha.hgood _ hmem;obtain ⟨h, hbe⟩ : ∃ h, h = b.hl[k] := ⟨_, rfl⟩;rw [← hbe] at hhx hg;have HB : Hid (h = b.hl[k]) := hbe;clear hbe hmem;obtain ⟨c0, c1, c2⟩ := eC hhx;have hin := hg.1.zL hN;have hft := hg.2;obtain ⟨v0, h0⟩ : ∃ v, (h.n.toList == nm.toList) = v := ⟨_, rfl⟩
    cases v0 with
    | true =>
     go_wp2
     go_roundw
     case rel => exact ⟨k + 1, by omega, by go_num, hA, by rw [Hid, List.take_succ_eq_append_getElem hlt, List.all_append, hno.out, ← HB.out];simp [fY, pW, h0]⟩
     case measure => simp [intOf];omega
    | false =>
    have ho : pW nm h.n = true := by rw [pW, h0];rfl
    go_wp2_with fail
    obtain ⟨v1, h1⟩ : ∃ v, bI h.tl t = v := ⟨_, rfl⟩;refine (dV _ _ _ h1 _ _ _ _ _ hin.1 (ha.ht.zL hN) hft.tn ha.hnt).mono ?_;rintro e w1 ⟨rfl, hb1⟩;have hA1 := aY hA (nlq _) hb1;have hN1 := aD hN hb1
    cases v1 with
    | true =>
     clear c0 c1 c2 k2 A1;go_wp2
     go_ret;exact ⟨aC (by rw [HV.out, GN hlt (by rw [← HB.out, fY, ho, l8 t h.tl, h1];rfl)]), hN1⟩
    | false =>
    have A2 := (hb1.block _ (bP A1)).trans A1;have d0 := (hb1.cell (aA c0)).trans c0;have d1 := (hb1.cell (aA c1)).trans c1;have d2 := (hb1.cell (aA c2)).trans c2;clear k2 c0 c1 c2;have k2 : w1.cell? ⟨w.heap.size, 2, none⟩ = some (.slice (some ⟨bl, off, none⟩) b.hl.length b.hc) := bW A2 rfl;go_wp2_with fail
    obtain ⟨v2, h2⟩ : ∃ v, bI h.nl t = v := ⟨_, rfl⟩;refine (dV _ _ _ h2 _ _ _ _ _ (hin.2.zL hb1) (ha.ht.zL hN1) hft.nn ha.hnt).mono ?_;rintro e w2 ⟨rfl, hb2⟩;have hA2 := aY hA1 (nlq _) hb2;have hN2 := aD hN1 hb2;clear k2 d0 d1 d2
    cases v2 with
    | true =>
     go_wp2
     go_ret;exact ⟨aC (by rw [HV.out, GN hlt (by rw [← HB.out, fY, ho, l8 t h.nl, h2];simp)]), hN2⟩
    | false =>
     go_wp2
     go_roundw
     case rel => exact ⟨k + 1, by omega, by go_num, hA2, by rw [Hid, List.take_succ_eq_append_getElem hlt, List.all_append, hno.out, ← HB.out];simp [fY, l8 t h.nl, l8 t h.tl, h1, h2]⟩
     case measure => simp [intOf];omega
  · have hke : k = b.hl.length := by omega
    go_wp2
    go_ret;exact ⟨aC (by rw [HV.out];have := hno.out;rw [ltl (by omega)] at this;exact this.symm), hN⟩
end Go.Proofs.YtiojdbffjdoniaaGreatDoor
namespace Go.Proofs.YtiojdbffjdoniaaGreatDoor
set_option maxRecDepth 100000
set_option maxHeartbeats 2000000
open Go.RowKit Go.Shelf
attribute [local go_sem] Oper.semAt_some
theorem MP : ∀ a b : List UInt8, Op.bytesLess a b = false -> Op.bytesLess b a = false -> a = b
 | [], [], _, _ => rfl
 | [], _ :: _, h, _ => by simp [Op.bytesLess] at h
 | _ :: _, [], _, h => by simp [Op.bytesLess] at h
 | x :: xs, y :: ys, h1, h2 => by
  have n1 : ¬ (x.toNat < y.toNat ∨ (x.toNat = y.toNat /\ Op.bytesLess xs ys = true)) := fun h => by rw [(yH x y xs ys).2 h] at h1;cases h1
  have n2 : ¬ (y.toNat < x.toNat ∨ (y.toNat = x.toNat /\ Op.bytesLess ys xs = true)) := fun h => by rw [(yH y x ys xs).2 h] at h2;cases h2
  have e : x.toNat = y.toNat := by omega
  have b1 : Op.bytesLess xs ys = false := by cases h : Op.bytesLess xs ys with | false => rfl | true => exact absurd (.inr ⟨e, h⟩) n1
  have b2 : Op.bytesLess ys xs = false := by cases h : Op.bytesLess ys xs with | false => rfl | true => exact absurd (.inr ⟨e.symm, h⟩) n2
  rw [UInt8.toNat_inj.1 e, MP xs ys b1 b2]
theorem DY {a b : ByteArray} (h1 : eU a b = false) (h2 : eU b a = false) : a.toList = b.toList := MP _ _ h1 h2
theorem sF {a b : ByteArray} (h : eU a b = true) : (a.toList == b.toList) = false := by
 cases e : (a.toList == b.toList) with
 | false => rfl
 | true =>
  have e' : a.toList = b.toList := by simpa using e
  have : eU a b = false := by unfold eU;rw [e'];exact vQ _
  rw [this] at h;cases h
def lM (a b : ByteArray) : Int := if eU a b then -1 else if eU b a then 1 else 0
theorem NY (a b : ByteArray) (w : World) :
 Calls Tryz.prog 153 #[.string a, .string b] w fun e w' => e = .returned (.int .i64 (lM a b)) /\ w' = w := by
 cases h1 : eU a b with
 | true =>
  have HC : Hid (lM a b = -1) := by rw [Hid, lM, if_pos h1]
  have g1 : Op.bytesLess a.toList b.toList = true := h1;clear h1
  go_enter Tryz.func153, Tryz.ntmps153
  go_wp2
  go_ret;exact ⟨by rw [HC.out];rfl, rfl⟩
 | false =>
  have g1 : Op.bytesLess a.toList b.toList = false := h1
  cases h2 : eU b a with
  | true =>
   have HC : Hid (lM a b = 1) := by rw [Hid, lM, if_neg (by simp [h1]), if_pos h2]
   have g2 : (a.toList == b.toList) = false := by rw [BEq.comm];exact sF h2
   clear h1 h2
   go_enter Tryz.func153, Tryz.ntmps153
   go_wp2
   go_ret;exact ⟨by rw [HC.out];rfl, rfl⟩
  | false =>
   have HC : Hid (lM a b = 0) := by rw [Hid, lM, if_neg (by simp [h1]), if_neg (by simp [h2])]
   have g2 : (a.toList == b.toList) = true := by simpa using DY h1 h2
   clear h1 h2
   go_enter Tryz.func153, Tryz.ntmps153
   go_wp2
   go_ret;exact ⟨by rw [HC.out];rfl, rfl⟩
theorem rV (h : Hx) (nm : ByteArray) (w : World) :
 Calls Tryz.prog 152 #[h.val, .string nm] w fun e w' => e = .returned (.int .i64 (lM h.n nm)) /\ Below w.heap.size w w' := by
 have hB : Below w.heap.size w (w.alloc (.cells #[.string h.n, .slice h.ta h.tl.length h.tc, .slice h.na h.nl.length h.nc] 42)) := aB (br _ _) _
 go_enter Tryz.func152, Tryz.ntmps152
 go_wp2_with (go_at_call 153;refine (NY _ _ _).mono ?_;rintro e w' ⟨rfl, rfl⟩)
 go_ret;exact ⟨rfl, hB⟩
theorem GE {a b : ByteArray} : lM a b < 0 ↔ eU a b = true := by
 unfold lM
 split
 · rename_i h;simp [h]
 · rename_i h
   simp only [h]
   split <;> simp
theorem KP {a b : ByteArray} : lM a b = 0 ↔ a.toList = b.toList := by
 constructor
 · intro h
   unfold lM at h
   split at h
   · cases h
   · rename_i h1
     split at h
     · cases h
     · rename_i h2
       exact DY (by simpa using h1) (by simpa using h2)
 · intro e
   have h1 : eU a b = false := by unfold eU;rw [e];exact vQ _
   have h2 : eU b a = false := by unfold eU;rw [e];exact vQ _
   unfold lM;rw [h1, h2];rfl
structure yX (l : List Hx) (nm : ByteArray) (i : Nat) : Prop where
 le : i <= l.length
 lo : ∀ k (h : k < l.length), k < i -> eU l[k].n nm = true
 hi : ∀ k (h : k < l.length), i <= k -> eU l[k].n nm = false
theorem EG {l : List Hx} (h : iO Hx.n l = true) {i j : Nat} (hi : i < l.length) (hj : j < l.length) (hij : i < j) : eU l[i].n l[j].n = true := by
 have := uY h (i := i) (j - i - 1) (by omega);have e : i + (j - i - 1) + 1 = j := by omega
 simpa [e] using this
theorem FU (l : List Hx) (ao : Option Addr) (cap : Nat) (nm : ByteArray) (w : World) (hX : Xs 3 Hx.cells w ao l) (hn : l.length <= 64) (ha : iO Hx.n l = true) :
 Calls Tryz.prog 151 #[.slice ao l.length cap, .string nm, .func (.func 152) #[] #[]] w fun e w' => (∃ (i : Nat) (f : Bool), e = .returned (.tuple #[.int .i64 i, .bool f]) /\ yX l nm i /\ (f = true ↔ ∃ h : i < l.length, l[i].n.toList = nm.toList)) /\ Below w.heap.size w w' := by
 have HA : Hid (iO Hx.n l = true) := ha;clear ha
 go_enter Tryz.func151, Tryz.ntmps151
 go_wp2
 go_loopw [9, 10] (fun iv jv wr => ∃ i j : Nat, i <= j /\ j <= l.length /\ iv = .int .i64 i /\ jv = .int .i64 j /\ Hid (∀ k (h : k < l.length), k < i -> eU l[k].n nm = true) /\ Hid (∀ k (h : k < l.length), j <= k -> eU l[k].n nm = false) /\ Below w.heap.size w wr) (fun iv jv _ => (intOf jv).toNat - (intOf iv).toNat)
 case atStart => exact ⟨0, l.length, nz _, nlq _, rfl, rfl, fun k _ h => absurd h (by omega), fun k h h2 => absurd h (by omega), br _ _⟩
 case round =>
  obtain ⟨i, j, hij, hjl, rfl, rfl, hlo, hhi, hN⟩ := hrel
  by_cases hlt : i < j
  · obtain ⟨m, hm⟩ : ∃ m : Nat, m = (i + j) / 2 := ⟨_, rfl⟩
    have hm1 : i <= m := by omega
    have hm2 : m < j := by omega
    have hml : m < l.length := by omega
    rcases hX with h | ⟨bl, off, rfl, hc⟩
    · rw [h] at hml;simp at hml
    obtain ⟨c0, c1, c2⟩ := eC ((hc m hml).zL hN);have hsh : ((i : Int) + (j : Int)) / 2 = (m : Int) := by omega
    cases hcm : eU l[m].n nm with
    | true =>
     have hneg : decide (lM l[m].n nm < 0) = true := by simpa using GE.2 hcm
     have HLo : Hid (∀ k (h : k < l.length), k < m + 1 -> eU l[k].n nm = true) := fun k h hk => by
      by_cases e : k = m
      · subst e;exact hcm
      · exact nE _ _ _ (EG HA.out h hml (by omega)) hcm
     clear hcm hc hm;go_wp2_with fail
     refine (rV l[m] nm wr).mono ?_;rintro e w1 ⟨rfl, hb1⟩;have hN1 := aD hN hb1;clear hN hb1 c0 c1 c2 hsh hlo;generalize lM l[m].n nm = cc at hneg;go_wp2
     go_roundw
     case rel => exact ⟨m + 1, j, by omega, hjl, by go_num, rfl, HLo, hhi, hN1⟩
     case measure => simp [intOf];omega
    | false =>
     have hneg : decide (lM l[m].n nm < 0) = false := by
      rw [decide_eq_false_iff_not, GE, hcm];simp
     have HHi : Hid (∀ k (h : k < l.length), m <= k -> eU l[k].n nm = false) := fun k h hk => by
      by_cases e : k = m
      · subst e;exact hcm
      · cases g : eU l[k].n nm with
        | false => rfl
        | true =>
         have := nE _ _ _ (EG HA.out hml h (by omega)) g;exact this.symm.trans hcm
     clear hcm hc hm;go_wp2_with fail
     refine (rV l[m] nm wr).mono ?_;rintro e w1 ⟨rfl, hb1⟩;have hN1 := aD hN hb1;clear hN hb1 c0 c1 c2 hsh hhi;generalize lM l[m].n nm = cc at hneg;go_wp2
     go_roundw
     case rel => exact ⟨i, m, hm1, by omega, rfl, rfl, hlo, HHi, hN1⟩
     case measure => simp [intOf];omega
  · have hij' : i = j := by omega
    subst hij';have HP : Hid (yX l nm i) := ⟨hjl, hlo.out, hhi.out⟩;clear hlo hhi
    by_cases hil : i < l.length
    · rcases hX with h | ⟨bl, off, rfl, hc⟩
      · rw [h] at hil;simp at hil
      obtain ⟨c0, c1, c2⟩ := eC ((hc i hil).zL hN);have HZ : Hid (lM l[i].n nm = 0 ↔ l[i].n.toList = nm.toList) := KP;clear hc;go_wp2_with fail
      refine (rV l[i] nm wr).mono ?_;rintro e w1 ⟨rfl, hb1⟩;have hN1 := aD hN hb1;clear hN hb1 c0 c1 c2
      by_cases hz : lM l[i].n nm = 0
      · have HE : Hid (∃ h : i < l.length, l[i].n.toList = nm.toList) := ⟨hil, HZ.out.1 hz⟩
        rw [hz];clear HZ hz;go_wp2
        go_ret2
        exact ⟨⟨i, true, rfl, HP.out, fun _ => HE.out, fun _ => rfl⟩, hN1⟩
      · have HE : Hid (¬ ∃ h : i < l.length, l[i].n.toList = nm.toList) := fun ⟨_, h⟩ => hz (HZ.out.2 h)
        clear HZ;generalize lM l[i].n nm = cc at hz;have hd : (cc == 0) = false := by simpa using hz
        go_wp2
        go_ret2
        exact ⟨⟨i, false, rfl, HP.out, (fun h => by cases h), fun h => absurd h HE.out⟩, hN1⟩
    · have HE : Hid (¬ ∃ h : i < l.length, l[i].n.toList = nm.toList) := fun ⟨h, _⟩ => hil h
      have hd : decide ((i : Int) < (l.length : Int)) = false := by simp;omega
      go_wp2
      go_ret2
      exact ⟨⟨i, false, rfl, HP.out, (fun h => by cases h), fun h => absurd h HE.out⟩, hN⟩
set_option maxHeartbeats 4000000
theorem wI (n : Nat) (hn : 10 <= n) (b : Bk) (nm : ByteArray) (t : List Bx) (ta : Option Addr) (tc : Nat) (w : World) (hh : Xs 3 Hx.cells w b.ha b.hl) (hnh : b.hl.length <= 1048576) (hgood : ∀ h ∈ b.hl, h.In w /\ h.Fit) (ht : iH w ta t) (hnt : t.length <= 1048576) :
 CallsIn Fence.wide n Tryz.prog 159 #[b.val, .string nm, .slice ta t.length tc] w fun e W' => e = .returned (.bool (iE nm t b.hl)) /\ Below w.heap.size w W' := by
 have h1 : 1 <= n := by omega
 refine callsIn_of_wp_marks Tryz.func159 rfl trivial ?_ rfl;simp only [Tryz.ntmps159, lsz, llc, lln, Nat.reduceAdd, Nat.reduceSub, ars, arz, lpt, lap, lna, lca];gi_wp2_with fail
 refine ⟨trivial, ?_⟩;refine (MK (n - 1) b nm _).mono ?_;rintro e W0 ⟨Bb, Bn, rfl, hb0, hBb, hBn, hnb⟩
 have bT : (((w.alloc (.cells #[.int .i64 b.now, .slice b.fa b.fl.length b.fc, .slice b.ha b.hl.length b.hc] 29)).alloc (.cells #[.slice ta t.length tc] 34)).alloc (.cells #[.bool false] 4)).heap[w.heap.size + 1]? = some (.cells #[.slice ta t.length tc] 34) :=
  (halq _ _ (w.heap.size + 1) (by simp)).trans (by have := wnq (w.alloc (.cells #[.int .i64 b.now, .slice b.fa b.fl.length b.fc, .slice b.ha b.hl.length b.hc] 29)) (.cells #[.slice ta t.length tc] 34);rwa [wsa] at this)
 have bR := Boxed.new ((w.alloc (.cells #[.int .i64 b.now, .slice b.fa b.fl.length b.fc, .slice b.ha b.hl.length b.hc] 29)).alloc (.cells #[.slice ta t.length tc] 34)) 4 (.bool false);have hBa : Below w.heap.size w (((w.alloc (.cells #[.int .i64 b.now, .slice b.fa b.fl.length b.fc, .slice b.ha b.hl.length b.hc] 29)).alloc (.cells #[.slice ta t.length tc] 34)).alloc (.cells #[.bool false] 4)) := (((br _ w).alloc (nlq _) _).alloc (by simp) _).alloc (by simp;omega) _;have hsz : (((w.alloc (.cells #[.int .i64 b.now, .slice b.fa b.fl.length b.fc, .slice b.ha b.hl.length b.hc] 29)).alloc (.cells #[.slice ta t.length tc] 34)).alloc (.cells #[.bool false] 4)).heap.size = w.heap.size + 3 := by simp
 simp only [wsa] at bR;gi_wp2_with fail
 obtain ⟨Wa, hWa⟩ : ∃ Wa, ((w.alloc (.cells #[.int .i64 b.now, .slice b.fa b.fl.length b.fc, .slice b.ha b.hl.length b.hc] 29)).alloc (.cells #[.slice ta t.length tc] 34)).alloc (.cells #[.bool false] 4) = Wa := ⟨_, rfl⟩;rw [hWa] at bT bR hBa hsz hb0 hnb;clear hWa;have hB0 : Below w.heap.size w W0 := aD hBa hb0;have hz0 : w.heap.size + 3 <= W0.heap.size := by have := hb0.size;omega
 have bT0 := (hb0.block (w.heap.size + 1) (by omega)).trans bT;have bR0 : Boxed W0 (w.heap.size + 1 + 1) 4 (.bool false) := (hb0.block (w.heap.size + 1 + 1) (by omega)).trans bR;clear bT bR hBa hsz hb0
 refine j4 (X := fun _ => False) rfl h1 (gf := 226) (lb := #[.pointer (some ⟨Bb, 0, none⟩), .pointer (some ⟨Bn, 0, none⟩)]) rfl trivial (enters_of Tryz.func226 (by kernel_rfl) rfl)
  (vM (n - 1) (by omega) b nm Bb Bn w W0 hgood hnh (fun _ => False) (fun _ h => h.elim) id (fun _ _ _ => id) hBb hBn (hh.zL hB0)) (br _ _) (fun _ => rfl)
  (fun pre W => (∀ x ∈ pre, bI t (x.1.1.pl x.1.2) = false) /\ Below W0.heap.size W0 W)
  (fun c pre W => ((c = .ret /\ ∃ x ∈ pre, bI t (x.1.1.pl x.1.2) = true) /\ Boxed W (w.heap.size + 1 + 1) 4 (.bool false)) /\ Below w.heap.size w W)
  (OwnFrom.and (ownFrom_pure _ _) (ownFrom_below (nlq _) (nlq _)))
  (fun c => OwnFrom.and (OwnFrom.and (ownFrom_pure _ _) (Own.from (boxed_own _ _ _) _)) (ownFrom_below (nlq _) (by omega)))
  ⟨by simp, br _ _⟩
  (fun x a' _ => a' = { tmps := #[b.val, .string nm, .slice ta t.length tc, .pointer (some ⟨w.heap.size, 0, none⟩), undef, .pointer (some ⟨w.heap.size + 1, 0, none⟩), .pointer (some ⟨w.heap.size + 1 + 1, 0, none⟩), x.1.1.part x.1.2, b.val, .string nm, .func (.func 226) #[] #[.pointer (some ⟨Bb, 0, none⟩), .pointer (some ⟨Bn, 0, none⟩)], x.1.1.part x.1.2, undef, undef, undef], defers := [] })
  (fun x a' => ownFrom_pure _ _)
  ?assign ?body ?done ?stop
 case assign =>
  rintro lp pre x W K hi hK;gi_wp2;exact hK _ _ ((KeepsOthers.refl _).from _) (aU.refl _ _) hi rfl
 case body =>
  rintro lp pre x a' W hl' _ ⟨hp, hB1⟩ rfl hlt';have bT1 := (hB1.block (w.heap.size + 1) (by omega)).trans bT0;have bR1 : Boxed W (w.heap.size + 1 + 1) 4 (.bool false) := (hB1.block (w.heap.size + 1 + 1) (by omega)).trans bR0;have cT : W.cell? ⟨w.heap.size + 1, 0, none⟩ = some (.slice ta t.length tc) := bW bT1 rfl;have hBw : Below w.heap.size w W := hB0.trans (hB1.mono (by omega));have cR := bR1.cell;have fR := bR1.frozen;have h1' : 1 <= n - 1 - 1 := by omega
  obtain ⟨u, hu⟩ : ∃ u, bI t (x.1.1.pl x.1.2) = u := ⟨_, rfl⟩;gi_wp2_with fail
  refine ⟨trivial, ?_⟩;refine (CallsIn.inRound lp (cw.2 (qE t (x.1.1.pl x.1.2) _ _ _ _ W (ht.zL hBw) (x.bxs hBw) hnt x.len))).mono ?_;rintro e w1 ⟨rfl, hb1⟩;have hu' : (t.any fun a => (x.1.1.pl x.1.2).any (aV a)) = u := hu;rw [hu'];have cR1 := (hb1.cell (p := ⟨w.heap.size + 1 + 1, 0, none⟩) (aA cR)).trans cR;have fR1 := (hb1.frozen (p := ⟨w.heap.size + 1 + 1, 0, none⟩) (aA cR)).trans fR;have bR3 : Boxed w1 (w.heap.size + 1 + 1) 4 (.bool false) := (hb1.block _ (aA cR)).trans bR1;clear cR fR cT
  cases u
  · gi_wp2
    exact ⟨(bE hb1).from _, aU.of_below hb1, fun z hz => (lma.1 hz).elim (hp z) (fun e => by simp at e;subst e;exact hu), hB1.trans (hb1.mono hB1.size)⟩
  · gi_wp2
    exact ⟨((bE hb1).trans (KeepsOthers.setCell _ _ _)).from _, ⟨⟨rfl, x, lma.2 (.inr (by simp)), hu⟩, bR3.set _⟩, (aD hBw hb1).setCell (p := ⟨w.heap.size + 1 + 1, 0, none⟩) (by show w.heap.size <= w.heap.size + 1 + 1;omega) _⟩
 case done =>
  rintro D zs W hD rfl ⟨hp, hB1⟩ hK;have bR3 : Boxed W (w.heap.size + 1 + 1) 4 (.bool false) := (hB1.block _ (by omega)).trans bR0;have cR := bR3.cell;have fR := bR3.frozen;gi_wp2;have hK' := (KeepsOthers.setCell W ⟨w.heap.size + 1 + 1, 0, none⟩ (.bool true)).same D _ hK rfl;refine ⟨by simp, .inl ⟨_, _, rfl, run_takeDeferred hK', ?_⟩⟩;have hc5 := cell_kept (bR3.set (.bool true)).cell (grownBy_putObj' _ D (.deferred none)) (fun r e => by cases e;exact ⟨_, hK', rfl⟩);refine ⟨.bool true, ?_, by rw [IF hp], (((hB0.trans (hB1.mono (by omega))).setCell (p := ⟨w.heap.size + 1 + 1, 0, none⟩) (by show w.heap.size <= w.heap.size + 1 + 1;omega) _).trans (belowK_b (w := w) (nlq _) _ D _ _ (by omega) hK' rfl rfl))⟩
  simp [results, Tryz.f159, go_sem, hc5]
 case stop =>
  rintro D c pre W hD ⟨q, hq, rfl⟩ ⟨⟨⟨rfl, x, hx, hy⟩, bR3⟩, hB1⟩ hK;gi_wp2;refine ⟨by simp, .inl ⟨_, _, rfl, run_takeDeferred hK, ?_⟩⟩;have hc5 := cell_kept bR3.cell (grownBy_putObj' _ D (.deferred none)) (fun r e => by cases e;exact ⟨_, hK, rfl⟩);refine ⟨.bool false, ?_, by rw [KK hq hx hy], hB1.trans (belowK_b (w := w) (nlq _) W D _ _ (by omega) hK rfl rfl)⟩
  simp [results, Tryz.f159, go_sem, hc5]
theorem vR (b : Bk) (nm : ByteArray) (t : List Bx) (ta : Option Addr) (tc : Nat) (w : World) (hh : Xs 3 Hx.cells w b.ha b.hl) (hnh : b.hl.length <= 1048576) (hgood : ∀ h ∈ b.hl, h.In w /\ h.Fit) (ht : iH w ta t) (hnt : t.length <= 1048576) :
 Calls Tryz.prog 159 #[b.val, .string nm, .slice ta t.length tc] w fun e W' => e = .returned (.bool (iE nm t b.hl)) /\ Below w.heap.size w W' := cw.1 (wI 10 (by omega) b nm t ta tc w hh hnh hgood ht hnt)
end Go.Proofs.YtiojdbffjdoniaaGreatDoor
namespace Go.Proofs.YtiojdbffjdoniaaGreatDoor
set_option maxRecDepth 100000
open Go.RowKit
theorem aL.map {β : Type} {l m : List Hx} (h : aL l m) (f : Hx -> β) (hf : ∀ a b : Hx, a.Like b -> f a = f b) : l.map f = m.map f :=
 List.ext_getElem (by simp [h.len]) (fun i h1 h2 => by simp only [List.getElem_map];exact hf _ _ (h.like i (by simpa using h1)))
theorem vP {α : Type} (nm : α -> ByteArray) : ∀ l : List α, iO nm l = iO (fun x => x) (l.map nm)
 | [] => rfl
 | [_] => rfl
 | a :: b :: r => by simp only [iO, List.map_cons];rw [vP nm (b :: r)];rfl
theorem sI {l m : List Hx} (h : aL l m) : a9 Hx.n l = a9 Hx.n m := by
 have e := h.map Hx.n (fun _ _ g => g.n);have e2 := h.map (fun x => bL x.n) (fun _ _ g => by rw [g.n]);rw [a9, a9, vP, vP Hx.n m, e]
 congr 1
 have a1 : ∀ l : List Hx, (l.all fun x => bL x.n) = (l.map (fun x => bL x.n)).all (fun x => x) := fun l => by rw [List.all_map];rfl
 rw [a1 l, a1 m, e2]
theorem vF {l m : List Hx} (h : aL l m) (fl : List Fx) (now : Int) : l.all (bV fl now) = m.all (bV fl now) := by
 have e := h.map (bV fl now) (fun _ _ g => by rw [bV, bV, g.t, g.x]);have a1 : ∀ l : List Hx, l.all (bV fl now) = (l.map (bV fl now)).all (fun x => x) := fun l => by rw [List.all_map];rfl
 rw [a1 l, a1 m, e]
theorem uL {a b c d : Hx} (h : a.Like b) (g : c.Like d) : bF a c = bF b d := by rw [bF, bF, h.t, h.x, g.t, g.x]
theorem vC {l m : List Hx} (h : aL l m) : eM l l.length = eM m m.length := by
 rw [Bool.eq_iff_iff, oD l _ (nlq _), oD m _ (nlq _)];have hl := h.len
 constructor
 · intro g i j hj hm hi
   rw [← uL (h.like i (by omega)) (h.like j (by omega))];exact g i j (by omega) (by omega) hi
 · intro g i j hj hm hi
   rw [uL (h.like i (by omega)) (h.like j (by omega))];exact g i j (by omega) (by omega) hi
theorem aL.symm {l m : List Hx} (h : aL l m) : aL m l := ⟨h.len.symm, fun k hk => ⟨(h.like k (by have := h.len;omega)).n.symm, (h.like k (by have := h.len;omega)).t.symm, (h.like k (by have := h.len;omega)).x.symm⟩⟩
theorem aL.trans {l m n : List Hx} (h : aL l m) (g : aL m n) : aL l n := ⟨g.len.trans h.len, fun k hk => by
 have a := h.like k hk;have c := g.like k (by have := h.len;omega)
 exact ⟨a.n.trans c.n, a.t.trans c.t, a.x.trans c.x⟩⟩
end Go.Proofs.YtiojdbffjdoniaaGreatDoor
