import Derived.Test.YtiojdbffjdoniaaGreatDoorFollF
import Derived.Test.YtiojdbffjdoniaaGreatDoorAftIn
namespace Go.Proofs.YtiojdbffjdoniaaGreatDoor
set_option maxRecDepth 100000
set_option maxHeartbeats 4000000
open Go.RowKit Go.Shelf
attribute [local go_sem] Oper.semAt_some
theorem N7 (F : Fence) (n : Nat) (hf : F.fn 209) (hro : F.round = none) (a : Option Addr) (len cap : Nat) (w : World) :
 CallsIn F n Tryz.prog 209 #[.slice a len cap] w fun e w' => e = .returned (.func (.func 227) #[] #[.pointer (some ⟨w.heap.size, 0, none⟩)]) /\ w' = w.alloc (.cells #[.slice a len cap] 34) := by
 refine callsIn_of_wp Tryz.func209 rfl hf ?_ hro;simp only [Tryz.ntmps209, lsz, llc, lln, Nat.reduceAdd, Nat.reduceSub, ars, arz, lpt, lap, lna, lca];gi_wp2;go_ret;exact ⟨rfl, rfl⟩
theorem FE (n : Nat) (Bs bl off cap : Nat) (l : List Bx) (hok : l.all aF = true) (hl1 : 1 <= l.length) (hlen : l.length <= 1048576) (w : World)
 (hBs : w.cell? ⟨Bs, 0, none⟩ = some (.slice (some ⟨bl, off, none⟩) l.length cap)) (hc : ∀ j (h : j < l.length), eI w bl (off + j * 6) l[j]) :
 SeqStopsK Fence.wide n Tryz.prog 227 #[.pointer (some ⟨Bs, 0, none⟩)] (fun x : P2 => #[x.1.1.val, x.1.2.val]) (Below w.heap.size) (fun ys => ys = bM (jC l hok) (l.length - 1)) (fun pre => ∃ k, k <= l.length - 1 /\ pre = bM (jC l hok) k) (l.length - 1) w := fun lp J Jx W hW hJ _ hY h0 => by
 have hb : bl < w.heap.size := aA (hc 0 (by omega)).1;have hBn : Bs < w.heap.size := aA hBs;exact K0 n lp Bs w.heap.size bl off cap l hok hl1 hlen hb hBn J Jx W hJ hY ((hW.cell (p := ⟨Bs, 0, none⟩) hBn).trans hBs) (fun j h => nF (hc j h) hW hb) h0
theorem DX {l : List Bx} {hok : l.all aF = true} (h : ∀ x ∈ bM (jC l hok) (l.length - 1), cJ x.1.1 x.1.2 = true) : dG l = true := by
 refine (dN l).2 fun i hi => ?_;have := h (jC l hok i) (by simp only [bM, List.mem_map, List.mem_range];exact ⟨i, by omega, rfl⟩);simp only [jC] at this
 rwa [fI l i (by omega), fI l (i + 1) hi] at this
theorem E4 {l : List Bx} {hok : l.all aF = true} {k : Nat} (hk : k <= l.length - 1) {x : P2} (hx : x ∈ bM (jC l hok) k) (h : cJ x.1.1 x.1.2 = false) : dG l = false := by
 simp only [bM, List.mem_map, List.mem_range] at hx;obtain ⟨i, hi, rfl⟩ := hx;simp only [jC] at h;rw [fI l i (by omega), fI l (i + 1) (by omega)] at h;exact pS l i (by omega) h
theorem bE {W W' : World} (h : Below W.heap.size W W') : KeepsOthers W W' := ⟨h.size, fun k _ hk _ => (h.block k (bP hk)).trans hk⟩
theorem mF {W W' : World} {row : Option Nat} {bl of : Nat} {b : Bx} (h : eI W bl of b) (hg : W.grownBy W' row) (hrow : ∀ r, row = some r -> ∃ o : Obj, W.heap[r]? = some o /\ o.isCells = false) : eI W' bl of b := by
 obtain ⟨h0, h1, h2, h3, h4, h5⟩ := h;exact ⟨cell_kept h0 hg hrow, cell_kept h1 hg hrow, cell_kept h2 hg hrow, cell_kept h3 hg hrow, cell_kept h4 hg hrow, cell_kept h5 hg hrow⟩
theorem xN (W : World) (g : Nat) (hg : g = W.heap.size) (b : Bx) : eI (W.alloc (.cells #[.int .i64 b.x, .int .i64 b.y, .int .i64 b.lo, .int .i64 b.hi, .int .i64 b.i, .int .i64 b.o] 89)) g 0 b := by
 subst hg;refine ⟨?_, ?_, ?_, ?_, ?_, ?_⟩ <;> simp
theorem vK (n : Nat) (hn : 6 <= n) (bl off cap : Nat) (l : List Bx) (hok : l.all aF = true) (hl1 : 1 <= l.length) (hlen : l.length <= 1048576) (w : World) (hc : ∀ j (h : j < l.length), eI w bl (off + j * 6) l[j]) :
 CallsIn Fence.wide n Tryz.prog 172 #[.slice (some ⟨bl, off, none⟩) l.length cap] w fun e W' => e = .returned (.bool (dG l)) /\ Below w.heap.size w W' := by
 have h1 : 1 <= n := by omega
 refine callsIn_of_wp_marks Tryz.func172 rfl trivial ?_ rfl;simp only [Tryz.ntmps172, lsz, llc, lln, Nat.reduceAdd, Nat.reduceSub, ars, arz, lpt, lap, lna, lca];gi_wp2_with fail
 refine ⟨trivial, ?_⟩;refine (N7 Fence.wide (n - 1) trivial rfl _ _ _ _).mono ?_;rintro e w' ⟨rfl, rfl⟩;gi_wp2_with fail
 have bR := (Boxed.new w 4 (.bool false)).alloc (.cells #[.slice (some ⟨bl, off, none⟩) l.length cap] 34);have bS := Boxed.new (w.alloc (.cells #[.bool false] 4)) 34 (.slice (some ⟨bl, off, none⟩) l.length cap);simp only [wsa] at bS;have hB0 : Below w.heap.size w ((w.alloc (.cells #[.bool false] 4)).alloc (.cells #[.slice (some ⟨bl, off, none⟩) l.length cap] 34)) := ((br _ w).alloc (nlq _) _).alloc (by simp) _;have hsz : ((w.alloc (.cells #[.bool false] 4)).alloc (.cells #[.slice (some ⟨bl, off, none⟩) l.length cap] 34)).heap.size = w.heap.size + 2 := by simp
 obtain ⟨W0, hW0⟩ : ∃ W0, (w.alloc (.cells #[.bool false] 4)).alloc (.cells #[.slice (some ⟨bl, off, none⟩) l.length cap] 34) = W0 := ⟨_, rfl⟩;rw [hW0] at bR bS hB0 hsz ⊢;clear hW0
 refine wpIn_rangeFunc_ownH rfl h1 (gf := 227) (lb := #[.pointer (some ⟨w.heap.size + 1, 0, none⟩)]) rfl trivial (enters_of Tryz.func227 (by kernel_rfl) rfl)
  (FE (n - 1) (w.heap.size + 1) bl off cap l hok hl1 hlen W0 bS.cell (fun j h => (hc j h).zL hB0)) belowK_t (belowK_b (nlq _)) (br _ _) (fun _ => rfl)
  (fun pre W => (∀ x ∈ pre, cJ x.1.1 x.1.2 = true) /\ Below W0.heap.size W0 W)
  (fun c pre W => ((c = .ret /\ ∃ x ∈ pre, cJ x.1.1 x.1.2 = false) /\ Boxed W w.heap.size 4 (.bool false)) /\ Below w.heap.size w W)
  (OwnFrom.and (ownFrom_pure _ _) (ownFrom_below (nlq _) (nlq _)))
  (fun c => OwnFrom.and (OwnFrom.and (ownFrom_pure _ _) (Own.from (boxed_own _ _ _) _)) (ownFrom_below (nlq _) (by omega)))
  ⟨by simp, br _ _⟩
  (fun x a' W => ∃ B1 B2, eI W B1 0 x.1.1 /\ eI W B2 0 x.1.2 /\ a' = { tmps := #[.slice (some ⟨bl, off, none⟩) l.length cap, undef, .pointer (some ⟨w.heap.size, 0, none⟩), .pointer (some ⟨B1, 0, none⟩), .pointer (some ⟨B2, 0, none⟩), .slice (some ⟨bl, off, none⟩) l.length cap, .func (.func 227) #[] #[.pointer (some ⟨w.heap.size + 1, 0, none⟩)], x.1.1.val, x.1.2.val, undef, undef, undef, undef], defers := [] })
  (fun x a' _ X Y row hs hg hr => by obtain ⟨B1, B2, e1, e2, e3⟩ := hs;exact ⟨B1, B2, mF e1 hg (fun r e => (hr r e).2), mF e2 hg (fun r e => (hr r e).2), e3⟩)
  ?assign ?body ?done ?stop
 case assign =>
  rintro lp pre x W K ⟨hp, hB1⟩ hK;gi_wp2
  exact hK _ _ (((KeepsOthers.alloc _ _).trans (KeepsOthers.alloc _ _)).from _) (((br _ W).alloc hB1.size _).alloc (by have := hB1.size;simp;omega) _) ⟨hp, (hB1.alloc hB1.size _).alloc (by have := hB1.size;simp;omega) _⟩
   ⟨W.heap.size, W.heap.size + 1, (xN W _ rfl x.1.1).zL ((br _ _).alloc (nlq _) _), xN _ _ (by simp) x.1.2, rfl⟩
 case body =>
  rintro lp pre x a' W hl ⟨r, hr⟩ ⟨hp, hB1⟩ ⟨B1, B2, e1, e2, rfl⟩ hlt;have h1' : 1 <= n - 1 - 1 := by omega
  have hxa := x.2.1;have hxb := x.2.2;have cR : W.cell? ⟨w.heap.size, 0, none⟩ = some (.bool false) := (hB1.cell (p := ⟨w.heap.size, 0, none⟩) (by show w.heap.size < _;omega)).trans bR.cell;have fR : W.frozen? ⟨w.heap.size, 0, none⟩ = false := (hB1.frozen (p := ⟨w.heap.size, 0, none⟩) (by show w.heap.size < _;omega)).trans bR.frozen;obtain ⟨c0, c1, c2, c3, c4, c5⟩ := e1;obtain ⟨d0, d1, d2, d3, d4, d5⟩ := e2;gi_wp2_with fail
  refine ⟨trivial, ?_⟩;refine (CallsIn.inRound lp (cw.2 (EV x.1.1 x.1.2 W hxa hxb))).mono ?_;rintro e w1 ⟨rfl, hb1⟩;have cR1 := (hb1.cell (p := ⟨w.heap.size, 0, none⟩) (aA cR)).trans cR;have fR1 := (hb1.frozen (p := ⟨w.heap.size, 0, none⟩) (aA cR)).trans fR;have bR2 : Boxed w1 w.heap.size 4 (.bool false) := (hb1.block w.heap.size (aA cR)).trans ((hB1.block w.heap.size (by omega)).trans bR);have hBw : Below w.heap.size w w1 := (hB0.trans (hB1.mono (by omega))).trans (hb1.mono (by have := hB1.size;omega));gi_wp2
  · exact ⟨((bE hb1).trans (KeepsOthers.setCell _ _ _)).from _, ⟨⟨rfl, x, lma.2 (.inr (by simp)), nf (by assumption)⟩, bR2.set _⟩, hBw.setCell (p := ⟨w.heap.size, 0, none⟩) (nlq _) _⟩
  · have hcl : cJ x.1.1 x.1.2 = true := nt (by assumption)
    exact ⟨(bE hb1).from _, hb1.mono hB1.size, fun y hy => (lma.1 hy).elim (hp y) (fun e => by simp at e;subst e;exact hcl), hB1.trans (hb1.mono hB1.size)⟩
 case done =>
  rintro D zs W hD rfl ⟨hp, hB1⟩ hK;have bR1 : Boxed W w.heap.size 4 (.bool false) := (hB1.block w.heap.size (by omega)).trans bR;have cR := bR1.cell;have fR := bR1.frozen;gi_wp2;have hK' := (KeepsOthers.setCell W ⟨w.heap.size, 0, none⟩ (.bool true)).same D _ hK rfl;refine ⟨by simp, .inl ⟨_, _, rfl, run_takeDeferred hK', ?_⟩⟩;have hc5 := cell_kept (bR1.set (.bool true)).cell (grownBy_putObj' _ D (.deferred none)) (fun r e => by cases e;exact ⟨_, hK', rfl⟩);refine ⟨.bool true, ?_, by rw [DX hp], (((hB0.trans (hB1.mono (by omega))).setCell (p := ⟨w.heap.size, 0, none⟩) (nlq _) _).trans (belowK_b (w := w) (nlq _) _ D _ _ (by omega) hK' rfl rfl))⟩
  simp [results, Tryz.f172, go_sem, hc5]
 case stop =>
  rintro D c pre W hD ⟨k, hk, rfl⟩ ⟨⟨⟨rfl, x, hx, hy⟩, bR1⟩, hB1⟩ hK;gi_wp2;refine ⟨by simp, .inl ⟨_, _, rfl, run_takeDeferred hK, ?_⟩⟩;have hc5 := cell_kept bR1.cell (grownBy_putObj' _ D (.deferred none)) (fun r e => by cases e;exact ⟨_, hK, rfl⟩);refine ⟨.bool false, ?_, by rw [E4 hk hx hy], hB1.trans (belowK_b (w := w) (nlq _) W D _ _ (by omega) hK rfl rfl)⟩
  simp [results, Tryz.f172, go_sem, hc5]
theorem s4 (ao : Option Addr) (cap : Nat) (l : List Bx) (hok : l.all aF = true) (hl1 : 1 <= l.length) (hlen : l.length <= 1048576) (w : World) (hl : iH w ao l) :
 Calls Tryz.prog 172 #[.slice ao l.length cap] w fun e W' => e = .returned (.bool (dG l)) /\ Below w.heap.size w W' := by
 rcases hl with h | ⟨bl, off, rfl, hc⟩
 · subst h;simp at hl1
 · exact cw.1 (vK 6 (by omega) bl off cap l hok hl1 hlen w hc)
def eU (a b : ByteArray) : Bool := Op.bytesLess a.toList b.toList
def iO {α : Type} (nm : α -> ByteArray) : List α -> Bool
 | a :: b :: r => eU (nm a) (nm b) && iO nm (b :: r)
 | _ => true
theorem fP {α : Type} (nm : α -> ByteArray) : ∀ l : List α, iO nm l = true ↔ ∀ i (h : i + 1 < l.length), eU (nm l[i]) (nm l[i + 1]) = true
 | [] => by simp [iO]
 | [a] => by simp [iO]
 | a :: b :: r => by
  rw [iO, bat, fP nm (b :: r)]
  constructor
  · rintro ⟨h0, h⟩ i hi
    cases i with
    | zero => exact h0
    | succ i => exact h i (by simpa using hi)
  · intro h
    exact ⟨h 0 (by simp), fun i hi => h (i + 1) (by simpa using hi)⟩
def a9 {α : Type} (nm : α -> ByteArray) (l : List α) : Bool := (l.all fun x => bL (nm x)) && iO nm l
theorem dE {W W' : World} {row : Option Nat} {bl of : Nat} {c : List Value} (h : aM W bl of c) (hg : W.grownBy W' row) (hrow : ∀ r, row = some r -> ∃ o : Obj, W.heap[r]? = some o /\ o.isCells = false) : aM W' bl of c :=
 fun j v hj => cell_kept (h j v hj) hg hrow
theorem eN (W : World) (g t : Nat) (hg : g = W.heap.size) (v0 v1 v2 : Value) : aM (W.alloc (.cells #[v0, v1, v2] t)) g 0 [v0, v1, v2] := by
 subst hg;intro j v hj
 match j, hj with
 | 0, hj => simp at hj;subst hj;simp
 | 1, hj => simp at hj;subst hj;simp
 | 2, hj => simp at hj;subst hj;simp
theorem oI {l : List Fx} {k : Nat} (h : k < l.length) (hv : bL l[k].n = false) : a9 Fx.n l = false := by
 have : (l.all fun x => bL x.n) = false := by
  rw [Bool.eq_false_iff];intro ha;have := lat.1 ha l[k] (lgm h);rw [hv] at this;cases this
 rw [a9, this];rfl
theorem FC {l : List Fx} (hall : (l.all fun x => bL x.n) = true) (h : ∀ x ∈ bM (jG l) (l.length - 1), eU x.1.n x.2.n = true) : a9 Fx.n l = true := by
 have ha : iO Fx.n l = true := by
  refine (fP Fx.n l).2 fun i hi => ?_;have := h (jG l i) (by simp only [bM, List.mem_map, List.mem_range];exact ⟨i, by omega, rfl⟩);simp only [jG] at this
  rwa [eG l i (by omega), eG l (i + 1) hi] at this
 rw [a9, hall, ha];rfl
theorem E9 {l : List Fx} {k : Nat} (hk : k <= l.length - 1) {x : Fx × Fx} (hx : x ∈ bM (jG l) k) (h : eU x.1.n x.2.n = false) : a9 Fx.n l = false := by
 simp only [bM, List.mem_map, List.mem_range] at hx;obtain ⟨i, hi, rfl⟩ := hx;simp only [jG] at h;rw [eG l i (by omega), eG l (i + 1) (by omega)] at h
 have : iO Fx.n l = false := by
  rw [Bool.eq_false_iff];intro ha;have := (fP Fx.n l).1 ha i (by omega);rw [h] at this;cases this
 rw [a9, this, Bool.and_false]
theorem oH (f : Fx) (w : World) :
 Calls Tryz.prog 87 #[f.val] w fun e w' => e = .returned (.string f.n) /\ Below w.heap.size w w' := by
 go_enter Tryz.func87, Tryz.ntmps87
 go_wp2
 go_ret;exact ⟨rfl, (br _ _).alloc (nlq _) _⟩
theorem JO (n : Nat) (hn : 6 <= n) (ao : Option Addr) (cap : Nat) (l : List Fx) (hlen : l.length <= 1048576) (hs : ∀ f ∈ l, f.n.size <= 9223372036854775807) (w : World) (hl : Xs 3 Fx.cells w ao l) :
 CallsIn Fence.wide n Tryz.prog 86 #[.slice ao l.length cap, .func (.func 87) #[] #[]] w fun e W' => e = .returned (.bool (a9 Fx.n l)) /\ Below w.heap.size w W' := by
 obtain ⟨V, hV⟩ : ∃ V, V = a9 Fx.n l := ⟨_, rfl⟩;rw [← hV];have HV : Hid (V = a9 Fx.n l) := hV;clear hV;have h1 : 1 <= n := by omega
 refine callsIn_of_wp_marks Tryz.func86 rfl trivial ?_ rfl;simp only [Tryz.ntmps86, lsz, llc, lln, Nat.reduceAdd, Nat.reduceSub, ars, arz, lpt, lap, lna, lca];gi_wp2;have bN := (Boxed.new w 142 (.func (.func 87) #[] #[])).alloc (.cells #[.bool false] 4);have bR := Boxed.new (w.alloc (.cells #[.func (.func 87) #[] #[]] 142)) 4 (.bool false);simp only [wsa] at bR;have hB0 : Below w.heap.size w ((w.alloc (.cells #[.func (.func 87) #[] #[]] 142)).alloc (.cells #[.bool false] 4)) := ((br _ w).alloc (nlq _) _).alloc (by simp) _;have hsz : ((w.alloc (.cells #[.func (.func 87) #[] #[]] 142)).alloc (.cells #[.bool false] 4)).heap.size = w.heap.size + 2 := by simp
 obtain ⟨W0, hW0⟩ : ∃ W0, (w.alloc (.cells #[.func (.func 87) #[] #[]] 142)).alloc (.cells #[.bool false] 4) = W0 := ⟨_, rfl⟩;rw [hW0] at bN bR hB0 hsz ⊢;clear hW0
 gi_loopw [11] (fun i wr => ∃ k : Nat, k <= l.length /\ i = .int .i64 k /\ Below W0.heap.size W0 wr /\ Hid ((l.take k).all (fun x => bL x.n) = true)) (fun i _ => l.length - (intOf i).toNat)
 case atStart => exact ⟨0, nz _, rfl, br _ _, by simp [Hid]⟩
 case round =>
  obtain ⟨k, hk, rfl, hN, hno⟩ := hrel;have bN1 : Boxed wr w.heap.size 142 (.func (.func 87) #[] #[]) := (hN.block _ (by omega)).trans bN;have bR1 : Boxed wr (w.heap.size + 1) 4 (.bool false) := (hN.block _ (by omega)).trans bR;have hBw : Below w.heap.size w wr := hB0.trans (hN.mono (by omega))
  by_cases hlt : k < l.length
  · rcases hl with h | ⟨bl, off, rfl, hc⟩
    · subst h;simp at hlt
    · have hbx := (hc k hlt).zL hBw
      have hsz := hs l[k] (lgm hlt);obtain ⟨b, hbe⟩ : ∃ b, b = l[k] := ⟨_, rfl⟩;rw [← hbe] at hbx hsz;have HB : Hid (b = l[k]) := hbe;clear hbe hc;obtain ⟨c0, c1, c2⟩ := jB hbx;clear hbx;have cN := bN1.cell;have hz0 : w.heap.size < wr.heap.size := bN1.lt;have hz1 : w.heap.size + 1 < wr.heap.size := bR1.lt;gi_wp2_with fail
      refine ⟨trivial, ?_⟩;refine (cw.2 (oH b _)).mono ?_;rintro e w1 ⟨rfl, hb1⟩;gi_wp2_with fail
      refine ⟨trivial, ?_⟩;refine (cw.2 (pA b.n _ hsz)).mono ?_;rintro e w1 ⟨rfl, rfl⟩;have hN1 : Below W0.heap.size W0 w1 := aD (hN.alloc hN.size _) hb1;have bR2 : Boxed w1 (w.heap.size + 1) 4 (.bool false) := (hN1.block _ (by omega)).trans bR;have cR := bR2.cell;have fR := bR2.frozen;clear c0 c1 c2 cN;gi_wp2
      · have hv : bL b.n = false := nf (by assumption)
        have hc5 := (bR2.set (.bool false)).cell;refine ⟨.bool false, ?_, by rw [HV.out, oI hlt (by rw [← HB.out];exact hv)], (hB0.trans (hN1.mono (by omega))).setCell (p := ⟨w.heap.size + 1, 0, none⟩) (by simp) _⟩
        simp [results, Tryz.f86, go_sem, hc5]
      · have hv : bL b.n = true := nt (by assumption)
        go_roundw
        case rel => exact ⟨k + 1, by omega, by go_num, hN1, by rw [Hid, List.take_succ_eq_append_getElem hlt, List.all_append, hno.out, ← HB.out];simp [hv]⟩
        case measure => simp [intOf];omega
  · clear hs
    rw [ltl (by omega)] at hno;gi_wp2_with fail
    refine ⟨trivial, ?_⟩;refine (J4 (n - 1) _ _ _ _).mono ?_;rintro e w' ⟨rfl, rfl⟩;gi_wp2_with fail
    have bS := Boxed.new wr 23 (.slice ao l.length cap);have hN2 : Below W0.heap.size W0 (wr.alloc (.cells #[.slice ao l.length cap] 23)) := hN.alloc hN.size _;have bN2 := bN1.alloc (.cells #[.slice ao l.length cap] 23);have bR2 := bR1.alloc (.cells #[.slice ao l.length cap] 23);have hBw2 : Below w.heap.size w (wr.alloc (.cells #[.slice ao l.length cap] 23)) := hBw.alloc hBw.size _;have hz1 : w.heap.size + 1 < wr.heap.size := bR1.lt;have hsz2 : (wr.alloc (.cells #[.slice ao l.length cap] 23)).heap.size = wr.heap.size + 1 := by simp
    obtain ⟨H, hH⟩ : ∃ H, wr.heap.size = H := ⟨_, rfl⟩;rw [hH] at hz1 hsz2 bS ⊢;obtain ⟨W2, hW2⟩ : ∃ W2, wr.alloc (.cells #[.slice ao l.length cap] 23) = W2 := ⟨_, rfl⟩;rw [hW2] at bS hN2 bN2 bR2 hBw2 hsz2 ⊢;clear hW2 hH bN1 bR1 hBw hN
    refine wpIn_rangeFunc_ownH rfl h1 (gf := 166) (lb := #[.pointer (some ⟨H, 0, none⟩)]) rfl trivial (enters_of Tryz.func166 (by kernel_rfl) rfl)
     (yW (n - 1) H cap ao l hlen W2 bS.cell (hl.zL hBw2)) belowK_t (belowK_b (nlq _)) (br _ _) (fun _ => rfl)
     (fun pre W => (∀ x ∈ pre, eU x.1.n x.2.n = true) /\ Below W2.heap.size W2 W)
     (fun c pre W => ((c = .ret /\ ∃ x ∈ pre, eU x.1.n x.2.n = false) /\ Boxed W (w.heap.size + 1) 4 (.bool false)) /\ Below w.heap.size w W)
     (OwnFrom.and (ownFrom_pure _ _) (ownFrom_below (nlq _) (nlq _)))
     (fun c => OwnFrom.and (OwnFrom.and (ownFrom_pure _ _) (Own.from (boxed_own _ _ _) _)) (ownFrom_below (nlq _) (by omega)))
     ⟨by simp, br _ _⟩
     (fun x a' W => ∃ B1 B2, aM W B1 0 x.1.cells /\ aM W B2 0 x.2.cells /\ a' = { tmps := #[.slice ao l.length cap, .func (.func 87) #[] #[], undef, .pointer (some ⟨w.heap.size, 0, none⟩), .pointer (some ⟨w.heap.size + 1, 0, none⟩), undef, u6, .pointer (some ⟨B1, 0, none⟩), .pointer (some ⟨B2, 0, none⟩), .slice ao l.length cap, .int .i64 l.length, .int .i64 k, .bool false, u13, u14, u15, u16, u17, u18, u19, u20, .slice ao l.length cap, .func (.func 166) #[] #[.pointer (some ⟨H, 0, none⟩)], x.1.val, x.2.val, undef, undef, undef, undef, undef, undef, undef], defers := [] })
     (fun x a' _ X Y row hs hg hr => by obtain ⟨B1, B2, e1, e2, e3⟩ := hs;exact ⟨B1, B2, dE e1 hg (fun r e => (hr r e).2), dE e2 hg (fun r e => (hr r e).2), e3⟩)
     ?assign ?body ?done ?stop
    case assign =>
     rintro lp pre x W K ⟨hp, hB1⟩ hK;gi_wp2
     exact hK _ _ (((KeepsOthers.alloc _ _).trans (KeepsOthers.alloc _ _)).from _) (((br _ W).alloc hB1.size _).alloc (by have := hB1.size;simp;omega) _) ⟨hp, (hB1.alloc hB1.size _).alloc (by have := hB1.size;simp;omega) _⟩
      ⟨W.heap.size, W.heap.size + 1, (eN W _ 82 rfl _ _ _).zL ((br _ _).alloc (nlq _) _), eN _ _ 82 (by simp) _ _ _, rfl⟩
    case body =>
     rintro lp pre x a' W hl' ⟨r, hr⟩ ⟨hp, hB1⟩ ⟨B1, B2, e1, e2, rfl⟩ hlt';have bN3 : Boxed W w.heap.size 142 (.func (.func 87) #[] #[]) := (hB1.block _ (by omega)).trans bN2;have bR3 : Boxed W (w.heap.size + 1) 4 (.bool false) := (hB1.block _ (by omega)).trans bR2;obtain ⟨c0, c1, c2⟩ := jB e1;obtain ⟨d0, d1, d2⟩ := jB e2;rw [Nat.zero_add] at c1 c2 d1 d2;have hne : Nonempty (bO W) := ⟨⟨W, br _ _⟩⟩;have f0 := bO.cell c0;have f1 := bO.cell c1;have f2 := bO.cell c2;have g0 := bO.cell d0;have g1 := bO.cell d1;have g2 := bO.cell d2;have fN := bO.cell bN3.cell;clear c0 c1 c2 d0 d1 d2 e1 e2;gi_wp2_with fail
     refine mP (by kernel_rfl) (by kernel_rfl) (by kernel_rfl) ?_
     repeat (go_big_quiet_step ((go_at_call 87;exact bO.call _ (oH _ _))))
     refine wpQuiet_nil ?_;rintro _ ⟨s, rfl⟩;have hb1 := s.h;generalize s.w = w1 at hb1;clear s f0 f1 f2 g0 g1 g2 fN hne;have bR4 : Boxed w1 (w.heap.size + 1) 4 (.bool false) := (hb1.block _ bR3.lt).trans bR3;have cR := bR4.cell;have fR := bR4.frozen;have hBw1 : Below w.heap.size w w1 := (hBw2.trans (hB1.mono (by omega))).trans (hb1.mono (by have := hB1.size;omega));gi_wp2
     · have hcl : eU x.1.n x.2.n = false := nf (by assumption)
       exact ⟨((bE hb1).trans (KeepsOthers.setCell _ _ _)).from _, ⟨⟨rfl, x, lma.2 (.inr (by simp)), hcl⟩, bR4.set _⟩, hBw1.setCell (p := ⟨w.heap.size + 1, 0, none⟩) (by simp) _⟩
     · have hcl : eU x.1.n x.2.n = true := nt (by assumption)
       exact ⟨(bE hb1).from _, hb1.mono hB1.size, fun y hy => (lma.1 hy).elim (hp y) (fun e => by simp at e;subst e;exact hcl), hB1.trans (hb1.mono hB1.size)⟩
    case done =>
     rintro D zs W hD rfl ⟨hp, hB1⟩ hK;have bR3 : Boxed W (w.heap.size + 1) 4 (.bool false) := (hB1.block _ (by omega)).trans bR2;have cR := bR3.cell;have fR := bR3.frozen;gi_wp2;have hK' := (KeepsOthers.setCell W ⟨w.heap.size + 1, 0, none⟩ (.bool true)).same D _ hK rfl;refine ⟨by simp, .inl ⟨_, _, rfl, run_takeDeferred hK', ?_⟩⟩;have hc5 := cell_kept (bR3.set (.bool true)).cell (grownBy_putObj' _ D (.deferred none)) (fun r e => by cases e;exact ⟨_, hK', rfl⟩);refine ⟨.bool true, ?_, by rw [HV.out, FC hno.out hp], (((hBw2.trans (hB1.mono (by omega))).setCell (p := ⟨w.heap.size + 1, 0, none⟩) (by simp) _).trans (belowK_b (w := w) (nlq _) _ D _ _ (by omega) hK' rfl rfl))⟩
     simp [results, Tryz.f86, go_sem, hc5]
    case stop =>
     rintro D c pre W hD ⟨q, hq, rfl⟩ ⟨⟨⟨rfl, x, hx, hy⟩, bR3⟩, hB1⟩ hK;gi_wp2;refine ⟨by simp, .inl ⟨_, _, rfl, run_takeDeferred hK, ?_⟩⟩;have hc5 := cell_kept bR3.cell (grownBy_putObj' _ D (.deferred none)) (fun r e => by cases e;exact ⟨_, hK, rfl⟩);refine ⟨.bool false, ?_, by rw [HV.out, E9 hq hx hy], hB1.trans (belowK_b (w := w) (nlq _) W D _ _ (by omega) hK rfl rfl)⟩
     simp [results, Tryz.f86, go_sem, hc5]
theorem DR (ao : Option Addr) (cap : Nat) (l : List Fx) (hlen : l.length <= 1048576) (hs : ∀ f ∈ l, f.n.size <= 9223372036854775807) (w : World) (hl : Xs 3 Fx.cells w ao l) :
 Calls Tryz.prog 86 #[.slice ao l.length cap, .func (.func 87) #[] #[]] w fun e W' => e = .returned (.bool (a9 Fx.n l)) /\ Below w.heap.size w W' :=
 cw.1 (JO 6 (by omega) ao cap l hlen hs w hl)
end Go.Proofs.YtiojdbffjdoniaaGreatDoor
namespace Go.Proofs.YtiojdbffjdoniaaGreatDoor
set_option maxRecDepth 100000
set_option maxHeartbeats 2000000
open Go.RowKit
def gD (l : List Fx) (i : Nat) (f : Fx) : Bool := eK f.x f.y && !qV (l.take i) f.x f.y
def fT (l : List Fx) : Nat -> Bool
 | 0 => true
 | k + 1 => fT l k && gD l k (eW l k)
def aW (l : List Fx) : Bool := decide (l.length <= 4) && (a9 Fx.n l && fT l l.length)
theorem nV {l : List Fx} {k : Nat} (h : gD l k (eW l k) = false) : ∀ m, k < m -> fT l m = false
 | 0, hm => absurd hm (by omega)
 | m + 1, hm => by
  rw [fT]
  by_cases e : k = m
  · subst e;rw [h, Bool.and_false]
  · rw [nV h m (by omega)];rfl
theorem Xs.take {α : Type} {sz : Nat} {c : α -> List Value} {w : World} {ao : Option Addr} {l : List α} (h : Xs sz c w ao l) (k : Nat) : Xs sz c w ao (l.take k) := by
 rcases h with h | ⟨bl, off, h, hc⟩
 · exact Or.inl (by rw [h];simp)
 · refine Or.inr ⟨bl, off, h, fun j hj => ?_⟩
   have hj' : j < l.length := by simp at hj;omega
   have := hc j hj'
   simpa using this
theorem yV (l : List Fx) (k : Nat) (hk : k <= l.length) (ao : Option Addr) (cap : Nat) (x y : Int) (w : World) (hl : Xs 3 Fx.cells w ao l) (hn : l.length <= 1048576) :
 Calls Tryz.prog 135 #[.slice ao k cap, .int .i64 x, .int .i64 y] w fun e w' => e = .returned (.bool (qV (l.take k) x y)) /\ Below w.heap.size w w' := by
 have h := k8 (l.take k) ao cap x y w (hl.take k) (by simp;omega)
 rwa [show (l.take k).length = k by simp;omega] at h
theorem BT (l : List Fx) (k : Nat) (hk : k <= l.length) (ao : Option Addr) (cap : Nat) (x y : Int) (v : Bool) (hv : qV (l.take k) x y = v) (w : World) (hl : Xs 3 Fx.cells w ao l) (hn : l.length <= 1048576) :
 Calls Tryz.prog 135 #[.slice ao k cap, .int .i64 x, .int .i64 y] w fun e w' => e = .returned (.bool v) /\ Below w.heap.size w w' := by
 subst hv;exact yV l k hk ao cap x y w hl hn
theorem uK (x y : Int) (v : Bool) (hv : eK x y = v) (w : World) : Calls Tryz.prog 134 #[.int .i64 x, .int .i64 y] w fun e w' => e = .returned (.bool v) /\ w' = w := by
 subst hv;exact mM x y w
theorem tT (l : List Fx) (ao : Option Addr) (cap : Nat) (hcap : l.length <= cap) (_hc2 : cap <= 9223372036854775807) (w : World) (hl : Xs 3 Fx.cells w ao l) (hn : l.length <= 1048576) :
 Calls Tryz.prog 88 #[.slice ao l.length cap] w fun e w' => e = .returned (.bool (fT l l.length)) /\ Below w.heap.size w w' := by
 obtain ⟨V, hV⟩ : ∃ V, V = fT l l.length := ⟨_, rfl⟩;rw [← hV];have HV : Hid (V = fT l l.length) := hV;clear hV
 go_enter Tryz.func88, Tryz.ntmps88
 go_wp2
 go_loopw [7] (fun i wr => ∃ k : Nat, k <= l.length /\ i = .int .i64 k /\ Below w.heap.size w wr /\ Hid (fT l k = true)) (fun i _ => l.length - (intOf i).toNat)
 case atStart => exact ⟨0, nz _, rfl, br _ _, by simp [Hid, fT]⟩
 case round =>
  obtain ⟨k, hk, rfl, hN, hno⟩ := hrel
  by_cases hlt : k < l.length
  · have hl0 := hl
    rcases hl with h | ⟨bl, off, rfl, hc⟩
    · subst h;simp at hlt
    · have hbx := (hc k hlt).zL hN
      obtain ⟨f, hbe⟩ : ∃ f, f = eW l k := ⟨_, rfl⟩;rw [← eG l k hlt, ← hbe] at hbx;have HB : Hid (f = eW l k) := hbe;clear hbe hc;obtain ⟨c0, c1, c2⟩ := jB hbx;clear hbx;have hq0 : (0 : Int) <= (k : Int) := by omega
      have hq1 : (k : Int) <= (cap : Int) := by omega
      have hkc : k <= cap := by omega
      have hne : Nonempty (bO (wr.alloc (.cells #[.string f.n, .int .i64 f.x, .int .i64 f.y] 82))) := ⟨⟨_, br _ _⟩⟩;have hbw : Below w.heap.size w (wr.alloc (.cells #[.string f.n, .int .i64 f.x, .int .i64 f.y] 82)) := hN.alloc hN.size _;have f1 : ∀ s : bO (wr.alloc (.cells #[.string f.n, .int .i64 f.x, .int .i64 f.y] 82)), s.w.cell? ⟨wr.heap.size, 1, none⟩ = some (.int .i64 f.x) := bO.cell (by simp);have f2 : ∀ s : bO (wr.alloc (.cells #[.string f.n, .int .i64 f.x, .int .i64 f.y] 82)), s.w.cell? ⟨wr.heap.size, 2, none⟩ = some (.int .i64 f.y) := bO.cell (by simp)
      rcases Bool.eq_false_or_eq_true (eK f.x f.y) with hv | hv
      · obtain ⟨o, ho⟩ : ∃ o, qV (l.take k) f.x f.y = o := ⟨_, rfl⟩
        have HO : Hid (qV (l.take k) f.x f.y = o) := ho;clear ho;go_wp2_with fail
        refine aR (by kernel_rfl) (by kernel_rfl) ?_
        repeat (go_big_quiet_step (first | (go_at_call 134;exact bO.same _ (uK _ _ _ hv _)) | (go_at_call 135;exact bO.call _ (BT l k hk _ _ _ _ _ HO.out _ (hl0.zL (aD hbw (bO.h _))) hn))))
        refine wpQuiet_nil ?_;rintro _ ⟨s, rfl⟩;have hN1 : Below w.heap.size w s.w := aD hbw s.h;clear f1 f2;go_wp2
        · have hcl : o = true := by assumption
          subst hcl;go_ret;exact ⟨aC (by rw [HV.out, nV (k := k) (by rw [← HB.out, gD, HO.out, hv];rfl) _ hlt]), hN1⟩
        · have hcl : o = false := by assumption
          subst hcl
          go_roundw
          case rel => exact ⟨k + 1, by omega, by go_num, hN1, by rw [Hid, fT, hno.out, ← HB.out, gD, HO.out, hv];rfl⟩
          case measure => simp [intOf];omega
      · go_wp2_with fail
        refine aR (by kernel_rfl) (by kernel_rfl) ?_
        repeat (go_big_quiet_step ((go_at_call 134;exact bO.same _ (uK _ _ _ hv _))))
        refine wpQuiet_nil ?_;rintro _ ⟨s, rfl⟩;have hN1 : Below w.heap.size w s.w := aD hbw s.h;clear f1 f2;go_wp2
        go_ret;exact ⟨aC (by rw [HV.out, nV (k := k) (by rw [← HB.out, gD, hv];rfl) _ hlt]), hN1⟩
  · have hke : k = l.length := by omega
    go_wp2
    go_ret;exact ⟨aC (by rw [HV.out, ← hno.out, hke]), hN⟩
def qH (n : Nat) : Bool := decide (n <= 4)
theorem fL (l : List Fx) : aW l = (qH l.length && (a9 Fx.n l && fT l l.length)) := rfl
theorem MY (n cap : Nat) (ao : Option Addr) (w : World) (hn : n <= 1048576) :
 Calls Tryz.prog 84 #[.slice ao n cap] w fun e w' => e = .returned (.bool (qH n)) /\ w' = w := by
 go_enter Tryz.func84, Tryz.ntmps84
 go_wp2
 go_ret;refine ⟨aC ?_, rfl⟩;rw [Bool.eq_iff_iff];simp only [qH, dte];omega
theorem BS (ao : Option Addr) (cap : Nat) (l : List Fx) (hlen : l.length <= 1048576) (hs : ∀ f ∈ l, f.n.size <= 9223372036854775807) (w : World) (hl : Xs 3 Fx.cells w ao l) :
 Calls Tryz.prog 85 #[.slice ao l.length cap] w fun e W' => e = .returned (.bool (a9 Fx.n l)) /\ Below w.heap.size w W' := by
 go_enter Tryz.func85, Tryz.ntmps85
 go_wp2_with (go_at_call 86;refine (DR _ _ l hlen hs _ hl).mono ?_;rintro e w1 ⟨rfl, hb1⟩)
 go_ret;exact ⟨rfl, hb1⟩
def AV (l : List Fx) (k : Nat) : Prop := (0 < k -> qH l.length = true) /\ (1 < k -> a9 Fx.n l = true) /\ (2 < k -> fT l l.length = true)
theorem yE (l : List Fx) (ao : Option Addr) (cap G : Nat) (hcap : l.length <= cap) (hc2 : cap <= 9223372036854775807) (w : World) (hl : Xs 3 Fx.cells w ao l) (hn : l.length <= 1048576) (hs : ∀ f ∈ l, f.n.size <= 9223372036854775807)
 (g0 : w.cell? ⟨G, 0, none⟩ = some (.func (.func 84) #[] #[])) (g1 : w.cell? ⟨G, 1, none⟩ = some (.func (.func 85) #[] #[])) (g2 : w.cell? ⟨G, 2, none⟩ = some (.func (.func 88) #[] #[])) :
 Calls Tryz.prog 83 #[.slice ao l.length cap, .slice (some ⟨G, 0, none⟩) 3 3] w fun e w' => e = .returned (.bool (aW l)) /\ Below w.heap.size w w' := by
 obtain ⟨V, hV⟩ : ∃ V, V = aW l := ⟨_, rfl⟩;rw [← hV];have HV : Hid (V = aW l) := hV;clear hV
 go_enter Tryz.func83, Tryz.ntmps83
 go_wp2
 go_loopw [9] (fun i wr => ∃ k : Nat, k <= 3 /\ i = .int .i64 k /\ Below w.heap.size w wr /\ Hid (AV l k)) (fun i _ => 3 - (intOf i).toNat)
 case atStart => exact ⟨0, by omega, rfl, br _ _, by simp [Hid, AV]⟩
 case round =>
  obtain ⟨k, hk, rfl, hN, hno⟩ := hrel;have hcases : k = 0 ∨ k = 1 ∨ k = 2 ∨ k = 3 := by omega
  rcases hcases with h0 | h1 | h2 | h3
  · subst h0
    have gk := (hN.cell (p := ⟨G, 0, none⟩) (aA g0)).trans g0;clear g0 g1 g2
    go_wp2_with (go_at_call 84;refine (MY l.length cap ao _ hn).mono ?_;rintro e wr ⟨rfl, rfl⟩)
    · have hv : qH l.length = false := nf (by assumption)
      go_ret;exact ⟨aC (by rw [HV.out];exact (show aW l = false from by rw [fL, hv];rfl).symm), hN⟩
    · have hv : qH l.length = true := nt (by assumption)
      go_roundw
      case rel => exact ⟨1, by omega, by go_num, hN, ⟨fun _ => hv, fun h => absurd h (by omega), fun h => absurd h (by omega)⟩⟩
      case measure => simp [intOf]
  · subst h1
    have gk := (hN.cell (p := ⟨G, 1, none⟩) (aA g1)).trans g1;clear g0 g1 g2
    go_wp2_with (go_at_call 85;refine (BS ao cap l hn hs _ (hl.zL hN)).mono ?_;rintro e w1 ⟨rfl, hb1⟩;have hN : Below w.heap.size w w1 := aY hN (nlq _) hb1)
    · have hv : a9 Fx.n l = false := nf (by assumption)
      go_ret;exact ⟨aC (by rw [HV.out];exact (show aW l = false from by rw [fL, hv];simp).symm), hN⟩
    · have hv : a9 Fx.n l = true := nt (by assumption)
      go_roundw
      case rel => exact ⟨2, by omega, by go_num, hN, ⟨fun _ => hno.out.1 (by omega), fun _ => hv, fun h => absurd h (by omega)⟩⟩
      case measure => simp [intOf]
  · subst h2
    have gk := (hN.cell (p := ⟨G, 2, none⟩) (aA g2)).trans g2;clear g0 g1 g2
    go_wp2_with (go_at_call 88;refine (tT l ao cap hcap hc2 _ (hl.zL hN) hn).mono ?_;rintro e w1 ⟨rfl, hb1⟩;have hN : Below w.heap.size w w1 := aY hN (nlq _) hb1)
    · have hv : fT l l.length = false := nf (by assumption)
      go_ret;exact ⟨aC (by rw [HV.out];exact (show aW l = false from by rw [fL, hv];simp).symm), hN⟩
    · have hv : fT l l.length = true := nt (by assumption)
      go_roundw
      case rel => exact ⟨3, by omega, by go_num, hN, ⟨fun _ => hno.out.1 (by omega), fun _ => hno.out.2.1 (by omega), fun _ => hv⟩⟩
      case measure => simp [intOf]
  · subst h3
    clear g0 g1 g2;go_wp2
    go_ret;obtain ⟨q0, q1, q2⟩ := hno.out;exact ⟨aC (by rw [HV.out, fL, q0 (by omega), q1 (by omega), q2 (by omega)];rfl), hN⟩
theorem nR (l : List Fx) (ao : Option Addr) (cap : Nat) (hcap : l.length <= cap) (hc2 : cap <= 9223372036854775807) (w : World) (hl : Xs 3 Fx.cells w ao l) (hn : l.length <= 1048576) (hs : ∀ f ∈ l, f.n.size <= 9223372036854775807) :
 Calls Tryz.prog 38 #[.slice ao l.length cap] w fun e w' => e = .returned (.bool (aW l)) /\ Below w.heap.size w w' := by
 go_enter Tryz.func38, Tryz.ntmps38
 go_wp2_with fail
 refine (yE l ao cap w.heap.size hcap hc2 _ (hl.zL (aB (br _ _) _)) hn hs (by simp) (by simp) (by simp)).mono ?_;rintro e w1 ⟨rfl, hb1⟩;go_wp2_with fail
 go_ret;exact ⟨rfl, aD (aB (br _ _) _) hb1⟩
set_option maxHeartbeats 4000000
theorem dW (s : ByteArray) (v : Bool) (hv : bL s = v) (w : World) (hs : s.size <= 9223372036854775807) : Calls Tryz.prog 121 #[.string s] w fun e w' => e = .returned (.bool v) /\ w' = w := by
 subst hv;exact q9 s w hs
theorem fO (n lo hi : Int) (v : Bool) (hv : dS n lo hi = v) (w : World) : Calls Tryz.prog 69 #[.int .i64 n, .int .i64 lo, .int .i64 hi] w fun e w' => e = .returned (.bool v) /\ w' = w := by
 subst hv;exact dP n lo hi w
structure CS (l : List Fx) (k : Nat) : Prop where
 nm : (l.take k).all (fun x => bL x.n) = true
 lt : ∀ i, i + 1 < k -> eU (eW l i).n (eW l (i + 1)).n = true
 gd : fT l k = true
theorem CS.step {l : List Fx} {k : Nat} (h : CS l k) (hk : k < l.length) (hn : bL (eW l k).n = true) (hl : 0 < k -> eU (eW l (k - 1)).n (eW l k).n = true) (hg : gD l k (eW l k) = true) : CS l (k + 1) := by
 refine ⟨by rw [List.take_succ_eq_append_getElem hk, List.all_append, h.nm];rw [eG l k hk] at hn;simp [hn], fun i hi => ?_, by rw [fT, h.gd, hg];rfl⟩
 by_cases e : i + 1 = k
 · subst e;simpa using hl (by omega)
 · exact h.lt i (by omega)
theorem CX {l : List Fx} {k : Nat} (hk : k < l.length) (h : bL (eW l k).n = false) : aW l = false := by
 rw [eG l k hk] at h;rw [fL, oI hk h];simp
theorem JN {l : List Fx} {k : Nat} (hk : k < l.length) (h0 : 0 < k) (h : eU (eW l (k - 1)).n (eW l k).n = false) : aW l = false := by
 have : iO Fx.n l = false := by
  rw [Bool.eq_false_iff];intro ha;have := (fP Fx.n l).1 ha (k - 1) (by omega);rw [← eG l (k - 1) (by omega), ← eG l (k - 1 + 1) (by omega), show k - 1 + 1 = k by omega, h] at this
  cases this
 rw [fL, a9, this];simp
theorem jR {l : List Fx} {k : Nat} (hk : k < l.length) (h : gD l k (eW l k) = false) : aW l = false := by
 rw [fL, nV h _ hk];simp
theorem LS {l : List Fx} {k : Nat} (h : CS l k) (h4 : qH l.length = true) (hk : k = l.length) : aW l = true := by
 subst hk;have hn := h.nm;rw [ltl (nlq _)] at hn
 have ha : iO Fx.n l = true := (fP Fx.n l).2 fun i hi => by
  have := h.lt i hi
  rwa [eG l i (by omega), eG l (i + 1) hi] at this
 rw [fL, h4, a9, hn, ha, h.gd];rfl
theorem rQ (x y : Int) : eK x y = (dS x 0 15 && dS y 0 15) := by
 rw [Bool.eq_iff_iff];simp only [eK, dS, bat, dte];omega
theorem xM {l : List Fx} {k : Nat} {f : Fx} (h : dS f.x 0 15 = false) : gD l k f = false := by rw [gD, rQ, h];rfl
theorem xA {l : List Fx} {k : Nat} {f : Fx} (h : dS f.y 0 15 = false) : gD l k f = false := by rw [gD, rQ, h];simp
theorem DS {l : List Fx} {k : Nat} {f : Fx} (h : qV (l.take k) f.x f.y = true) : gD l k f = false := by rw [gD, h];simp
theorem zS {l : List Fx} {k : Nat} {f : Fx} (hx : dS f.x 0 15 = true) (hy : dS f.y 0 15 = true) (h : qV (l.take k) f.x f.y = false) : gD l k f = true := by rw [gD, rQ, hx, hy, h];rfl
theorem yJ {W : World} {o : Obj} {a : Addr} {v : Value} (h : W.cell? a = some v) : (W.alloc o).cell? a = some v := ((aB (br _ W) o).cell (aA h)).trans h
theorem mZ (l : List Fx) (ao : Option Addr) (cap : Nat) (w : World) (hl : Xs 3 Fx.cells w ao l) (hn : l.length <= 1048576) (hs : ∀ f ∈ l, f.n.size <= 9223372036854775807) :
 Calls Tryz.prog 70 #[.slice ao l.length cap] w fun e w' => e = .returned (.bool (aW l)) /\ Below w.heap.size w w' := by
 obtain ⟨V, hV⟩ : ∃ V, V = aW l := ⟨_, rfl⟩;rw [← hV];have HV : Hid (V = aW l) := hV;clear hV
 by_cases h4 : l.length <= 4
 · have H4 : Hid (qH l.length = true) := decide_eq_true h4
   go_enter Tryz.func70, Tryz.ntmps70
   go_wp2
   go_loopw [3] (fun i wr => ∃ k : Nat, k <= l.length /\ i = .int .i64 k /\ Below w.heap.size w wr /\ Hid (CS l k)) (fun i _ => l.length - (intOf i).toNat)
   case atStart => exact ⟨0, nz _, rfl, br _ _, ⟨by simp, fun i hi => absurd hi (by omega), rfl⟩⟩
   case round =>
    obtain ⟨k, hk, rfl, hN, hno⟩ := hrel
    by_cases hlt : k < l.length
    · rcases hl with h | ⟨bl, off, rfl, hc⟩
      · subst h;simp at hlt
      have hbx := (hc k hlt).zL hN;have hsz := hs l[k] (lgm hlt);obtain ⟨f, hbe⟩ : ∃ f, f = eW l k := ⟨_, rfl⟩;rw [← eG l k hlt, ← hbe] at hbx hsz;have HB : Hid (f = eW l k) := hbe;clear hbe;obtain ⟨c0, c1, c2⟩ := jB hbx;clear hbx;have hne : Nonempty (bO (wr.alloc (.cells #[.string f.n, .int .i64 f.x, .int .i64 f.y] 82))) := ⟨⟨_, br _ _⟩⟩;have hbw : Below w.heap.size w (wr.alloc (.cells #[.string f.n, .int .i64 f.x, .int .i64 f.y] 82)) := hN.alloc hN.size _;have f0 : ∀ s : bO (wr.alloc (.cells #[.string f.n, .int .i64 f.x, .int .i64 f.y] 82)), s.w.cell? ⟨wr.heap.size, 0, none⟩ = some (.string f.n) := bO.cell (by simp);have f1 : ∀ s : bO (wr.alloc (.cells #[.string f.n, .int .i64 f.x, .int .i64 f.y] 82)), s.w.cell? ⟨wr.heap.size, 1, none⟩ = some (.int .i64 f.x) := bO.cell (by simp);have f2 : ∀ s : bO (wr.alloc (.cells #[.string f.n, .int .i64 f.x, .int .i64 f.y] 82)), s.w.cell? ⟨wr.heap.size, 2, none⟩ = some (.int .i64 f.y) := bO.cell (by simp)
      rcases Bool.eq_false_or_eq_true (bL f.n) with hnm | hnm
      · by_cases hk0 : k = 0
        · subst hk0
          rw [Nat.zero_mul, Nat.add_zero] at c0 c1 c2
          rcases Bool.eq_false_or_eq_true (dS f.x 0 15) with hx | hx
          · rcases Bool.eq_false_or_eq_true (dS f.y 0 15) with hy | hy
            · go_wp2_with fail
              refine aR (by kernel_rfl) (by kernel_rfl) ?_
              repeat (go_big_quiet_step (first | (go_at_call 121;exact bO.same _ (dW _ _ hnm _ hsz)) | (go_at_call_of 69 f.x;exact bO.same _ (fO _ _ _ _ hx _)) | (go_at_call_of 69 f.y;exact bO.same _ (fO _ _ _ _ hy _))))
              refine wpQuiet_nil ?_;rintro _ ⟨s, rfl⟩;have hN1 : Below w.heap.size w s.w := aD hbw s.h;have hA1 := s.h;generalize s.w = w1 at hN1 hA1;clear s f0 f1 f2 hne;go_wp2
              have HX : Hid (dS f.x 0 15 = true) := hx;have HY : Hid (dS f.y 0 15 = true) := hy;have HM : Hid (bL f.n = true) := hnm;clear hx hy hnm hN1 c0 c1 c2
              go_loopw [5] (fun i ws => ∃ j : Nat, j <= 0 /\ i = .int .i64 j /\ Below (wr.alloc (.cells #[.string f.n, .int .i64 f.x, .int .i64 f.y] 82)).heap.size (wr.alloc (.cells #[.string f.n, .int .i64 f.x, .int .i64 f.y] 82)) ws /\ Hid ((l.take j).any (fun g => m9 g f.x f.y) = false)) (fun i _ => 0 - (intOf i).toNat)
              case atStart => exact ⟨0, nz _, rfl, hA1, by simp [Hid]⟩
              case round =>
               clear hA1;obtain ⟨j, hj, rfl, hA2, hnj⟩ := hrel
               by_cases hjk : j < 0
               · exact absurd hjk (by omega)
               · have hje : j = 0 := by omega
                 go_wp2
                 go_roundw
                 case rel => exact ⟨0 + 1, by omega, by go_num, hbw.trans (hA2.mono (by have := hbw.size;omega)), hno.out.step hlt (by rw [← HB.out];exact HM.out) (fun h0 => absurd h0 (by omega)) (by rw [← HB.out];exact zS HX.out HY.out (by rw [← hje];exact hnj.out))⟩
                 case measure => simp [intOf];omega
            · clear hc
              go_wp2_with fail
              refine aR (by kernel_rfl) (by kernel_rfl) ?_
              repeat (go_big_quiet_step (first | (go_at_call 121;exact bO.same _ (dW _ _ hnm _ hsz)) | (go_at_call_of 69 f.x;exact bO.same _ (fO _ _ _ _ hx _)) | (go_at_call_of 69 f.y;exact bO.same _ (fO _ _ _ _ hy _))))
              refine wpQuiet_nil ?_;rintro _ ⟨s, rfl⟩;have hN1 : Below w.heap.size w s.w := aD hbw s.h;have hA1 := s.h;generalize s.w = w1 at hN1 hA1;clear s f0 f1 f2 hne;go_wp2
              go_ret;exact ⟨aC (by rw [HV.out, jR hlt (by rw [← HB.out];exact xA hy)]), hN1⟩
          · clear hc
            have hy : dS f.y 0 15 = dS f.y 0 15 := rfl;go_wp2_with fail
            refine aR (by kernel_rfl) (by kernel_rfl) ?_
            repeat (go_big_quiet_step (first | (go_at_call 121;exact bO.same _ (dW _ _ hnm _ hsz)) | (go_at_call_of 69 f.x;exact bO.same _ (fO _ _ _ _ hx _))))
            refine wpQuiet_nil ?_;rintro _ ⟨s, rfl⟩;have hN1 : Below w.heap.size w s.w := aD hbw s.h;have hA1 := s.h;generalize s.w = w1 at hN1 hA1;clear s f0 f1 f2 hne;go_wp2
            go_ret;exact ⟨aC (by rw [HV.out, jR hlt (by rw [← HB.out];exact xM hx)]), hN1⟩
        · have hkn : 0 < k := by omega
          have hkq : (1 : Int) <= (k : Int) := by omega
          have hcv := (hc (k - 1) (by omega)).zL hN;obtain ⟨a, hae⟩ : ∃ a, a = eW l (k - 1) := ⟨_, rfl⟩;rw [← eG l (k - 1) (by omega), ← hae] at hcv;have HA : Hid (a = eW l (k - 1)) := hae;clear hae hk0;have g0 : ∀ s : bO (wr.alloc (.cells #[.string f.n, .int .i64 f.x, .int .i64 f.y] 82)), s.w.cell? ⟨bl, off + (k - 1) * 3, none⟩ = some (.string a.n) := bO.cell (yJ (jB hcv).1);clear hcv
          rcases Bool.eq_false_or_eq_true (eU a.n f.n) with hlt2 | hlt2
          · have HL : Hid (eU a.n f.n = true) := hlt2
            have hbl : Op.bytesLess a.n.toList f.n.toList = true := hlt2;clear hlt2
            rcases Bool.eq_false_or_eq_true (dS f.x 0 15) with hx | hx
            · rcases Bool.eq_false_or_eq_true (dS f.y 0 15) with hy | hy
              · skip
                go_wp2_with fail
                refine aR (by kernel_rfl) (by kernel_rfl) ?_
                repeat (go_big_quiet_step (first | (go_at_call 121;exact bO.same _ (dW _ _ hnm _ hsz)) | (go_at_call_of 69 f.x;exact bO.same _ (fO _ _ _ _ hx _)) | (go_at_call_of 69 f.y;exact bO.same _ (fO _ _ _ _ hy _))))
                refine wpQuiet_nil ?_;rintro _ ⟨s, rfl⟩;have hN1 : Below w.heap.size w s.w := aD hbw s.h;have hA1 := s.h;generalize s.w = w1 at hN1 hA1;clear s f0 f1 f2 hne g0;clear hbl;go_wp2
                have HX : Hid (dS f.x 0 15 = true) := hx;have HY : Hid (dS f.y 0 15 = true) := hy;have HM : Hid (bL f.n = true) := hnm;have HFC : Hid (∀ ws, Below (wr.alloc (.cells #[.string f.n, .int .i64 f.x, .int .i64 f.y] 82)).heap.size (wr.alloc (.cells #[.string f.n, .int .i64 f.x, .int .i64 f.y] 82)) ws -> ws.cell? ⟨wr.heap.size, 1, none⟩ = some (.int .i64 f.x) /\ ws.cell? ⟨wr.heap.size, 2, none⟩ = some (.int .i64 f.y)) := fun ws hb => ⟨(hb.cell (by simp)).trans (by simp), (hb.cell (by simp)).trans (by simp)⟩;clear hx hy hnm hN1 c0 c1 c2
                go_loopw [5] (fun i ws => ∃ j : Nat, j <= k /\ i = .int .i64 j /\ Below (wr.alloc (.cells #[.string f.n, .int .i64 f.x, .int .i64 f.y] 82)).heap.size (wr.alloc (.cells #[.string f.n, .int .i64 f.x, .int .i64 f.y] 82)) ws /\ Hid ((l.take j).any (fun g => m9 g f.x f.y) = false)) (fun i _ => k - (intOf i).toNat)
                case atStart => exact ⟨0, nz _, rfl, hA1, by simp [Hid]⟩
                case round =>
                 clear hA1;obtain ⟨j, hj, rfl, hA2, hnj⟩ := hrel;have hNw : Below w.heap.size w _ := hbw.trans (hA2.mono (by have := hbw.size;omega))
                 by_cases hjk : j < k
                 · have hby := (hc j (by omega)).zL hNw
                   obtain ⟨g, hge⟩ : ∃ g, g = l[j]'(by omega) := ⟨_, rfl⟩;rw [← hge] at hby;have HG : Hid (g = l[j]'(by omega)) := hge;clear hge;obtain ⟨e0, e1, e2⟩ := jB hby;obtain ⟨i1, i2⟩ := HFC.out _ hA2;have hne2 : Nonempty (bO wr) := ⟨⟨_, br _ _⟩⟩;have p1 := bO.cell e1;have p2 := bO.cell e2;have q1 := bO.cell i1;have q2 := bO.cell i2;clear hby e0 e1 e2 i1 i2
                   by_cases hgx : g.x = f.x
                   · by_cases hgy : g.y = f.y
                     · have ex : (g.x == f.x) = true := by simp [hgx]
                       have ey : (g.y == f.y) = true := by simp [hgy]
                       have HE : Hid (g.x = f.x /\ g.y = f.y) := ⟨hgx, hgy⟩;clear hgx hgy;go_wp2_with fail
                       refine aR (by kernel_rfl) (by kernel_rfl) ?_
                       repeat (go_big_quiet_step (fail))
                       refine wpQuiet_nil ?_;rintro _ ⟨s, rfl⟩;have hA3 := aY hA2 (nlq _) s.h;have hN3 := aY hNw (nlq _) s.h;generalize s.w = w3 at hA3 hN3;clear s p1 p2 q1 q2 hne2;go_wp2
                       go_ret;exact ⟨aC (by rw [HV.out, jR hlt (by rw [← HB.out];exact DS (dK _ (l.take k) j (by simp;omega) (by simp only [List.getElem_take];rw [← HG.out];exact decide_eq_true HE.out)))]), hN3⟩
                     · have ex : (g.x == f.x) = true := by simp [hgx]
                       have ey : (g.y == f.y) = false := by simp [hgy]
                       have HE : Hid (¬ (g.x = f.x /\ g.y = f.y)) := fun h => hgy h.2;clear hgx hgy;go_wp2_with fail
                       refine aR (by kernel_rfl) (by kernel_rfl) ?_
                       repeat (go_big_quiet_step (fail))
                       refine wpQuiet_nil ?_;rintro _ ⟨s, rfl⟩;have hA3 := aY hA2 (nlq _) s.h;have hN3 := aY hNw (nlq _) s.h;generalize s.w = w3 at hA3 hN3;clear s p1 p2 q1 q2 hne2;go_wp2
                       go_roundw
                       case rel => exact ⟨j + 1, by omega, by go_num, hA3, by rw [Hid, eF _ l j (by omega), hnj.out, ← HG.out, m9, decide_eq_false HE.out];rfl⟩
                       case measure => simp [intOf];omega
                   · have ex : (g.x == f.x) = false := by simp [hgx]
                     have HE : Hid (¬ (g.x = f.x /\ g.y = f.y)) := fun h => hgx h.1;clear hgx;go_wp2_with fail
                     refine aR (by kernel_rfl) (by kernel_rfl) ?_
                     repeat (go_big_quiet_step (fail))
                     refine wpQuiet_nil ?_;rintro _ ⟨s, rfl⟩;have hA3 := aY hA2 (nlq _) s.h;have hN3 := aY hNw (nlq _) s.h;generalize s.w = w3 at hA3 hN3;clear s p1 p2 q1 q2 hne2;go_wp2
                     go_roundw
                     case rel => exact ⟨j + 1, by omega, by go_num, hA3, by rw [Hid, eF _ l j (by omega), hnj.out, ← HG.out, m9, decide_eq_false HE.out];rfl⟩
                     case measure => simp [intOf];omega
                 · have hje : j = k := by omega
                   go_wp2
                   go_roundw
                   case rel => exact ⟨k + 1, by omega, by go_num, hNw, hno.out.step hlt (by rw [← HB.out];exact HM.out) (fun _ => by rw [← HA.out, ← HB.out];exact HL.out) (by rw [← HB.out];exact zS HX.out HY.out (by rw [← hje];exact hnj.out))⟩
                   case measure => simp [intOf];omega
              · skip
                go_wp2_with fail
                refine aR (by kernel_rfl) (by kernel_rfl) ?_
                repeat (go_big_quiet_step (first | (go_at_call 121;exact bO.same _ (dW _ _ hnm _ hsz)) | (go_at_call_of 69 f.x;exact bO.same _ (fO _ _ _ _ hx _)) | (go_at_call_of 69 f.y;exact bO.same _ (fO _ _ _ _ hy _))))
                refine wpQuiet_nil ?_;rintro _ ⟨s, rfl⟩;have hN1 : Below w.heap.size w s.w := aD hbw s.h;have hA1 := s.h;generalize s.w = w1 at hN1 hA1;clear s f0 f1 f2 hne g0;go_wp2
                go_ret;exact ⟨aC (by rw [HV.out, jR hlt (by rw [← HB.out];exact xA hy)]), hN1⟩
            · skip
              go_wp2_with fail
              refine aR (by kernel_rfl) (by kernel_rfl) ?_
              repeat (go_big_quiet_step (first | (go_at_call 121;exact bO.same _ (dW _ _ hnm _ hsz)) | (go_at_call_of 69 f.x;exact bO.same _ (fO _ _ _ _ hx _))))
              refine wpQuiet_nil ?_;rintro _ ⟨s, rfl⟩;have hN1 : Below w.heap.size w s.w := aD hbw s.h;have hA1 := s.h;generalize s.w = w1 at hN1 hA1;clear s f0 f1 f2 hne g0;go_wp2
              go_ret;exact ⟨aC (by rw [HV.out, jR hlt (by rw [← HB.out];exact xM hx)]), hN1⟩
          · have HL : Hid (eU a.n f.n = false) := hlt2
            have hbl : Op.bytesLess a.n.toList f.n.toList = false := hlt2;clear hlt2;go_wp2_with fail
            refine aR (by kernel_rfl) (by kernel_rfl) ?_
            repeat (go_big_quiet_step (first | (go_at_call 121;exact bO.same _ (dW _ _ hnm _ hsz))))
            refine wpQuiet_nil ?_;rintro _ ⟨s, rfl⟩;have hN1 : Below w.heap.size w s.w := aD hbw s.h;have hA1 := s.h;generalize s.w = w1 at hN1 hA1;clear s f0 f1 f2 hne g0;go_wp2
            go_ret;exact ⟨aC (by rw [HV.out, JN hlt hkn (by rw [← HA.out, ← HB.out];exact HL.out)]), hN1⟩
      · clear hc
        go_wp2_with fail
        refine aR (by kernel_rfl) (by kernel_rfl) ?_
        repeat (go_big_quiet_step (first | (go_at_call 121;exact bO.same _ (dW _ _ hnm _ hsz))))
        refine wpQuiet_nil ?_;rintro _ ⟨s, rfl⟩;have hN1 : Below w.heap.size w s.w := aD hbw s.h;have hA1 := s.h;generalize s.w = w1 at hN1 hA1;clear s f0 f1 f2 hne;go_wp2
        go_ret;exact ⟨aC (by rw [HV.out, CX hlt (by rw [← HB.out];exact hnm)]), hN1⟩
    · have hke : k = l.length := by omega
      go_wp2
      go_ret;exact ⟨aC (by rw [HV.out, LS hno.out H4.out hke]), hN⟩
 · have H4 : Hid (qH l.length = false) := decide_eq_false h4
   go_enter Tryz.func70, Tryz.ntmps70
   go_wp2
   go_ret;exact ⟨aC (by rw [HV.out, fL, H4.out];rfl), br _ _⟩
end Go.Proofs.YtiojdbffjdoniaaGreatDoor
namespace Go.Proofs.YtiojdbffjdoniaaGreatDoor
set_option maxRecDepth 100000
set_option maxHeartbeats 4000000
open Go.RowKit Go.Shelf
attribute [local go_sem] Oper.semAt_some
theorem nK {l : List Hx} {k : Nat} (h : k < l.length) (hv : bL l[k].n = false) : a9 Hx.n l = false := by
 have : (l.all fun x => bL x.n) = false := by
  rw [Bool.eq_false_iff];intro ha;have := lat.1 ha l[k] (lgm h);rw [hv] at this;cases this
 rw [a9, this];rfl
theorem BH {l : List Hx} (hall : (l.all fun x => bL x.n) = true) (h : ∀ x ∈ bM (jE l) (l.length - 1), eU x.1.n x.2.n = true) : a9 Hx.n l = true := by
 have ha : iO Hx.n l = true := by
  refine (fP Hx.n l).2 fun i hi => ?_;have := h (jE l i) (by simp only [bM, List.mem_map, List.mem_range];exact ⟨i, by omega, rfl⟩);simp only [jE] at this
  rwa [bX l i (by omega), bX l (i + 1) hi] at this
 rw [a9, hall, ha];rfl
theorem BQ {l : List Hx} {k : Nat} (hk : k <= l.length - 1) {x : Hx × Hx} (hx : x ∈ bM (jE l) k) (h : eU x.1.n x.2.n = false) : a9 Hx.n l = false := by
 simp only [bM, List.mem_map, List.mem_range] at hx;obtain ⟨i, hi, rfl⟩ := hx;simp only [jE] at h;rw [bX l i (by omega), bX l (i + 1) (by omega)] at h
 have : iO Hx.n l = false := by
  rw [Bool.eq_false_iff];intro ha;have := (fP Hx.n l).1 ha i (by omega);rw [h] at this;cases this
 rw [a9, this, Bool.and_false]
theorem qM (f : Hx) (w : World) :
 Calls Tryz.prog 90 #[f.val] w fun e w' => e = .returned (.string f.n) /\ Below w.heap.size w w' := by
 go_enter Tryz.func90, Tryz.ntmps90
 go_wp2
 go_ret;exact ⟨rfl, (br _ _).alloc (nlq _) _⟩
theorem I7 (n : Nat) (hn : 6 <= n) (ao : Option Addr) (cap : Nat) (l : List Hx) (hlen : l.length <= 1048576) (hs : ∀ f ∈ l, f.n.size <= 9223372036854775807) (w : World) (hl : Xs 3 Hx.cells w ao l) :
 CallsIn Fence.wide n Tryz.prog 89 #[.slice ao l.length cap, .func (.func 90) #[] #[]] w fun e W' => e = .returned (.bool (a9 Hx.n l)) /\ Below w.heap.size w W' := by
 obtain ⟨V, hV⟩ : ∃ V, V = a9 Hx.n l := ⟨_, rfl⟩;rw [← hV];have HV : Hid (V = a9 Hx.n l) := hV;clear hV;have h1 : 1 <= n := by omega
 refine callsIn_of_wp_marks Tryz.func89 rfl trivial ?_ rfl;simp only [Tryz.ntmps89, lsz, llc, lln, Nat.reduceAdd, Nat.reduceSub, ars, arz, lpt, lap, lna, lca];gi_wp2;have bN := (Boxed.new w 145 (.func (.func 90) #[] #[])).alloc (.cells #[.bool false] 4);have bR := Boxed.new (w.alloc (.cells #[.func (.func 90) #[] #[]] 145)) 4 (.bool false);simp only [wsa] at bR;have hB0 : Below w.heap.size w ((w.alloc (.cells #[.func (.func 90) #[] #[]] 145)).alloc (.cells #[.bool false] 4)) := ((br _ w).alloc (nlq _) _).alloc (by simp) _;have hsz : ((w.alloc (.cells #[.func (.func 90) #[] #[]] 145)).alloc (.cells #[.bool false] 4)).heap.size = w.heap.size + 2 := by simp
 obtain ⟨W0, hW0⟩ : ∃ W0, (w.alloc (.cells #[.func (.func 90) #[] #[]] 145)).alloc (.cells #[.bool false] 4) = W0 := ⟨_, rfl⟩;rw [hW0] at bN bR hB0 hsz ⊢;clear hW0
 gi_loopw [11] (fun i wr => ∃ k : Nat, k <= l.length /\ i = .int .i64 k /\ Below W0.heap.size W0 wr /\ Hid ((l.take k).all (fun x => bL x.n) = true)) (fun i _ => l.length - (intOf i).toNat)
 case atStart => exact ⟨0, nz _, rfl, br _ _, by simp [Hid]⟩
 case round =>
  obtain ⟨k, hk, rfl, hN, hno⟩ := hrel;have bN1 : Boxed wr w.heap.size 145 (.func (.func 90) #[] #[]) := (hN.block _ (by omega)).trans bN;have bR1 : Boxed wr (w.heap.size + 1) 4 (.bool false) := (hN.block _ (by omega)).trans bR;have hBw : Below w.heap.size w wr := hB0.trans (hN.mono (by omega))
  by_cases hlt : k < l.length
  · rcases hl with h | ⟨bl, off, rfl, hc⟩
    · subst h;simp at hlt
    · have hbx := (hc k hlt).zL hBw
      have hsz := hs l[k] (lgm hlt);obtain ⟨b, hbe⟩ : ∃ b, b = l[k] := ⟨_, rfl⟩;rw [← hbe] at hbx hsz;have HB : Hid (b = l[k]) := hbe;clear hbe hc;obtain ⟨c0, c1, c2⟩ := eC hbx;clear hbx;have cN := bN1.cell;have hz0 : w.heap.size < wr.heap.size := bN1.lt;have hz1 : w.heap.size + 1 < wr.heap.size := bR1.lt;gi_wp2_with fail
      refine ⟨trivial, ?_⟩;refine (cw.2 (qM b _)).mono ?_;rintro e w1 ⟨rfl, hb1⟩;gi_wp2_with fail
      refine ⟨trivial, ?_⟩;refine (cw.2 (pA b.n _ hsz)).mono ?_;rintro e w1 ⟨rfl, rfl⟩;have hN1 : Below W0.heap.size W0 w1 := aD (hN.alloc hN.size _) hb1;have bR2 : Boxed w1 (w.heap.size + 1) 4 (.bool false) := (hN1.block _ (by omega)).trans bR;have cR := bR2.cell;have fR := bR2.frozen;clear c0 c1 c2 cN;gi_wp2
      · have hv : bL b.n = false := nf (by assumption)
        have hc5 := (bR2.set (.bool false)).cell;refine ⟨.bool false, ?_, by rw [HV.out, nK hlt (by rw [← HB.out];exact hv)], (hB0.trans (hN1.mono (by omega))).setCell (p := ⟨w.heap.size + 1, 0, none⟩) (by simp) _⟩
        simp [results, Tryz.f89, go_sem, hc5]
      · have hv : bL b.n = true := nt (by assumption)
        go_roundw
        case rel => exact ⟨k + 1, by omega, by go_num, hN1, by rw [Hid, List.take_succ_eq_append_getElem hlt, List.all_append, hno.out, ← HB.out];simp [hv]⟩
        case measure => simp [intOf];omega
  · clear hs
    rw [ltl (by omega)] at hno;gi_wp2_with fail
    refine ⟨trivial, ?_⟩;refine (JX (n - 1) _ _ _ _).mono ?_;rintro e w' ⟨rfl, rfl⟩;gi_wp2_with fail
    have bS := Boxed.new wr 27 (.slice ao l.length cap);have hN2 : Below W0.heap.size W0 (wr.alloc (.cells #[.slice ao l.length cap] 27)) := hN.alloc hN.size _;have bN2 := bN1.alloc (.cells #[.slice ao l.length cap] 27);have bR2 := bR1.alloc (.cells #[.slice ao l.length cap] 27);have hBw2 : Below w.heap.size w (wr.alloc (.cells #[.slice ao l.length cap] 27)) := hBw.alloc hBw.size _;have hz1 : w.heap.size + 1 < wr.heap.size := bR1.lt;have hsz2 : (wr.alloc (.cells #[.slice ao l.length cap] 27)).heap.size = wr.heap.size + 1 := by simp
    obtain ⟨H, hH⟩ : ∃ H, wr.heap.size = H := ⟨_, rfl⟩;rw [hH] at hz1 hsz2 bS ⊢;obtain ⟨W2, hW2⟩ : ∃ W2, wr.alloc (.cells #[.slice ao l.length cap] 27) = W2 := ⟨_, rfl⟩;rw [hW2] at bS hN2 bN2 bR2 hBw2 hsz2 ⊢;clear hW2 hH bN1 bR1 hBw hN
    refine wpIn_rangeFunc_ownH rfl h1 (gf := 167) (lb := #[.pointer (some ⟨H, 0, none⟩)]) rfl trivial (enters_of Tryz.func167 (by kernel_rfl) rfl)
     (zD (n - 1) H cap ao l hlen W2 bS.cell (hl.zL hBw2)) belowK_t (belowK_b (nlq _)) (br _ _) (fun _ => rfl)
     (fun pre W => (∀ x ∈ pre, eU x.1.n x.2.n = true) /\ Below W2.heap.size W2 W)
     (fun c pre W => ((c = .ret /\ ∃ x ∈ pre, eU x.1.n x.2.n = false) /\ Boxed W (w.heap.size + 1) 4 (.bool false)) /\ Below w.heap.size w W)
     (OwnFrom.and (ownFrom_pure _ _) (ownFrom_below (nlq _) (nlq _)))
     (fun c => OwnFrom.and (OwnFrom.and (ownFrom_pure _ _) (Own.from (boxed_own _ _ _) _)) (ownFrom_below (nlq _) (by omega)))
     ⟨by simp, br _ _⟩
     (fun x a' W => ∃ B1 B2, aM W B1 0 x.1.cells /\ aM W B2 0 x.2.cells /\ a' = { tmps := #[.slice ao l.length cap, .func (.func 90) #[] #[], undef, .pointer (some ⟨w.heap.size, 0, none⟩), .pointer (some ⟨w.heap.size + 1, 0, none⟩), undef, u6, .pointer (some ⟨B1, 0, none⟩), .pointer (some ⟨B2, 0, none⟩), .slice ao l.length cap, .int .i64 l.length, .int .i64 k, .bool false, u13, u14, u15, u16, u17, u18, u19, u20, .slice ao l.length cap, .func (.func 167) #[] #[.pointer (some ⟨H, 0, none⟩)], x.1.val, x.2.val, undef, undef, undef, undef, undef, undef, undef], defers := [] })
     (fun x a' _ X Y row hs hg hr => by obtain ⟨B1, B2, e1, e2, e3⟩ := hs;exact ⟨B1, B2, dE e1 hg (fun r e => (hr r e).2), dE e2 hg (fun r e => (hr r e).2), e3⟩)
     ?assign ?body ?done ?stop
    case assign =>
     rintro lp pre x W K ⟨hp, hB1⟩ hK;gi_wp2
     exact hK _ _ (((KeepsOthers.alloc _ _).trans (KeepsOthers.alloc _ _)).from _) (((br _ W).alloc hB1.size _).alloc (by have := hB1.size;simp;omega) _) ⟨hp, (hB1.alloc hB1.size _).alloc (by have := hB1.size;simp;omega) _⟩
      ⟨W.heap.size, W.heap.size + 1, (eN W _ 42 rfl _ _ _).zL ((br _ _).alloc (nlq _) _), eN _ _ 42 (by simp) _ _ _, rfl⟩
    case body =>
     rintro lp pre x a' W hl' ⟨r, hr⟩ ⟨hp, hB1⟩ ⟨B1, B2, e1, e2, rfl⟩ hlt';have bN3 : Boxed W w.heap.size 145 (.func (.func 90) #[] #[]) := (hB1.block _ (by omega)).trans bN2;have bR3 : Boxed W (w.heap.size + 1) 4 (.bool false) := (hB1.block _ (by omega)).trans bR2;obtain ⟨c0, c1, c2⟩ := eC e1;obtain ⟨d0, d1, d2⟩ := eC e2;rw [Nat.zero_add] at c1 c2 d1 d2;have hne : Nonempty (bO W) := ⟨⟨W, br _ _⟩⟩;have f0 := bO.cell c0;have f1 := bO.cell c1;have f2 := bO.cell c2;have g0 := bO.cell d0;have g1 := bO.cell d1;have g2 := bO.cell d2;have fN := bO.cell bN3.cell;clear c0 c1 c2 d0 d1 d2 e1 e2;gi_wp2_with fail
     refine mP (by kernel_rfl) (by kernel_rfl) (by kernel_rfl) ?_
     repeat (go_big_quiet_step ((go_at_call 90;exact bO.call _ (qM _ _))))
     refine wpQuiet_nil ?_;rintro _ ⟨s, rfl⟩;have hb1 := s.h;generalize s.w = w1 at hb1;clear s f0 f1 f2 g0 g1 g2 fN hne;have bR4 : Boxed w1 (w.heap.size + 1) 4 (.bool false) := (hb1.block _ bR3.lt).trans bR3;have cR := bR4.cell;have fR := bR4.frozen;have hBw1 : Below w.heap.size w w1 := (hBw2.trans (hB1.mono (by omega))).trans (hb1.mono (by have := hB1.size;omega));gi_wp2
     · have hcl : eU x.1.n x.2.n = false := nf (by assumption)
       exact ⟨((bE hb1).trans (KeepsOthers.setCell _ _ _)).from _, ⟨⟨rfl, x, lma.2 (.inr (by simp)), hcl⟩, bR4.set _⟩, hBw1.setCell (p := ⟨w.heap.size + 1, 0, none⟩) (by simp) _⟩
     · have hcl : eU x.1.n x.2.n = true := nt (by assumption)
       exact ⟨(bE hb1).from _, hb1.mono hB1.size, fun y hy => (lma.1 hy).elim (hp y) (fun e => by simp at e;subst e;exact hcl), hB1.trans (hb1.mono hB1.size)⟩
    case done =>
     rintro D zs W hD rfl ⟨hp, hB1⟩ hK;have bR3 : Boxed W (w.heap.size + 1) 4 (.bool false) := (hB1.block _ (by omega)).trans bR2;have cR := bR3.cell;have fR := bR3.frozen;gi_wp2;have hK' := (KeepsOthers.setCell W ⟨w.heap.size + 1, 0, none⟩ (.bool true)).same D _ hK rfl;refine ⟨by simp, .inl ⟨_, _, rfl, run_takeDeferred hK', ?_⟩⟩;have hc5 := cell_kept (bR3.set (.bool true)).cell (grownBy_putObj' _ D (.deferred none)) (fun r e => by cases e;exact ⟨_, hK', rfl⟩);refine ⟨.bool true, ?_, by rw [HV.out, BH hno.out hp], (((hBw2.trans (hB1.mono (by omega))).setCell (p := ⟨w.heap.size + 1, 0, none⟩) (by simp) _).trans (belowK_b (w := w) (nlq _) _ D _ _ (by omega) hK' rfl rfl))⟩
     simp [results, Tryz.f89, go_sem, hc5]
    case stop =>
     rintro D c pre W hD ⟨q, hq, rfl⟩ ⟨⟨⟨rfl, x, hx, hy⟩, bR3⟩, hB1⟩ hK;gi_wp2;refine ⟨by simp, .inl ⟨_, _, rfl, run_takeDeferred hK, ?_⟩⟩;have hc5 := cell_kept bR3.cell (grownBy_putObj' _ D (.deferred none)) (fun r e => by cases e;exact ⟨_, hK, rfl⟩);refine ⟨.bool false, ?_, by rw [HV.out, BQ hq hx hy], hB1.trans (belowK_b (w := w) (nlq _) W D _ _ (by omega) hK rfl rfl)⟩
     simp [results, Tryz.f89, go_sem, hc5]
theorem EW (ao : Option Addr) (cap : Nat) (l : List Hx) (hlen : l.length <= 1048576) (hs : ∀ f ∈ l, f.n.size <= 9223372036854775807) (w : World) (hl : Xs 3 Hx.cells w ao l) :
 Calls Tryz.prog 89 #[.slice ao l.length cap, .func (.func 90) #[] #[]] w fun e W' => e = .returned (.bool (a9 Hx.n l)) /\ Below w.heap.size w W' :=
 cw.1 (I7 6 (by omega) ao cap l hlen hs w hl)
end Go.Proofs.YtiojdbffjdoniaaGreatDoor
namespace Go.Proofs.YtiojdbffjdoniaaGreatDoor
set_option maxRecDepth 100000
set_option maxHeartbeats 1000000
open Go.RowKit
def eE (now : Int) (l : List Bx) : Bool := l.all fun b => decide (now <= b.i)
theorem AW {now : Int} {l : List Bx} {k : Nat} (h : k < l.length) (hv : ¬ now <= l[k].i) : eE now l = false := oV _ l k h (decide_eq_false hv)
theorem tZ (l : List Bx) (ao : Option Addr) (cap : Nat) (now : Int) (w : World) (hl : iH w ao l) (hn : l.length <= 1048576) :
 Calls Tryz.prog 79 #[.slice ao l.length cap, .int .i64 now] w fun e w' => e = .returned (.bool (eE now l)) /\ w' = w := by
 go_enter Tryz.func79, Tryz.ntmps79
 go_wp2
 go_loop [5] (fun i => ∃ k : Nat, k <= l.length /\ i = .int .i64 k /\ Hid (eE now (l.take k) = true)) (fun i => l.length - (intOf i).toNat)
 case atStart => exact ⟨0, nz _, rfl, by simp [Hid, eE]⟩
 case round =>
  obtain ⟨k, hk, rfl, hno⟩ := hrel
  by_cases hlt : k < l.length
  · rcases hl with h | ⟨bl, off, rfl, hc⟩
    · subst h;simp at hlt
    · have hbx := hc k hlt
      obtain ⟨b, hbe⟩ : ∃ b, b = l[k] := ⟨_, rfl⟩;rw [← hbe] at hbx;have HB : Hid (b = l[k]) := hbe;clear hbe hc;obtain ⟨c0, c1, c2, c3, c4, c5⟩ := hbx
      by_cases hv : now <= b.i
      · have hv' : ¬ b.i < now := by omega
        go_wp2
        go_round
        case rel => exact ⟨k + 1, by omega, by go_num, by rw [Hid, eE, qC _ l k hlt];rw [Hid, eE] at hno;rw [hno, ← HB.out, decide_eq_true hv];rfl⟩
        case measure => simp [intOf];omega
      · have hv' : b.i < now := by omega
        go_wp2
        go_ret;exact ⟨aC (AW hlt (by rw [← HB.out];omega)).symm, rfl⟩
  · go_wp2
    go_ret;rw [ltl (by omega)] at hno;exact ⟨aC hno.out.symm, rfl⟩
theorem vG (l : List Bx) (ao : Option Addr) (cap : Nat) (now : Int) (w : World) (hl : iH w ao l) (hn : l.length <= 1048576) :
 Calls Tryz.prog 141 #[.slice ao l.length cap, .int .i64 now] w fun e w' => e = .returned (.bool (eE now l)) /\ Below w.heap.size w w' := by
 go_enter Tryz.func141, Tryz.ntmps141
 go_wp2
 go_loopw [9] (fun i wr => ∃ k : Nat, k <= l.length /\ i = .int .i64 k /\ Below w.heap.size w wr /\ Hid (eE now (l.take k) = true)) (fun i _ => l.length - (intOf i).toNat)
 case atStart => exact ⟨0, nz _, rfl, br _ _, by simp [Hid, eE]⟩
 case round =>
  obtain ⟨k, hk, rfl, hN, hno⟩ := hrel
  by_cases hlt : k < l.length
  · rcases hl with h | ⟨bl, off, rfl, hc⟩
    · subst h;simp at hlt
    · have hbx := (hc k hlt).zL hN
      obtain ⟨b, hbe⟩ : ∃ b, b = l[k] := ⟨_, rfl⟩;rw [← hbe] at hbx;have HB : Hid (b = l[k]) := hbe;clear hbe hc;obtain ⟨c0, c1, c2, c3, c4, c5⟩ := hbx
      by_cases hv : now <= b.i
      · have hv' : ¬ b.i < now := by omega
        go_wp2
        go_roundw
        case rel => exact ⟨k + 1, by omega, by go_num, hN.alloc hN.size _, by rw [Hid, eE, qC _ l k hlt];rw [Hid, eE] at hno;rw [hno, ← HB.out, decide_eq_true hv];rfl⟩
        case measure => simp [intOf];omega
      · have hv' : b.i < now := by omega
        go_wp2
        go_ret;exact ⟨aC (AW hlt (by rw [← HB.out];omega)).symm, hN.alloc hN.size _⟩
  · go_wp2
    go_ret;rw [ltl (by omega)] at hno;exact ⟨aC hno.out.symm, hN⟩
structure Bk where
 now : Int
 fa : Option Addr
 fl : List Fx
 fc : Nat
 ha : Option Addr
 hl : List Hx
 hc : Nat
abbrev Bk.val (b : Bk) : Value := .agg #[.int .i64 b.now, .slice b.fa b.fl.length b.fc, .slice b.ha b.hl.length b.hc]
def mD (n : Int) : Bool := decide (0 <= n /\ n <= 10000)
theorem HJ (b : Bk) (w : World) :
 Calls Tryz.prog 36 #[b.val] w fun e w' => e = .returned (.bool (mD b.now)) /\ Below w.heap.size w w' := by
 go_enter Tryz.func36, Tryz.ntmps36
 go_wp2
 all_goals go_ret
 all_goals refine ⟨aC ?_, (br _ _).alloc (nlq _) _⟩
 all_goals (rw [Bool.eq_iff_iff];simp only [mD, dte, Bool.false_eq_true, false_iff];omega)
theorem JT (b : Bk) (w : World) (hf : Xs 3 Fx.cells w b.fa b.fl) (hn : b.fl.length <= 1048576) (hcap : b.fl.length <= b.fc) (hc2 : b.fc <= 9223372036854775807) (hs : ∀ f ∈ b.fl, f.n.size <= 9223372036854775807) :
 Calls Tryz.prog 37 #[b.val] w fun e w' => e = .returned (.bool (aW b.fl)) /\ Below w.heap.size w w' := by
 go_enter Tryz.func37, Tryz.ntmps37
 go_wp2_with (go_at_call 38;refine (nR b.fl _ _ hcap hc2 _ (hf.zL (aB (br _ _) _)) hn hs).mono ?_;rintro e w1 ⟨rfl, hb1⟩)
 go_ret;exact ⟨rfl, aD (aB (br _ _) _) hb1⟩
def cI (n : Nat) : Bool := decide (n <= 16)
theorem BF (b : Bk) (w : World) (hh : Xs 3 Hx.cells w b.ha b.hl) (hn : b.hl.length <= 1048576) (hs : ∀ h ∈ b.hl, h.n.size <= 9223372036854775807) :
 Calls Tryz.prog 39 #[b.val] w fun e w' => e = .returned (.bool (cI b.hl.length && a9 Hx.n b.hl)) /\ Below w.heap.size w w' := by
 obtain ⟨V, hV⟩ : ∃ V, V = (cI b.hl.length && a9 Hx.n b.hl) := ⟨_, rfl⟩;rw [← hV];have HV : Hid (V = (cI b.hl.length && a9 Hx.n b.hl)) := hV;clear hV
 by_cases h : b.hl.length <= 16
 · have e1 : decide ((b.hl.length : Int) <= 16) = true := by simp;omega
   go_enter Tryz.func39, Tryz.ntmps39
   go_wp2_with (go_at_call 89;refine (EW _ _ b.hl hn hs _ (hh.zL (aB (br _ _) _))).mono ?_;rintro e w1 ⟨rfl, hb1⟩)
   all_goals first
    | (go_ret
       exact ⟨aC (by rw [HV.out, cI, decide_eq_true h];rfl), aD (aB (br _ _) _) hb1⟩)
    | omega
 · have e1 : decide ((b.hl.length : Int) <= 16) = false := by simp;omega
   go_enter Tryz.func39, Tryz.ntmps39
   go_wp2
   go_ret;exact ⟨aC (by rw [HV.out, cI, decide_eq_false h];rfl), aB (br _ _) _⟩
theorem aH {w : World} {z j : Nat} {cs : Array Value} {t : TypeId} {v : Value} (h : w.heap[z]? = some (.cells cs t)) (hj : cs[j]? = some v) : w.cell? ⟨z, j, none⟩ = some v := by simp [World.cell?, h, hj]
theorem aG.weak {w : World} {base base' : Nat} {v : Value} {l : List Bx} (h : aG w base v l) (hb : base' <= base) : aG w base' v l := by
 rcases h with h | ⟨g, cap, h1, h2, h3, h4⟩
 · exact .inl h
 · exact .inr ⟨g, cap, h1, by omega, h3, h4⟩
abbrev Bk.obj (b : Bk) : Obj := .cells #[.int .i64 b.now, .slice b.fa b.fl.length b.fc, .slice b.ha b.hl.length b.hc] 29
end Go.Proofs.YtiojdbffjdoniaaGreatDoor
