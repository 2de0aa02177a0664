import Derived.Test.YtjlliijeaekmfaaGreatDoorFollF
import Derived.Test.YtjlliijeaekmfaaGreatDoorLeaf
import Derived.Test.YtjlliijeaekmfaaGreatDoorFld
namespace Go.Proofs.YtjlliijeaekmfaaGreatDoor
set_option maxRecDepth 100000
set_option maxHeartbeats 4000000
open Go.RowKit Go.Shelf
attribute [local go_sem] Oper.semAt_some
def ltB (a b : ByteArray) : Bool := Op.bytesLess a.toList b.toList
def ascG {α : Type} (nm : α -> ByteArray) : List α -> Bool
 | a :: b :: r => ltB (nm a) (nm b) && ascG nm (b :: r)
 | _ => true
theorem ascG_iff {α : Type} (nm : α -> ByteArray) : ∀ l : List α, ascG nm l = true ↔ ∀ i (h : i + 1 < l.length), ltB (nm l[i]) (nm l[i + 1]) = true
 | [] => by simp [ascG]
 | [a] => by simp [ascG]
 | a :: b :: r => by
  rw [ascG, Bool.and_eq_true, ascG_iff nm (b :: r)]
  constructor
  · rintro ⟨h0, h⟩ i hi
    cases i with
    | zero => exact h0
    | succ i => exact h i (by simpa using hi)
  · intro h
    exact ⟨h 0 (by simp), fun i hi => h (i + 1) (by simpa using hi)⟩
def namesG {α : Type} (nm : α -> ByteArray) (l : List α) : Bool := (l.all fun x => nameB (nm x)) && ascG nm l
theorem cellsAt_kept {W W' : World} {row : Option Nat} {bl of : Nat} {c : List Value} (h : CellsAt W bl of c) (hg : W.grownBy W' row) (hrow : ∀ r, row = some r -> ∃ o : Obj, W.heap[r]? = some o /\ o.isCells = false) : CellsAt W' bl of c :=
 fun j v hj => cell_kept (h j v hj) hg hrow
theorem cellsAt_new3 (W : World) (g t : Nat) (hg : g = W.heap.size) (v0 v1 v2 : Value) : CellsAt (W.alloc (.cells #[v0, v1, v2] t)) g 0 [v0, v1, v2] := by
 subst hg; intro j v hj
 match j, hj with
 | 0, hj => simp at hj; subst hj; simp
 | 1, hj => simp at hj; subst hj; simp
 | 2, hj => simp at hj; subst hj; simp
theorem names_no_name {l : List Fx} {k : Nat} (h : k < l.length) (hv : nameB l[k].n = false) : namesG Fx.n l = false := by
 have : (l.all fun x => nameB x.n) = false := by
  rw [Bool.eq_false_iff]; intro ha; have := List.all_eq_true.1 ha l[k] (List.getElem_mem h); rw [hv] at this; cases this
 rw [namesG, this]; rfl
theorem names_done {l : List Fx} (hall : (l.all fun x => nameB x.n) = true) (h : ∀ x ∈ upto (flpair l) (l.length - 1), ltB x.1.n x.2.n = true) : namesG Fx.n l = true := by
 have ha : ascG Fx.n l = true := by
  refine (ascG_iff Fx.n l).2 fun i hi => ?_; have := h (flpair l i) (by simp only [upto, List.mem_map, List.mem_range]; exact ⟨i, by omega, rfl⟩); simp only [flpair] at this
  rwa [flget_eq l i (by omega), flget_eq l (i + 1) hi] at this
 rw [namesG, hall, ha]; rfl
theorem names_stop {l : List Fx} {k : Nat} (hk : k <= l.length - 1) {x : Fx × Fx} (hx : x ∈ upto (flpair l) k) (h : ltB x.1.n x.2.n = false) : namesG Fx.n l = false := by
 simp only [upto, List.mem_map, List.mem_range] at hx; obtain ⟨i, hi, rfl⟩ := hx; simp only [flpair] at h; rw [flget_eq l i (by omega), flget_eq l (i + 1) (by omega)] at h
 have : ascG Fx.n l = false := by
  rw [Bool.eq_false_iff]; intro ha; have := (ascG_iff Fx.n l).1 ha i (by omega); rw [h] at this; cases this
 rw [namesG, this, Bool.and_false]
theorem fieldName_any (f : Fx) (w : World) :
 Calls Tryz.prog 166 #[f.val] w fun e w' => e = .returned (.string f.n) /\ Below w.heap.size w w' := by
 go_enter Tryz.func166, Tryz.ntmps166
 go_wp2
 go_ret; exact ⟨rfl, (Below.refl _ _).alloc (Nat.le_refl _) _⟩
theorem namesF_in (n : Nat) (hn : 6 <= n) (ao : Option Addr) (cap : Nat) (l : List Fx) (hlen : l.length <= 1048576) (hs : ∀ f ∈ l, f.n.size <= 9223372036854775807) (w : World) (hl : Xs 3 Fx.cells w ao l) :
 CallsIn Fence.wide n Tryz.prog 165 #[.slice ao l.length cap, .func (.func 166) #[] #[]] w fun e W' => e = .returned (.bool (namesG Fx.n l)) /\ Below w.heap.size w W' := by
 obtain ⟨V, hV⟩ : ∃ V, V = namesG Fx.n l := ⟨_, rfl⟩; rw [← hV]; have HV : Hid (V = namesG Fx.n l) := hV; clear hV; have h1 : 1 <= n := by omega
 refine callsIn_of_wp_marks Tryz.func165 rfl trivial ?_ rfl; simp only [Tryz.ntmps165, List.size_toArray, List.length_cons, List.length_nil, Nat.reduceAdd, Nat.reduceSub, Array.replicate_succ, Array.replicate_zero, List.push_toArray, List.append_toArray, List.nil_append, List.cons_append]; gi_wp2; have bN := (Boxed.new w 226 (.func (.func 166) #[] #[])).alloc (.cells #[.bool false] 4); have bR := Boxed.new (w.alloc (.cells #[.func (.func 166) #[] #[]] 226)) 4 (.bool false); simp only [World.size_alloc] at bR; have hB0 : Below w.heap.size w ((w.alloc (.cells #[.func (.func 166) #[] #[]] 226)).alloc (.cells #[.bool false] 4)) := ((Below.refl _ w).alloc (Nat.le_refl _) _).alloc (by simp) _; have hsz : ((w.alloc (.cells #[.func (.func 166) #[] #[]] 226)).alloc (.cells #[.bool false] 4)).heap.size = w.heap.size + 2 := by simp
 obtain ⟨W0, hW0⟩ : ∃ W0, (w.alloc (.cells #[.func (.func 166) #[] #[]] 226)).alloc (.cells #[.bool false] 4) = W0 := ⟨_, rfl⟩; rw [hW0] at bN bR hB0 hsz ⊢; clear hW0
 gi_loopw [11] (fun i wr => ∃ k : Nat, k <= l.length /\ i = .int .i64 k /\ Below W0.heap.size W0 wr /\ Hid ((l.take k).all (fun x => nameB x.n) = true)) (fun i _ => l.length - (intOf i).toNat)
 case atStart => exact ⟨0, Nat.zero_le _, rfl, Below.refl _ _, by simp [Hid]⟩
 case round =>
  obtain ⟨k, hk, rfl, hN, hno⟩ := hrel; have bN1 : Boxed wr w.heap.size 226 (.func (.func 166) #[] #[]) := (hN.block _ (by omega)).trans bN; have bR1 : Boxed wr (w.heap.size + 1) 4 (.bool false) := (hN.block _ (by omega)).trans bR; have hBw : Below w.heap.size w wr := hB0.trans (hN.mono (by omega))
  by_cases hlt : k < l.length
  · rcases hl with h | ⟨bl, off, rfl, hc⟩
    · subst h; simp at hlt
    · have hbx := (hc k hlt).later hBw
      have hsz := hs l[k] (List.getElem_mem hlt); obtain ⟨b, hbe⟩ : ∃ b, b = l[k] := ⟨_, rfl⟩; rw [← hbe] at hbx hsz; have HB : Hid (b = l[k]) := hbe; clear hbe hc; obtain ⟨c0, c1, c2⟩ := fld_at hbx; clear hbx; have cN := bN1.cell; have hz0 : w.heap.size < wr.heap.size := bN1.lt; have hz1 : w.heap.size + 1 < wr.heap.size := bR1.lt; gi_wp2_with fail
      refine ⟨trivial, ?_⟩; refine (callsIn_wide.2 (fieldName_any b _)).mono ?_; rintro e w1 ⟨rfl, hb1⟩; gi_wp2_with fail
      refine ⟨trivial, ?_⟩; refine (callsIn_wide.2 (isName_any b.n _ hsz)).mono ?_; rintro e w1 ⟨rfl, rfl⟩; have hN1 : Below W0.heap.size W0 w1 := bstep (hN.alloc hN.size _) hb1; have bR2 : Boxed w1 (w.heap.size + 1) 4 (.bool false) := (hN1.block _ (by omega)).trans bR; have cR := bR2.cell; have fR := bR2.frozen; clear c0 c1 c2 cN; gi_wp2
      · have hv : nameB b.n = false := nf (by assumption)
        have hc5 := (bR2.set (.bool false)).cell; refine ⟨.bool false, ?_, by rw [HV.out, names_no_name hlt (by rw [← HB.out]; exact hv)], (hB0.trans (hN1.mono (by omega))).setCell (p := ⟨w.heap.size + 1, 0, none⟩) (by simp) _⟩
        simp [results, Tryz.f165, go_sem, hc5]
      · have hv : nameB b.n = true := nt (by assumption)
        go_roundw
        case rel => exact ⟨k + 1, by omega, by go_num, hN1, by rw [Hid, List.take_succ_eq_append_getElem hlt, List.all_append, hno.out, ← HB.out]; simp [hv]⟩
        case measure => simp [intOf]; omega
  · clear hs
    rw [List.take_of_length_le (by omega)] at hno; gi_wp2_with fail
    refine ⟨trivial, ?_⟩; refine (flfoll_in (n - 1) _ _ _ _).mono ?_; rintro e w' ⟨rfl, rfl⟩; gi_wp2_with fail
    have bS := Boxed.new wr 32 (.slice ao l.length cap); have hN2 : Below W0.heap.size W0 (wr.alloc (.cells #[.slice ao l.length cap] 32)) := hN.alloc hN.size _; have bN2 := bN1.alloc (.cells #[.slice ao l.length cap] 32); have bR2 := bR1.alloc (.cells #[.slice ao l.length cap] 32); have hBw2 : Below w.heap.size w (wr.alloc (.cells #[.slice ao l.length cap] 32)) := hBw.alloc hBw.size _; have hz1 : w.heap.size + 1 < wr.heap.size := bR1.lt; have hsz2 : (wr.alloc (.cells #[.slice ao l.length cap] 32)).heap.size = wr.heap.size + 1 := by simp
    obtain ⟨H, hH⟩ : ∃ H, wr.heap.size = H := ⟨_, rfl⟩; rw [hH] at hz1 hsz2 bS ⊢; obtain ⟨W2, hW2⟩ : ∃ W2, wr.alloc (.cells #[.slice ao l.length cap] 32) = W2 := ⟨_, rfl⟩; rw [hW2] at bS hN2 bN2 bR2 hBw2 hsz2 ⊢; clear hW2 hH bN1 bR1 hBw hN
    refine wpIn_rangeFunc_ownH rfl h1 (gf := 226) (lb := #[.pointer (some ⟨H, 0, none⟩)]) rfl trivial (enters_of Tryz.func226 (by kernel_rfl) rfl)
     (flfoll_stops (n - 1) H cap ao l hlen W2 bS.cell (hl.later hBw2)) belowK_t (belowK_b (Nat.le_refl _)) (Below.refl _ _) (fun _ => rfl)
     (fun pre W => (∀ x ∈ pre, ltB x.1.n x.2.n = true) /\ Below W2.heap.size W2 W)
     (fun c pre W => ((c = .ret /\ ∃ x ∈ pre, ltB x.1.n x.2.n = false) /\ Boxed W (w.heap.size + 1) 4 (.bool false)) /\ Below w.heap.size w W)
     (OwnFrom.and (ownFrom_pure _ _) (ownFrom_below (Nat.le_refl _) (Nat.le_refl _)))
     (fun c => OwnFrom.and (OwnFrom.and (ownFrom_pure _ _) (Own.from (boxed_own _ _ _) _)) (ownFrom_below (Nat.le_refl _) (by omega)))
     ⟨by simp, Below.refl _ _⟩
     (fun x a' W => ∃ B1 B2, CellsAt W B1 0 x.1.cells /\ CellsAt W B2 0 x.2.cells /\ a' = { tmps := #[.slice ao l.length cap, .func (.func 166) #[] #[], undef, .pointer (some ⟨w.heap.size, 0, none⟩), .pointer (some ⟨w.heap.size + 1, 0, none⟩), undef, u6, .pointer (some ⟨B1, 0, none⟩), .pointer (some ⟨B2, 0, none⟩), .slice ao l.length cap, .int .i64 l.length, .int .i64 k, .bool false, u13, u14, u15, u16, u17, u18, u19, u20, .slice ao l.length cap, .func (.func 226) #[] #[.pointer (some ⟨H, 0, none⟩)], x.1.val, x.2.val, undef, undef, undef, undef, undef, undef, undef], defers := [] })
     (fun x a' _ X Y row hs hg hr => by obtain ⟨B1, B2, e1, e2, e3⟩ := hs; exact ⟨B1, B2, cellsAt_kept e1 hg (fun r e => (hr r e).2), cellsAt_kept e2 hg (fun r e => (hr r e).2), e3⟩)
     ?assign ?body ?done ?stop
    case assign =>
     rintro lp pre x W K ⟨hp, hB1⟩ hK; gi_wp2
     exact hK _ _ (((KeepsOthers.alloc _ _).trans (KeepsOthers.alloc _ _)).from _) (((Below.refl _ W).alloc hB1.size _).alloc (by have := hB1.size; simp; omega) _) ⟨hp, (hB1.alloc hB1.size _).alloc (by have := hB1.size; simp; omega) _⟩
      ⟨W.heap.size, W.heap.size + 1, (cellsAt_new3 W _ 150 rfl _ _ _).later ((Below.refl _ _).alloc (Nat.le_refl _) _), cellsAt_new3 _ _ 150 (by simp) _ _ _, rfl⟩
    case body =>
     rintro lp pre x a' W hl' ⟨r, hr⟩ ⟨hp, hB1⟩ ⟨B1, B2, e1, e2, rfl⟩ hlt'; have bN3 : Boxed W w.heap.size 226 (.func (.func 166) #[] #[]) := (hB1.block _ (by omega)).trans bN2; have bR3 : Boxed W (w.heap.size + 1) 4 (.bool false) := (hB1.block _ (by omega)).trans bR2; obtain ⟨c0, c1, c2⟩ := fld_at e1; obtain ⟨d0, d1, d2⟩ := fld_at e2; rw [Nat.zero_add] at c1 c2 d1 d2; have hne : Nonempty (Aft W) := ⟨⟨W, Below.refl _ _⟩⟩; have f0 := Aft.cell c0; have f1 := Aft.cell c1; have f2 := Aft.cell c2; have g0 := Aft.cell d0; have g1 := Aft.cell d1; have g2 := Aft.cell d2; have fN := Aft.cell bN3.cell; clear c0 c1 c2 d0 d1 d2 e1 e2; gi_wp2_with fail
     refine wpIn_region_aft (by kernel_rfl) (by kernel_rfl) (by kernel_rfl) ?_
     repeat (go_big_quiet_step ((go_at_call 166; exact Aft.call _ (fieldName_any _ _))))
     refine wpQuiet_nil ?_; rintro _ ⟨s, rfl⟩; have hb1 := s.h; generalize s.w = w1 at hb1; clear s f0 f1 f2 g0 g1 g2 fN hne; have bR4 : Boxed w1 (w.heap.size + 1) 4 (.bool false) := (hb1.block _ bR3.lt).trans bR3; have cR := bR4.cell; have fR := bR4.frozen; have hBw1 : Below w.heap.size w w1 := (hBw2.trans (hB1.mono (by omega))).trans (hb1.mono (by have := hB1.size; omega)); gi_wp2
     · have hcl : ltB x.1.n x.2.n = false := nf (by assumption)
       exact ⟨((keeps_below hb1).trans (KeepsOthers.setCell _ _ _)).from _, ⟨⟨rfl, x, List.mem_append.2 (.inr (by simp)), hcl⟩, bR4.set _⟩, hBw1.setCell (p := ⟨w.heap.size + 1, 0, none⟩) (by simp) _⟩
     · have hcl : ltB x.1.n x.2.n = true := nt (by assumption)
       exact ⟨(keeps_below hb1).from _, hb1.mono hB1.size, fun y hy => (List.mem_append.1 hy).elim (hp y) (fun e => by simp at e; subst e; exact hcl), hB1.trans (hb1.mono hB1.size)⟩
    case done =>
     rintro D zs W hD rfl ⟨hp, hB1⟩ hK; have bR3 : Boxed W (w.heap.size + 1) 4 (.bool false) := (hB1.block _ (by omega)).trans bR2; have cR := bR3.cell; have fR := bR3.frozen; gi_wp2; have hK' := (KeepsOthers.setCell W ⟨w.heap.size + 1, 0, none⟩ (.bool true)).same D _ hK rfl; refine ⟨by simp, .inl ⟨_, _, rfl, run_takeDeferred hK', ?_⟩⟩; have hc5 := cell_kept (bR3.set (.bool true)).cell (grownBy_putObj' _ D (.deferred none)) (fun r e => by cases e; exact ⟨_, hK', rfl⟩); refine ⟨.bool true, ?_, by rw [HV.out, names_done hno.out hp], (((hBw2.trans (hB1.mono (by omega))).setCell (p := ⟨w.heap.size + 1, 0, none⟩) (by simp) _).trans (belowK_b (w := w) (Nat.le_refl _) _ D _ _ (by omega) hK' rfl rfl))⟩
     simp [results, Tryz.f165, go_sem, hc5]
    case stop =>
     rintro D c pre W hD ⟨q, hq, rfl⟩ ⟨⟨⟨rfl, x, hx, hy⟩, bR3⟩, hB1⟩ hK; gi_wp2; refine ⟨by simp, .inl ⟨_, _, rfl, run_takeDeferred hK, ?_⟩⟩; have hc5 := cell_kept bR3.cell (grownBy_putObj' _ D (.deferred none)) (fun r e => by cases e; exact ⟨_, hK, rfl⟩); refine ⟨.bool false, ?_, by rw [HV.out, names_stop hq hx hy], hB1.trans (belowK_b (w := w) (Nat.le_refl _) W D _ _ (by omega) hK rfl rfl)⟩
     simp [results, Tryz.f165, go_sem, hc5]
theorem namesF_any (ao : Option Addr) (cap : Nat) (l : List Fx) (hlen : l.length <= 1048576) (hs : ∀ f ∈ l, f.n.size <= 9223372036854775807) (w : World) (hl : Xs 3 Fx.cells w ao l) :
 Calls Tryz.prog 165 #[.slice ao l.length cap, .func (.func 166) #[] #[]] w fun e W' => e = .returned (.bool (namesG Fx.n l)) /\ Below w.heap.size w W' :=
 callsIn_wide.1 (namesF_in 6 (by omega) ao cap l hlen hs w hl)
end Go.Proofs.YtjlliijeaekmfaaGreatDoor
namespace Go.Proofs.YtjlliijeaekmfaaGreatDoor
set_option maxRecDepth 100000
set_option maxHeartbeats 2000000
open Go.RowKit
def goodAt (l : List Fx) (i : Nat) (f : Fx) : Bool := cellOkB f.x f.y && !onB (l.take i) f.x f.y
def goodTo (l : List Fx) : Nat -> Bool
 | 0 => true
 | k + 1 => goodTo l k && goodAt l k (flget l k)
def fieldsB (l : List Fx) : Bool := decide (l.length <= 4) && (namesG Fx.n l && goodTo l l.length)
theorem goodTo_no {l : List Fx} {k : Nat} (h : goodAt l k (flget l k) = false) : ∀ m, k < m -> goodTo l m = false
 | 0, hm => absurd hm (by omega)
 | m + 1, hm => by
  rw [goodTo]
  by_cases e : k = m
  · subst e; rw [h, Bool.and_false]
  · rw [goodTo_no h m (by omega)]; rfl
theorem Xs.take {α : Type} {sz : Nat} {c : α -> List Value} {w : World} {ao : Option Addr} {l : List α} (h : Xs sz c w ao l) (k : Nat) : Xs sz c w ao (l.take k) := by
 rcases h with h | ⟨bl, off, h, hc⟩
 · exact Or.inl (by rw [h]; simp)
 · refine Or.inr ⟨bl, off, h, fun j hj => ?_⟩
   have hj' : j < l.length := by simp at hj; omega
   have := hc j hj'
   simpa using this
theorem onField_take (l : List Fx) (k : Nat) (hk : k <= l.length) (ao : Option Addr) (cap : Nat) (x y : Int) (w : World) (hl : Xs 3 Fx.cells w ao l) (hn : l.length <= 1048576) :
 Calls Tryz.prog 201 #[.slice ao k cap, .int .i64 x, .int .i64 y] w fun e w' => e = .returned (.bool (onB (l.take k) x y)) /\ Below w.heap.size w w' := by
 have h := onField_any (l.take k) ao cap x y w (hl.take k) (by simp; omega)
 rwa [show (l.take k).length = k by simp; omega] at h
theorem onField_val (l : List Fx) (k : Nat) (hk : k <= l.length) (ao : Option Addr) (cap : Nat) (x y : Int) (v : Bool) (hv : onB (l.take k) x y = v) (w : World) (hl : Xs 3 Fx.cells w ao l) (hn : l.length <= 1048576) :
 Calls Tryz.prog 201 #[.slice ao k cap, .int .i64 x, .int .i64 y] w fun e w' => e = .returned (.bool v) /\ Below w.heap.size w w' := by
 subst hv; exact onField_take l k hk ao cap x y w hl hn
theorem cellOk_val (x y : Int) (v : Bool) (hv : cellOkB x y = v) (w : World) : Calls Tryz.prog 200 #[.int .i64 x, .int .i64 y] w fun e w' => e = .returned (.bool v) /\ w' = w := by
 subst hv; exact cellOk_any x y w
theorem fieldCells_any (l : List Fx) (ao : Option Addr) (cap : Nat) (hcap : l.length <= cap) (_hc2 : cap <= 9223372036854775807) (w : World) (hl : Xs 3 Fx.cells w ao l) (hn : l.length <= 1048576) :
 Calls Tryz.prog 167 #[.slice ao l.length cap] w fun e w' => e = .returned (.bool (goodTo l l.length)) /\ Below w.heap.size w w' := by
 obtain ⟨V, hV⟩ : ∃ V, V = goodTo l l.length := ⟨_, rfl⟩; rw [← hV]; have HV : Hid (V = goodTo l l.length) := hV; clear hV
 go_enter Tryz.func167, Tryz.ntmps167
 go_wp2
 go_loopw [7] (fun i wr => ∃ k : Nat, k <= l.length /\ i = .int .i64 k /\ Below w.heap.size w wr /\ Hid (goodTo l k = true)) (fun i _ => l.length - (intOf i).toNat)
 case atStart => exact ⟨0, Nat.zero_le _, rfl, Below.refl _ _, by simp [Hid, goodTo]⟩
 case round =>
  obtain ⟨k, hk, rfl, hN, hno⟩ := hrel
  by_cases hlt : k < l.length
  · have hl0 := hl
    rcases hl with h | ⟨bl, off, rfl, hc⟩
    · subst h; simp at hlt
    · have hbx := (hc k hlt).later hN
      obtain ⟨f, hbe⟩ : ∃ f, f = flget l k := ⟨_, rfl⟩; rw [← flget_eq l k hlt, ← hbe] at hbx; have HB : Hid (f = flget l k) := hbe; clear hbe hc; obtain ⟨c0, c1, c2⟩ := fld_at hbx; clear hbx; have hq0 : (0 : Int) <= (k : Int) := by omega
      have hq1 : (k : Int) <= (cap : Int) := by omega
      have hkc : k <= cap := by omega
      have hne : Nonempty (Aft (wr.alloc (.cells #[.string f.n, .int .i64 f.x, .int .i64 f.y] 150))) := ⟨⟨_, Below.refl _ _⟩⟩; have hbw : Below w.heap.size w (wr.alloc (.cells #[.string f.n, .int .i64 f.x, .int .i64 f.y] 150)) := hN.alloc hN.size _; have f1 : ∀ s : Aft (wr.alloc (.cells #[.string f.n, .int .i64 f.x, .int .i64 f.y] 150)), s.w.cell? ⟨wr.heap.size, 1, none⟩ = some (.int .i64 f.x) := Aft.cell (by simp); have f2 : ∀ s : Aft (wr.alloc (.cells #[.string f.n, .int .i64 f.x, .int .i64 f.y] 150)), s.w.cell? ⟨wr.heap.size, 2, none⟩ = some (.int .i64 f.y) := Aft.cell (by simp)
      rcases Bool.eq_false_or_eq_true (cellOkB f.x f.y) with hv | hv
      · obtain ⟨o, ho⟩ : ∃ o, onB (l.take k) f.x f.y = o := ⟨_, rfl⟩
        have HO : Hid (onB (l.take k) f.x f.y = o) := ho; clear ho; go_wp2_with fail
        refine wp_region_aft (by kernel_rfl) (by kernel_rfl) ?_
        repeat (go_big_quiet_step (first | (go_at_call 200; exact Aft.same _ (cellOk_val _ _ _ hv _)) | (go_at_call 201; exact Aft.call _ (onField_val l k hk _ _ _ _ _ HO.out _ (hl0.later (bstep hbw (Aft.h _))) hn))))
        refine wpQuiet_nil ?_; rintro _ ⟨s, rfl⟩; have hN1 : Below w.heap.size w s.w := bstep hbw s.h; clear f1 f2; go_wp2
        · have hcl : o = true := by assumption
          subst hcl; go_ret; exact ⟨ret_bool (by rw [HV.out, goodTo_no (k := k) (by rw [← HB.out, goodAt, HO.out, hv]; rfl) _ hlt]), hN1⟩
        · have hcl : o = false := by assumption
          subst hcl
          go_roundw
          case rel => exact ⟨k + 1, by omega, by go_num, hN1, by rw [Hid, goodTo, hno.out, ← HB.out, goodAt, HO.out, hv]; rfl⟩
          case measure => simp [intOf]; omega
      · go_wp2_with fail
        refine wp_region_aft (by kernel_rfl) (by kernel_rfl) ?_
        repeat (go_big_quiet_step ((go_at_call 200; exact Aft.same _ (cellOk_val _ _ _ hv _))))
        refine wpQuiet_nil ?_; rintro _ ⟨s, rfl⟩; have hN1 : Below w.heap.size w s.w := bstep hbw s.h; clear f1 f2; go_wp2
        go_ret; exact ⟨ret_bool (by rw [HV.out, goodTo_no (k := k) (by rw [← HB.out, goodAt, hv]; rfl) _ hlt]), hN1⟩
  · have hke : k = l.length := by omega
    go_wp2
    go_ret; exact ⟨ret_bool (by rw [HV.out, ← hno.out, hke]), hN⟩
end Go.Proofs.YtjlliijeaekmfaaGreatDoor
namespace Go.Proofs.YtjlliijeaekmfaaGreatDoor
set_option maxRecDepth 100000
set_option maxHeartbeats 2000000
open Go.RowKit
def fourB (n : Nat) : Bool := decide (n <= 4)
theorem fieldsB_eq (l : List Fx) : fieldsB l = (fourB l.length && (namesG Fx.n l && goodTo l l.length)) := rfl
theorem four_any (n cap : Nat) (ao : Option Addr) (w : World) (hn : n <= 1048576) :
 Calls Tryz.prog 163 #[.slice ao n cap] w fun e w' => e = .returned (.bool (fourB n)) /\ w' = w := by
 go_enter Tryz.func163, Tryz.ntmps163
 go_wp2
 go_ret; refine ⟨ret_bool ?_, rfl⟩; rw [Bool.eq_iff_iff]; simp only [fourB, decide_eq_true_eq]; omega
theorem names82_any (ao : Option Addr) (cap : Nat) (l : List Fx) (hlen : l.length <= 1048576) (hs : ∀ f ∈ l, f.n.size <= 9223372036854775807) (w : World) (hl : Xs 3 Fx.cells w ao l) :
 Calls Tryz.prog 164 #[.slice ao l.length cap] w fun e W' => e = .returned (.bool (namesG Fx.n l)) /\ Below w.heap.size w W' := by
 go_enter Tryz.func164, Tryz.ntmps164
 go_wp2_with (go_at_call 165; refine (namesF_any _ _ l hlen hs _ hl).mono ?_; rintro e w1 ⟨rfl, hb1⟩)
 go_ret; exact ⟨rfl, hb1⟩
def CheckedF (l : List Fx) (k : Nat) : Prop := (0 < k -> fourB l.length = true) /\ (1 < k -> namesG Fx.n l = true) /\ (2 < k -> goodTo l l.length = true)
theorem passes80_any (l : List Fx) (ao : Option Addr) (cap G : Nat) (hcap : l.length <= cap) (hc2 : cap <= 9223372036854775807) (w : World) (hl : Xs 3 Fx.cells w ao l) (hn : l.length <= 1048576) (hs : ∀ f ∈ l, f.n.size <= 9223372036854775807)
 (g0 : w.cell? ⟨G, 0, none⟩ = some (.func (.func 163) #[] #[])) (g1 : w.cell? ⟨G, 1, none⟩ = some (.func (.func 164) #[] #[])) (g2 : w.cell? ⟨G, 2, none⟩ = some (.func (.func 167) #[] #[])) :
 Calls Tryz.prog 162 #[.slice ao l.length cap, .slice (some ⟨G, 0, none⟩) 3 3] w fun e w' => e = .returned (.bool (fieldsB l)) /\ Below w.heap.size w w' := by
 obtain ⟨V, hV⟩ : ∃ V, V = fieldsB l := ⟨_, rfl⟩; rw [← hV]; have HV : Hid (V = fieldsB l) := hV; clear hV
 go_enter Tryz.func162, Tryz.ntmps162
 go_wp2
 go_loopw [9] (fun i wr => ∃ k : Nat, k <= 3 /\ i = .int .i64 k /\ Below w.heap.size w wr /\ Hid (CheckedF l k)) (fun i _ => 3 - (intOf i).toNat)
 case atStart => exact ⟨0, by omega, rfl, Below.refl _ _, by simp [Hid, CheckedF]⟩
 case round =>
  obtain ⟨k, hk, rfl, hN, hno⟩ := hrel; have hcases : k = 0 ∨ k = 1 ∨ k = 2 ∨ k = 3 := by omega
  rcases hcases with h0 | h1 | h2 | h3
  · subst h0
    have gk := (hN.cell (p := ⟨G, 0, none⟩) (cell_lt g0)).trans g0; clear g0 g1 g2
    go_wp2_with (go_at_call 163; refine (four_any l.length cap ao _ hn).mono ?_; rintro e wr ⟨rfl, rfl⟩)
    · have hv : fourB l.length = false := nf (by assumption)
      go_ret; exact ⟨ret_bool (by rw [HV.out]; exact (show fieldsB l = false from by rw [fieldsB_eq, hv]; rfl).symm), hN⟩
    · have hv : fourB l.length = true := nt (by assumption)
      go_roundw
      case rel => exact ⟨1, by omega, by go_num, hN, ⟨fun _ => hv, fun h => absurd h (by omega), fun h => absurd h (by omega)⟩⟩
      case measure => simp [intOf]
  · subst h1
    have gk := (hN.cell (p := ⟨G, 1, none⟩) (cell_lt g1)).trans g1; clear g0 g1 g2
    go_wp2_with (go_at_call 164; refine (names82_any ao cap l hn hs _ (hl.later hN)).mono ?_; rintro e w1 ⟨rfl, hb1⟩; have hN : Below w.heap.size w w1 := bstepB hN (Nat.le_refl _) hb1)
    · have hv : namesG Fx.n l = false := nf (by assumption)
      go_ret; exact ⟨ret_bool (by rw [HV.out]; exact (show fieldsB l = false from by rw [fieldsB_eq, hv]; simp).symm), hN⟩
    · have hv : namesG Fx.n l = true := nt (by assumption)
      go_roundw
      case rel => exact ⟨2, by omega, by go_num, hN, ⟨fun _ => hno.out.1 (by omega), fun _ => hv, fun h => absurd h (by omega)⟩⟩
      case measure => simp [intOf]
  · subst h2
    have gk := (hN.cell (p := ⟨G, 2, none⟩) (cell_lt g2)).trans g2; clear g0 g1 g2
    go_wp2_with (go_at_call 167; refine (fieldCells_any l ao cap hcap hc2 _ (hl.later hN) hn).mono ?_; rintro e w1 ⟨rfl, hb1⟩; have hN : Below w.heap.size w w1 := bstepB hN (Nat.le_refl _) hb1)
    · have hv : goodTo l l.length = false := nf (by assumption)
      go_ret; exact ⟨ret_bool (by rw [HV.out]; exact (show fieldsB l = false from by rw [fieldsB_eq, hv]; simp).symm), hN⟩
    · have hv : goodTo l l.length = true := nt (by assumption)
      go_roundw
      case rel => exact ⟨3, by omega, by go_num, hN, ⟨fun _ => hno.out.1 (by omega), fun _ => hno.out.2.1 (by omega), fun _ => hv⟩⟩
      case measure => simp [intOf]
  · subst h3
    clear g0 g1 g2; go_wp2
    go_ret; obtain ⟨q0, q1, q2⟩ := hno.out; exact ⟨ret_bool (by rw [HV.out, fieldsB_eq, q0 (by omega), q1 (by omega), q2 (by omega)]; rfl), hN⟩
theorem implFields_any (l : List Fx) (ao : Option Addr) (cap : Nat) (hcap : l.length <= cap) (hc2 : cap <= 9223372036854775807) (w : World) (hl : Xs 3 Fx.cells w ao l) (hn : l.length <= 1048576) (hs : ∀ f ∈ l, f.n.size <= 9223372036854775807) :
 Calls Tryz.prog 124 #[.slice ao l.length cap] w fun e w' => e = .returned (.bool (fieldsB l)) /\ Below w.heap.size w w' := by
 go_enter Tryz.func124, Tryz.ntmps124
 go_wp2_with fail
 refine (passes80_any l ao cap w.heap.size hcap hc2 _ (hl.later (balloc (Below.refl _ _) _)) hn hs (by simp) (by simp) (by simp)).mono ?_; rintro e w1 ⟨rfl, hb1⟩; go_wp2_with fail
 go_ret; exact ⟨rfl, bstep (balloc (Below.refl _ _) _) hb1⟩
end Go.Proofs.YtjlliijeaekmfaaGreatDoor
namespace Go.Proofs.YtjlliijeaekmfaaGreatDoor
set_option maxRecDepth 100000
set_option maxHeartbeats 4000000
open Go.RowKit
theorem l1NameOk_val (s : ByteArray) (v : Bool) (hv : nameB s = v) (w : World) (hs : s.size <= 9223372036854775807) : Calls Tryz.prog 84 #[.string s] w fun e w' => e = .returned (.bool v) /\ w' = w := by
 subst hv; exact l1NameOk_any s w hs
theorem l1In_val (n lo hi : Int) (v : Bool) (hv : inB n lo hi = v) (w : World) : Calls Tryz.prog 80 #[.int .i64 n, .int .i64 lo, .int .i64 hi] w fun e w' => e = .returned (.bool v) /\ w' = w := by
 subst hv; exact l1In_any n lo hi w
structure FldTo (l : List Fx) (k : Nat) : Prop where
 nm : (l.take k).all (fun x => nameB x.n) = true
 lt : ∀ i, i + 1 < k -> ltB (flget l i).n (flget l (i + 1)).n = true
 gd : goodTo l k = true
theorem FldTo.step {l : List Fx} {k : Nat} (h : FldTo l k) (hk : k < l.length) (hn : nameB (flget l k).n = true) (hl : 0 < k -> ltB (flget l (k - 1)).n (flget l k).n = true) (hg : goodAt l k (flget l k) = true) : FldTo l (k + 1) := by
 refine ⟨by rw [List.take_succ_eq_append_getElem hk, List.all_append, h.nm]; rw [flget_eq l k hk] at hn; simp [hn], fun i hi => ?_, by rw [goodTo, h.gd, hg]; rfl⟩
 by_cases e : i + 1 = k
 · subst e; simpa using hl (by omega)
 · exact h.lt i (by omega)
theorem fld_no_name {l : List Fx} {k : Nat} (hk : k < l.length) (h : nameB (flget l k).n = false) : fieldsB l = false := by
 rw [flget_eq l k hk] at h; rw [fieldsB_eq, names_no_name hk h]; simp
theorem fld_no_lt {l : List Fx} {k : Nat} (hk : k < l.length) (h0 : 0 < k) (h : ltB (flget l (k - 1)).n (flget l k).n = false) : fieldsB l = false := by
 have : ascG Fx.n l = false := by
  rw [Bool.eq_false_iff]; intro ha; have := (ascG_iff Fx.n l).1 ha (k - 1) (by omega); rw [← flget_eq l (k - 1) (by omega), ← flget_eq l (k - 1 + 1) (by omega), show k - 1 + 1 = k by omega, h] at this
  cases this
 rw [fieldsB_eq, namesG, this]; simp
theorem fld_no_good {l : List Fx} {k : Nat} (hk : k < l.length) (h : goodAt l k (flget l k) = false) : fieldsB l = false := by
 rw [fieldsB_eq, goodTo_no h _ hk]; simp
theorem fld_done {l : List Fx} {k : Nat} (h : FldTo l k) (h4 : fourB l.length = true) (hk : k = l.length) : fieldsB l = true := by
 subst hk; have hn := h.nm; rw [List.take_of_length_le (Nat.le_refl _)] at hn
 have ha : ascG Fx.n l = true := (ascG_iff Fx.n l).2 fun i hi => by
  have := h.lt i hi
  rwa [flget_eq l i (by omega), flget_eq l (i + 1) hi] at this
 rw [fieldsB_eq, h4, namesG, hn, ha, h.gd]; rfl
theorem cellOk_in (x y : Int) : cellOkB x y = (inB x 0 15 && inB y 0 15) := by
 rw [Bool.eq_iff_iff]; simp only [cellOkB, inB, Bool.and_eq_true, decide_eq_true_eq]; omega
theorem good_no_x {l : List Fx} {k : Nat} {f : Fx} (h : inB f.x 0 15 = false) : goodAt l k f = false := by rw [goodAt, cellOk_in, h]; rfl
theorem good_no_y {l : List Fx} {k : Nat} {f : Fx} (h : inB f.y 0 15 = false) : goodAt l k f = false := by rw [goodAt, cellOk_in, h]; simp
theorem good_no_on {l : List Fx} {k : Nat} {f : Fx} (h : onB (l.take k) f.x f.y = true) : goodAt l k f = false := by rw [goodAt, h]; simp
theorem good_yes {l : List Fx} {k : Nat} {f : Fx} (hx : inB f.x 0 15 = true) (hy : inB f.y 0 15 = true) (h : onB (l.take k) f.x f.y = false) : goodAt l k f = true := by rw [goodAt, cellOk_in, hx, hy, h]; rfl
theorem cell_new_old {W : World} {o : Obj} {a : Addr} {v : Value} (h : W.cell? a = some v) : (W.alloc o).cell? a = some v := ((balloc (Below.refl _ W) o).cell (cell_lt h)).trans h
theorem specFields_any (l : List Fx) (ao : Option Addr) (cap : Nat) (w : World) (hl : Xs 3 Fx.cells w ao l) (hn : l.length <= 1048576) (hs : ∀ f ∈ l, f.n.size <= 9223372036854775807) :
 Calls Tryz.prog 81 #[.slice ao l.length cap] w fun e w' => e = .returned (.bool (fieldsB l)) /\ Below w.heap.size w w' := by
 obtain ⟨V, hV⟩ : ∃ V, V = fieldsB l := ⟨_, rfl⟩; rw [← hV]; have HV : Hid (V = fieldsB l) := hV; clear hV
 by_cases h4 : l.length <= 4
 · have H4 : Hid (fourB l.length = true) := decide_eq_true h4
   go_enter Tryz.func81, Tryz.ntmps81
   go_wp2
   go_loopw [3] (fun i wr => ∃ k : Nat, k <= l.length /\ i = .int .i64 k /\ Below w.heap.size w wr /\ Hid (FldTo l k)) (fun i _ => l.length - (intOf i).toNat)
   case atStart => exact ⟨0, Nat.zero_le _, rfl, Below.refl _ _, ⟨by simp, fun i hi => absurd hi (by omega), rfl⟩⟩
   case round =>
    obtain ⟨k, hk, rfl, hN, hno⟩ := hrel
    by_cases hlt : k < l.length
    · rcases hl with h | ⟨bl, off, rfl, hc⟩
      · subst h; simp at hlt
      have hbx := (hc k hlt).later hN; have hsz := hs l[k] (List.getElem_mem hlt); obtain ⟨f, hbe⟩ : ∃ f, f = flget l k := ⟨_, rfl⟩; rw [← flget_eq l k hlt, ← hbe] at hbx hsz; have HB : Hid (f = flget l k) := hbe; clear hbe; obtain ⟨c0, c1, c2⟩ := fld_at hbx; clear hbx; have hne : Nonempty (Aft (wr.alloc (.cells #[.string f.n, .int .i64 f.x, .int .i64 f.y] 150))) := ⟨⟨_, Below.refl _ _⟩⟩; have hbw : Below w.heap.size w (wr.alloc (.cells #[.string f.n, .int .i64 f.x, .int .i64 f.y] 150)) := hN.alloc hN.size _; have f0 : ∀ s : Aft (wr.alloc (.cells #[.string f.n, .int .i64 f.x, .int .i64 f.y] 150)), s.w.cell? ⟨wr.heap.size, 0, none⟩ = some (.string f.n) := Aft.cell (by simp); have f1 : ∀ s : Aft (wr.alloc (.cells #[.string f.n, .int .i64 f.x, .int .i64 f.y] 150)), s.w.cell? ⟨wr.heap.size, 1, none⟩ = some (.int .i64 f.x) := Aft.cell (by simp); have f2 : ∀ s : Aft (wr.alloc (.cells #[.string f.n, .int .i64 f.x, .int .i64 f.y] 150)), s.w.cell? ⟨wr.heap.size, 2, none⟩ = some (.int .i64 f.y) := Aft.cell (by simp)
      rcases Bool.eq_false_or_eq_true (nameB f.n) with hnm | hnm
      · by_cases hk0 : k = 0
        · subst hk0
          rw [Nat.zero_mul, Nat.add_zero] at c0 c1 c2
          rcases Bool.eq_false_or_eq_true (inB f.x 0 15) with hx | hx
          · rcases Bool.eq_false_or_eq_true (inB f.y 0 15) with hy | hy
            · go_wp2_with fail
              refine wp_region_aft (by kernel_rfl) (by kernel_rfl) ?_
              repeat (go_big_quiet_step (first | (go_at_call 84; exact Aft.same _ (l1NameOk_val _ _ hnm _ hsz)) | (go_at_call_of 80 f.x; exact Aft.same _ (l1In_val _ _ _ _ hx _)) | (go_at_call_of 80 f.y; exact Aft.same _ (l1In_val _ _ _ _ hy _))))
              refine wpQuiet_nil ?_; rintro _ ⟨s, rfl⟩; have hN1 : Below w.heap.size w s.w := bstep hbw s.h; have hA1 := s.h; generalize s.w = w1 at hN1 hA1; clear s f0 f1 f2 hne; go_wp2
              have HX : Hid (inB f.x 0 15 = true) := hx; have HY : Hid (inB f.y 0 15 = true) := hy; have HM : Hid (nameB f.n = true) := hnm; clear hx hy hnm hN1 c0 c1 c2
              go_loopw [5] (fun i ws => ∃ j : Nat, j <= 0 /\ i = .int .i64 j /\ Below (wr.alloc (.cells #[.string f.n, .int .i64 f.x, .int .i64 f.y] 150)).heap.size (wr.alloc (.cells #[.string f.n, .int .i64 f.x, .int .i64 f.y] 150)) ws /\ Hid ((l.take j).any (fun g => onOne g f.x f.y) = false)) (fun i _ => 0 - (intOf i).toNat)
              case atStart => exact ⟨0, Nat.zero_le _, rfl, hA1, by simp [Hid]⟩
              case round =>
               clear hA1; obtain ⟨j, hj, rfl, hA2, hnj⟩ := hrel
               by_cases hjk : j < 0
               · exact absurd hjk (by omega)
               · have hje : j = 0 := by omega
                 go_wp2
                 go_roundw
                 case rel => exact ⟨0 + 1, by omega, by go_num, hbw.trans (hA2.mono (by have := hbw.size; omega)), hno.out.step hlt (by rw [← HB.out]; exact HM.out) (fun h0 => absurd h0 (by omega)) (by rw [← HB.out]; exact good_yes HX.out HY.out (by rw [← hje]; exact hnj.out))⟩
                 case measure => simp [intOf]; omega
            · clear hc
              go_wp2_with fail
              refine wp_region_aft (by kernel_rfl) (by kernel_rfl) ?_
              repeat (go_big_quiet_step (first | (go_at_call 84; exact Aft.same _ (l1NameOk_val _ _ hnm _ hsz)) | (go_at_call_of 80 f.x; exact Aft.same _ (l1In_val _ _ _ _ hx _)) | (go_at_call_of 80 f.y; exact Aft.same _ (l1In_val _ _ _ _ hy _))))
              refine wpQuiet_nil ?_; rintro _ ⟨s, rfl⟩; have hN1 : Below w.heap.size w s.w := bstep hbw s.h; have hA1 := s.h; generalize s.w = w1 at hN1 hA1; clear s f0 f1 f2 hne; go_wp2
              go_ret; exact ⟨ret_bool (by rw [HV.out, fld_no_good hlt (by rw [← HB.out]; exact good_no_y hy)]), hN1⟩
          · clear hc
            have hy : inB f.y 0 15 = inB f.y 0 15 := rfl; go_wp2_with fail
            refine wp_region_aft (by kernel_rfl) (by kernel_rfl) ?_
            repeat (go_big_quiet_step (first | (go_at_call 84; exact Aft.same _ (l1NameOk_val _ _ hnm _ hsz)) | (go_at_call_of 80 f.x; exact Aft.same _ (l1In_val _ _ _ _ hx _))))
            refine wpQuiet_nil ?_; rintro _ ⟨s, rfl⟩; have hN1 : Below w.heap.size w s.w := bstep hbw s.h; have hA1 := s.h; generalize s.w = w1 at hN1 hA1; clear s f0 f1 f2 hne; go_wp2
            go_ret; exact ⟨ret_bool (by rw [HV.out, fld_no_good hlt (by rw [← HB.out]; exact good_no_x hx)]), hN1⟩
        · have hkn : 0 < k := by omega
          have hkq : (1 : Int) <= (k : Int) := by omega
          have hcv := (hc (k - 1) (by omega)).later hN; obtain ⟨a, hae⟩ : ∃ a, a = flget l (k - 1) := ⟨_, rfl⟩; rw [← flget_eq l (k - 1) (by omega), ← hae] at hcv; have HA : Hid (a = flget l (k - 1)) := hae; clear hae hk0; have g0 : ∀ s : Aft (wr.alloc (.cells #[.string f.n, .int .i64 f.x, .int .i64 f.y] 150)), s.w.cell? ⟨bl, off + (k - 1) * 3, none⟩ = some (.string a.n) := Aft.cell (cell_new_old (fld_at hcv).1); clear hcv
          rcases Bool.eq_false_or_eq_true (ltB a.n f.n) with hlt2 | hlt2
          · have HL : Hid (ltB a.n f.n = true) := hlt2
            have hbl : Op.bytesLess a.n.toList f.n.toList = true := hlt2; clear hlt2
            rcases Bool.eq_false_or_eq_true (inB f.x 0 15) with hx | hx
            · rcases Bool.eq_false_or_eq_true (inB f.y 0 15) with hy | hy
              · skip
                go_wp2_with fail
                refine wp_region_aft (by kernel_rfl) (by kernel_rfl) ?_
                repeat (go_big_quiet_step (first | (go_at_call 84; exact Aft.same _ (l1NameOk_val _ _ hnm _ hsz)) | (go_at_call_of 80 f.x; exact Aft.same _ (l1In_val _ _ _ _ hx _)) | (go_at_call_of 80 f.y; exact Aft.same _ (l1In_val _ _ _ _ hy _))))
                refine wpQuiet_nil ?_; rintro _ ⟨s, rfl⟩; have hN1 : Below w.heap.size w s.w := bstep hbw s.h; have hA1 := s.h; generalize s.w = w1 at hN1 hA1; clear s f0 f1 f2 hne g0; clear hbl; go_wp2
                have HX : Hid (inB f.x 0 15 = true) := hx; have HY : Hid (inB f.y 0 15 = true) := hy; have HM : Hid (nameB f.n = true) := hnm; have HFC : Hid (∀ ws, Below (wr.alloc (.cells #[.string f.n, .int .i64 f.x, .int .i64 f.y] 150)).heap.size (wr.alloc (.cells #[.string f.n, .int .i64 f.x, .int .i64 f.y] 150)) ws -> ws.cell? ⟨wr.heap.size, 1, none⟩ = some (.int .i64 f.x) /\ ws.cell? ⟨wr.heap.size, 2, none⟩ = some (.int .i64 f.y)) := fun ws hb => ⟨(hb.cell (by simp)).trans (by simp), (hb.cell (by simp)).trans (by simp)⟩; clear hx hy hnm hN1 c0 c1 c2
                go_loopw [5] (fun i ws => ∃ j : Nat, j <= k /\ i = .int .i64 j /\ Below (wr.alloc (.cells #[.string f.n, .int .i64 f.x, .int .i64 f.y] 150)).heap.size (wr.alloc (.cells #[.string f.n, .int .i64 f.x, .int .i64 f.y] 150)) ws /\ Hid ((l.take j).any (fun g => onOne g f.x f.y) = false)) (fun i _ => k - (intOf i).toNat)
                case atStart => exact ⟨0, Nat.zero_le _, rfl, hA1, by simp [Hid]⟩
                case round =>
                 clear hA1; obtain ⟨j, hj, rfl, hA2, hnj⟩ := hrel; have hNw : Below w.heap.size w _ := hbw.trans (hA2.mono (by have := hbw.size; omega))
                 by_cases hjk : j < k
                 · have hby := (hc j (by omega)).later hNw
                   obtain ⟨g, hge⟩ : ∃ g, g = l[j]'(by omega) := ⟨_, rfl⟩; rw [← hge] at hby; have HG : Hid (g = l[j]'(by omega)) := hge; clear hge; obtain ⟨e0, e1, e2⟩ := fld_at hby; obtain ⟨i1, i2⟩ := HFC.out _ hA2; have hne2 : Nonempty (Aft wr) := ⟨⟨_, Below.refl _ _⟩⟩; have p1 := Aft.cell e1; have p2 := Aft.cell e2; have q1 := Aft.cell i1; have q2 := Aft.cell i2; clear hby e0 e1 e2 i1 i2
                   by_cases hgx : g.x = f.x
                   · by_cases hgy : g.y = f.y
                     · have ex : (g.x == f.x) = true := by simp [hgx]
                       have ey : (g.y == f.y) = true := by simp [hgy]
                       have HE : Hid (g.x = f.x /\ g.y = f.y) := ⟨hgx, hgy⟩; clear hgx hgy; go_wp2_with fail
                       refine wp_region_aft (by kernel_rfl) (by kernel_rfl) ?_
                       repeat (go_big_quiet_step (fail))
                       refine wpQuiet_nil ?_; rintro _ ⟨s, rfl⟩; have hA3 := bstepB hA2 (Nat.le_refl _) s.h; have hN3 := bstepB hNw (Nat.le_refl _) s.h; generalize s.w = w3 at hA3 hN3; clear s p1 p2 q1 q2 hne2; go_wp2
                       go_ret; exact ⟨ret_bool (by rw [HV.out, fld_no_good hlt (by rw [← HB.out]; exact good_no_on (any_of_get _ (l.take k) j (by simp; omega) (by simp only [List.getElem_take]; rw [← HG.out]; exact decide_eq_true HE.out)))]), hN3⟩
                     · have ex : (g.x == f.x) = true := by simp [hgx]
                       have ey : (g.y == f.y) = false := by simp [hgy]
                       have HE : Hid (¬ (g.x = f.x /\ g.y = f.y)) := fun h => hgy h.2; clear hgx hgy; go_wp2_with fail
                       refine wp_region_aft (by kernel_rfl) (by kernel_rfl) ?_
                       repeat (go_big_quiet_step (fail))
                       refine wpQuiet_nil ?_; rintro _ ⟨s, rfl⟩; have hA3 := bstepB hA2 (Nat.le_refl _) s.h; have hN3 := bstepB hNw (Nat.le_refl _) s.h; generalize s.w = w3 at hA3 hN3; clear s p1 p2 q1 q2 hne2; go_wp2
                       go_roundw
                       case rel => exact ⟨j + 1, by omega, by go_num, hA3, by rw [Hid, take_any _ l j (by omega), hnj.out, ← HG.out, onOne, decide_eq_false HE.out]; rfl⟩
                       case measure => simp [intOf]; omega
                   · have ex : (g.x == f.x) = false := by simp [hgx]
                     have HE : Hid (¬ (g.x = f.x /\ g.y = f.y)) := fun h => hgx h.1; clear hgx; go_wp2_with fail
                     refine wp_region_aft (by kernel_rfl) (by kernel_rfl) ?_
                     repeat (go_big_quiet_step (fail))
                     refine wpQuiet_nil ?_; rintro _ ⟨s, rfl⟩; have hA3 := bstepB hA2 (Nat.le_refl _) s.h; have hN3 := bstepB hNw (Nat.le_refl _) s.h; generalize s.w = w3 at hA3 hN3; clear s p1 p2 q1 q2 hne2; go_wp2
                     go_roundw
                     case rel => exact ⟨j + 1, by omega, by go_num, hA3, by rw [Hid, take_any _ l j (by omega), hnj.out, ← HG.out, onOne, decide_eq_false HE.out]; rfl⟩
                     case measure => simp [intOf]; omega
                 · have hje : j = k := by omega
                   go_wp2
                   go_roundw
                   case rel => exact ⟨k + 1, by omega, by go_num, hNw, hno.out.step hlt (by rw [← HB.out]; exact HM.out) (fun _ => by rw [← HA.out, ← HB.out]; exact HL.out) (by rw [← HB.out]; exact good_yes HX.out HY.out (by rw [← hje]; exact hnj.out))⟩
                   case measure => simp [intOf]; omega
              · skip
                go_wp2_with fail
                refine wp_region_aft (by kernel_rfl) (by kernel_rfl) ?_
                repeat (go_big_quiet_step (first | (go_at_call 84; exact Aft.same _ (l1NameOk_val _ _ hnm _ hsz)) | (go_at_call_of 80 f.x; exact Aft.same _ (l1In_val _ _ _ _ hx _)) | (go_at_call_of 80 f.y; exact Aft.same _ (l1In_val _ _ _ _ hy _))))
                refine wpQuiet_nil ?_; rintro _ ⟨s, rfl⟩; have hN1 : Below w.heap.size w s.w := bstep hbw s.h; have hA1 := s.h; generalize s.w = w1 at hN1 hA1; clear s f0 f1 f2 hne g0; go_wp2
                go_ret; exact ⟨ret_bool (by rw [HV.out, fld_no_good hlt (by rw [← HB.out]; exact good_no_y hy)]), hN1⟩
            · skip
              go_wp2_with fail
              refine wp_region_aft (by kernel_rfl) (by kernel_rfl) ?_
              repeat (go_big_quiet_step (first | (go_at_call 84; exact Aft.same _ (l1NameOk_val _ _ hnm _ hsz)) | (go_at_call_of 80 f.x; exact Aft.same _ (l1In_val _ _ _ _ hx _))))
              refine wpQuiet_nil ?_; rintro _ ⟨s, rfl⟩; have hN1 : Below w.heap.size w s.w := bstep hbw s.h; have hA1 := s.h; generalize s.w = w1 at hN1 hA1; clear s f0 f1 f2 hne g0; go_wp2
              go_ret; exact ⟨ret_bool (by rw [HV.out, fld_no_good hlt (by rw [← HB.out]; exact good_no_x hx)]), hN1⟩
          · have HL : Hid (ltB a.n f.n = false) := hlt2
            have hbl : Op.bytesLess a.n.toList f.n.toList = false := hlt2; clear hlt2; go_wp2_with fail
            refine wp_region_aft (by kernel_rfl) (by kernel_rfl) ?_
            repeat (go_big_quiet_step (first | (go_at_call 84; exact Aft.same _ (l1NameOk_val _ _ hnm _ hsz))))
            refine wpQuiet_nil ?_; rintro _ ⟨s, rfl⟩; have hN1 : Below w.heap.size w s.w := bstep hbw s.h; have hA1 := s.h; generalize s.w = w1 at hN1 hA1; clear s f0 f1 f2 hne g0; go_wp2
            go_ret; exact ⟨ret_bool (by rw [HV.out, fld_no_lt hlt hkn (by rw [← HA.out, ← HB.out]; exact HL.out)]), hN1⟩
      · clear hc
        go_wp2_with fail
        refine wp_region_aft (by kernel_rfl) (by kernel_rfl) ?_
        repeat (go_big_quiet_step (first | (go_at_call 84; exact Aft.same _ (l1NameOk_val _ _ hnm _ hsz))))
        refine wpQuiet_nil ?_; rintro _ ⟨s, rfl⟩; have hN1 : Below w.heap.size w s.w := bstep hbw s.h; have hA1 := s.h; generalize s.w = w1 at hN1 hA1; clear s f0 f1 f2 hne; go_wp2
        go_ret; exact ⟨ret_bool (by rw [HV.out, fld_no_name hlt (by rw [← HB.out]; exact hnm)]), hN1⟩
    · have hke : k = l.length := by omega
      go_wp2
      go_ret; exact ⟨ret_bool (by rw [HV.out, fld_done hno.out H4.out hke]), hN⟩
 · have H4 : Hid (fourB l.length = false) := decide_eq_false h4
   go_enter Tryz.func81, Tryz.ntmps81
   go_wp2
   go_ret; exact ⟨ret_bool (by rw [HV.out, fieldsB_eq, H4.out]; rfl), Below.refl _ _⟩
end Go.Proofs.YtjlliijeaekmfaaGreatDoor
