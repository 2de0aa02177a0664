import Derived.Test.YtiojdbffjdoniaaGreatDoorDt
import Derived.Test.YtiojdbffjdoniaaGreatDoorFa
namespace Go.Proofs.YtiojdbffjdoniaaGreatDoor
set_option maxRecDepth 100000
set_option maxHeartbeats 8000000
open Go.RowKit Go.Shelf
attribute [local go_sem] Oper.semAt_some
theorem n9 (l : List Hx) (nm : ByteArray) : j5 l nm = -1 ∨ ∃ j, j < l.length /\ j5 l nm = (j : Int) := by
 unfold j5
 cases h : l.findIdx? (fun h => h.n.toList == nm.toList) with
 | none => exact .inl rfl
 | some i => exact .inr ⟨i, (List.findIdx?_eq_some_iff_getElem.1 h).1, rfl⟩
theorem cS.put {z : Nat} {w w' : World} {b : Bk} {g cap i n : Nat} {x' : Hx} {f : Nat -> Value} (h : cS z w b) (ha : b.ha = some ⟨g, 0, none⟩) (hgz : z <= g) (hr : w.rowIs g 42 n f) (hb : bC (fun k => k = g) w w') (hR : bI 42 3 Hx.cells w' g cap (b.hl.set i x') b.hl.length) (hcap : b.hl.length <= cap) (hc : b.hc = cap) (hx : cG z w' x') :
 cS z w' ⟨b.now, b.fa, b.fl, b.fc, b.ha, b.hl.set i x', b.hc⟩ := by
 refine ⟨?_, .inr ⟨g, cap, by rw [ha, hc], hgz, by simpa using hcap, by simpa using hR⟩, fun y hy => ?_⟩
 · rcases h.f with e | ⟨p, cp, e, h1, h2, f3, h3, h4⟩
   · exact .inl e
   · refine .inr ⟨p, cp, e, h1, h2, f3, h3.of_block (hb.block p h3.lt (fun e => ?_)), h4⟩
     have e' : p = g := e; subst e'; exact absurd (iW hr h3) (by decide)
 · rcases List.mem_or_eq_of_mem_set hy with hy | rfl
   · exact (h.t y hy).butHeld hr hb
   · exact hx
def QP (X g n cap j : Nat) (na : Value) (i : Nat) (v : Value) (_w : World) : Prop :=
 match i with
 | 0 => v = .pointer (some ⟨X, 2, none⟩)
 | 1 => v = .slice (some ⟨g, 0, none⟩) n cap
 | 2 => v = .int .i64 (j : Int)
 | 3 => v = .pointer (some ⟨X, 2, none⟩)
 | 4 => v = .slice (some ⟨g, 0, none⟩) n cap
 | 5 => v = .int .i64 (j : Int)
 | 6 => v = .pointer (some ⟨g, j * 3, none⟩)
 | 7 => v = .pointer (some ⟨g, j * 3 + 2, none⟩)
 | 8 => v = na
 | _ => True
theorem QP.zL {X g n cap j : Nat} {na : Value} (i : Nat) (v : Value) (w w' : World) (h : QP X g n cap j na i v w) (_ : Below w.heap.size w w') : QP X g n cap j na i v w' := h
theorem uS {w : World} {z E : Nat} (hE : w.heap[E]? = some (.cells #[] 89)) (hz : z <= E) : aF w z (.slice (some ⟨E, 0, none⟩) ([] : List Bx).length 0) [] :=
 .inr ⟨E, 0, rfl, hz, nlq _, fun _ => undef, ⟨#[], hE, rfl, fun i hi => absurd hi (by omega)⟩, fun i hi => absurd hi (by simp)⟩
def lR (b : Bk) (w : World) : Prop := ∀ W, Below w.heap.size w W -> Calls Tryz.prog 28 #[b.val] W fun e w' => e = .returned (.bool (aS b)) /\ Below W.heap.size W w'
def cJ (b : Bk) (nm : ByteArray) : Int := if j5 b.hl nm < 0 then 6 else (match b.hl[(j5 b.hl nm).toNat]? with | some x => if x.nl = [] then 8 else 0 | none => 6)
def eE (b : Bk) (nm : ByteArray) (took : Bool) : List Hx := if cJ b nm = 0 then (match b.hl[(j5 b.hl nm).toNat]? with | some x => b.hl.set (j5 b.hl nm).toNat (iT took x) | none => b.hl) else b.hl
def qF (b : Bk) (l : List Hx) (c : Int) (z : Nat) (e : Ending) (w' : World) : Prop :=
 (aS b = false /\ e = .returned (.tuple #[Bk.val ⟨0, none, [], 0, none, [], 0⟩, .int .i64 1])) ∨
 (aS b = true /\ ∃ b' : Bk, e = .returned (.tuple #[b'.val, .int .i64 c]) /\ b'.now = b.now /\ b'.fl = b.fl /\ aI l b'.hl /\ cS z w' b')
theorem zJ (b : Bk) (nm : ByteArray) (took : Bool) (w : World) (hok : lR b w) (hf : Xs 3 Fx.cells w b.fa b.fl) (hnf : b.fl.length <= 1048576) (hh : Xs 3 Hx.cells w b.ha b.hl) (hnh : b.hl.length <= 1048576) (hg : ∀ h ∈ b.hl, h.In w /\ h.Fit) :
 Calls Tryz.prog 31 #[b.val, .string nm, .bool took] w fun e w' => qF b (eE b nm took) (cJ b nm) w.heap.size e w' /\ Below w.heap.size w w' := by
 have hB0 : Below w.heap.size w ((w.alloc b.obj).alloc (.cells #[.int .i64 0, .slice none 0 0, .slice none 0 0] 29)) := aA (aA (br _ _) _) _; have A0 := (halq (w.alloc b.obj) (.cells #[.int .i64 0, .slice none 0 0, .slice none 0 0] 29) w.heap.size (by simp)).trans (wnq w b.obj); have R0 := wnq (w.alloc b.obj) (.cells #[.int .i64 0, .slice none 0 0, .slice none 0 0] 29); rw [wsa] at R0
 go_enter Tryz.func31, Tryz.ntmps31
 go_wp2_with fail
 obtain ⟨W0, hW0⟩ : ∃ W0, (w.alloc b.obj).alloc (.cells #[.int .i64 0, .slice none 0 0, .slice none 0 0] 29) = W0 := ⟨_, rfl⟩; rw [hW0] at hB0 A0 R0 ⊢; have hz1 : w.heap.size + 1 < W0.heap.size := (bH R0); clear hW0; refine (hok W0 hB0).mono ?_; rintro e w1 ⟨rfl, hb1⟩; have N1 := aC hB0 hb1; have A1 := aY A0 hb1; have R1 := aY R0 hb1; have hs1 := hb1.size; clear A0 R0 hb1 hB0 hok; have hset : ∀ (X : World) (u v x : Value), bC (fun k => k = w.heap.size + 1) X (((X.setCell ⟨w.heap.size + 1, 0, none⟩ u).setCell ⟨w.heap.size + 1, 1, none⟩ v).setCell ⟨w.heap.size + 1, 2, none⟩ x) := fun X u v x => (((bC.refl (fun k => k = w.heap.size + 1) X).set (g := w.heap.size + 1) rfl _ _).set (g := w.heap.size + 1) rfl _ _).set (g := w.heap.size + 1) rfl _ _
 cases hbk : aS b with
 | false =>
  have HBK : Hid _ := hbk; obtain ⟨r0, r1, r2⟩ := aJ R1; have rf : ∀ i, w1.frozen? ⟨w.heap.size + 1, i, none⟩ = false := fun i => by simp [World.frozen?, R1]
  clear A1 R1 hbk; go_wp2_with fail
  exact bpr (v := .tuple #[Bk.val ⟨0, none, [], 0, none, [], 0⟩, .int .i64 1]) (by simp [results, Tryz.results31, go_sem, r0, r1, r2]) rfl ⟨.inl ⟨HBK.out, rfl⟩, (hset w1 _ _ _).under N1 (nlq _) (fun k hk => by rw [hk]; omega)⟩
 | true =>
  have HBK : Hid _ := hbk; obtain ⟨k0, k1, k2⟩ := aJ A1; have HA1 : Hid _ := A1; have HR1 : Hid _ := R1; clear A1 R1 hbk; go_wp2_with fail
  refine (iI b w1 (hf.zL N1) hnf (hh.zL N1) hnh (fun h m => ⟨(hg h m).1.zL N1, (hg h m).2⟩)).mono ?_; rintro e w2 ⟨⟨x, rfl, e1, e2, hlk, hA⟩, hb2⟩; have hbx : Below w2.heap.size w2 (w2.alloc x.obj) := aA (br _ _) _; have X3 := wnq w2 x.obj; have N3 := aC (aC N1 hb2) hbx; have A3 := aY (aY HA1.out hb2) hbx; have HR3 : Hid _ := aY (aY HR1.out hb2) hbx; have hA3 := hA.zL hbx; have hs2 := hb2.size; obtain ⟨w3, hw3⟩ : ∃ w3, w2.alloc x.obj = w3 := ⟨_, rfl⟩; rw [hw3] at X3 N3 A3 HR3 hA3; have HX3 : Hid _ := X3; have HA3 : Hid _ := A3; have HS3 : Hid _ := hA3; have HE1 : Hid _ := e1; have HE2 : Hid _ := e2; have HLK : Hid _ := hlk; have hs3 : w2.heap.size < w3.heap.size := (bH X3); clear k0 k1 k2; obtain ⟨k0, k1, k2⟩ := aJ A3; clear X3 A3 hA3 hA hbx hb2 N1 HA1 HR1 e1 e2 hlk; go_wp2_with fail
  clear hw3; refine (uJ b nm w3 (hh.zL N3) hnh).mono ?_; rintro e w4 ⟨rfl, hb4⟩; have N4 := aC N3 hb4; have X4 := aY HX3.out hb4; have A4 := aY HA3.out hb4; have HR4 : Hid _ := aY HR3.out hb4; have HS4 : Hid _ := HS3.out.zL hb4; have hs4 := hb4.size; clear k0 k1 k2 hb4 HX3 HA3 HR3 HS3 N3
  have HEnd : Hid (∀ (X : World) (y : Bk), y.now = b.now -> y.fl = b.fl -> Below w.heap.size w X -> cS w1.heap.size X y -> ∀ l c, aI l y.hl -> eE b nm took = l -> cJ b nm = c -> qF b (eE b nm took) (cJ b nm) w.heap.size (.returned (.tuple #[y.val, .int .i64 c])) (((X.setCell ⟨w.heap.size + 1, 0, none⟩ (.int .i64 y.now)).setCell ⟨w.heap.size + 1, 1, none⟩ (.slice y.fa y.fl.length y.fc)).setCell ⟨w.heap.size + 1, 2, none⟩ (.slice y.ha y.hl.length y.hc)) /\ Below w.heap.size w (((X.setCell ⟨w.heap.size + 1, 0, none⟩ (.int .i64 y.now)).setCell ⟨w.heap.size + 1, 1, none⟩ (.slice y.fa y.fl.length y.fc)).setCell ⟨w.heap.size + 1, 2, none⟩ (.slice y.ha y.hl.length y.hc))) := fun X y h1 h2 hN hS l c hl el ec => by
   refine ⟨.inr ⟨HBK.out, y, by rw [ec], h1, h2, by rw [el]; exact hl, (hS.but (hset X _ _ _) (fun k hk => by rw [hk]; omega)).weak (by omega)⟩, (hset X _ _ _).under hN (nlq _) (fun k hk => by rw [hk]; omega)⟩
  obtain ⟨at0, hat⟩ : ∃ at0, j5 b.hl nm = at0 := ⟨_, rfl⟩; obtain ⟨r0, r1, r2⟩ := aJ HR4.out; have rf : ∀ i, w4.frozen? ⟨w.heap.size + 1, i, none⟩ = false := fun i => by simp [World.frozen?, HR4.out]
  obtain ⟨x0, x1, x2⟩ := aJ X4
  rcases n9 b.hl nm with h | ⟨j, hj, h⟩
  · have hneg : decide (j5 b.hl nm < 0) = true := by rw [h]; rfl
    have HC : Hid (cJ b nm = 6 /\ eE b nm took = b.hl) := by
     have h6 : cJ b nm = 6 := by unfold cJ; rw [h]; rfl
     exact ⟨h6, by unfold eE; rw [h6]; rfl⟩
    clear h hat X4 A4; generalize j5 b.hl nm = at1 at hneg; have HN4 : Hid _ := N4; go_wp2_with fail
    exact bpr (v := .tuple #[x.val, .int .i64 6]) (by simp [results, Tryz.results31, go_sem, r0, r1, r2]) rfl (HEnd.out w4 x HE1.out HE2.out HN4.out HS4.out _ _ HLK.out HC.out.2 HC.out.1)
  · obtain ⟨bl, off, ea, hc⟩ : ∃ bl off, b.ha = some ⟨bl, off, none⟩ /\ ∀ k (h : k < b.hl.length), aM w bl (off + k * 3) b.hl[k].cells := by
     rcases hh with h | h
     · rw [h] at hj; simp at hj
     · exact h
    obtain ⟨e0, e1, e2⟩ := eS ((hc j hj).zL N4); have k2 : w4.cell? ⟨w.heap.size, 2, none⟩ = some (.slice (some ⟨bl, off, none⟩) b.hl.length b.hc) := by rw [← ea]; exact aK A4 rfl
    have hnn := (hg b.hl[j] (lgm hj)).2.nn; rw [h]
    cases hnl : b.hl[j].nl with
    | nil =>
     have HC : Hid (cJ b nm = 8 /\ eE b nm took = b.hl) := by
      have h8 : cJ b nm = 8 := by
       unfold cJ; rw [h, if_neg (by omega)]
       simp [lge hj, hnl]
      exact ⟨h8, by unfold eE; rw [h8]; rfl⟩
     rw [hnl] at e2; have HN4 : Hid _ := N4; clear h hat X4 A4 hc ea hnl e0 e1; go_wp2_with fail
     exact bpr (v := .tuple #[x.val, .int .i64 8]) (by simp [results, Tryz.results31, go_sem, r0, r1, r2]) rfl (HEnd.out w4 x HE1.out HE2.out HN4.out HS4.out _ _ HLK.out HC.out.2 HC.out.1)
    | cons y ys =>
     have HC : Hid (cJ b nm = 0 /\ eE b nm took = b.hl.set j (iT took b.hl[j])) := by
      have h0 : cJ b nm = 0 := by
       unfold cJ; rw [h, if_neg (by omega)]
       simp [lge hj, hnl]
      refine ⟨h0, ?_⟩; unfold eE; rw [h0, h]
      simp [lge hj]
     have hlen : 0 < b.hl[j].nl.length := by rw [hnl]; simp
     have hz2 : ((b.hl[j].nl.length : Int) == 0) = false := beq_false_of_ne (by omega); have hjx : j < x.hl.length := by rw [HLK.out.len]; exact hj
     obtain ⟨y, hy⟩ : ∃ y, y = x.hl[j] := ⟨_, rfl⟩; have hlike : b.hl[j].Like y := by rw [hy]; exact HLK.out.like j hj
     obtain ⟨g, cap, hxa, hxc, hgz, hcap, f, hrw, hfr⟩ : ∃ g cap, x.ha = some ⟨g, 0, none⟩ /\ x.hc = cap /\ w1.heap.size <= g /\ x.hl.length <= cap /\ bI 42 3 Hx.cells w4 g cap x.hl x.hl.length := by
      rcases HS4.out.h with ⟨_, e⟩ | ⟨g, cap, e, h1, h2, h3⟩
      · rw [e] at hjx; simp at hjx
      · simp only [Value.slice.injEq] at e
        exact ⟨g, cap, e.1, e.2.2, h1, h2, h3⟩
     have hXg : w2.heap.size ≠ g := fun e => by
      obtain ⟨cs, hcs, _⟩ := hrw; rw [← e, X4] at hcs
      cases hcs
     have hRg : w.heap.size + 1 ≠ g := by omega
     have HY : Hid _ := hy; have HXa : Hid _ := hxa; have HXc : Hid (x.hc = cap) := hxc; have HTy : Hid (cG w1.heap.size w4 y) := HS4.out.t y (by rw [hy]; exact lgm hjx); have HFr : Hid _ := hfr; rw [hxa, hxc] at x2; have f1 := hrw.cell (i := j * 3 + 1) (by omega); have f2 := hrw.cell (i := j * 3 + 2) (by omega); rw [show f (j * 3 + 1) = .slice y.ta y.tl.length y.tc from by rw [hy]; exact hfr j hjx hjx 1 _ rfl] at f1; rw [show f (j * 3 + 2) = .slice y.na y.nl.length y.nc from by rw [hy]; exact hfr j hjx hjx 2 _ rfl] at f2; have cf := fun i => hrw.frozen i; have hjb : (j : Int) < (b.hl.length : Int) := by omega
     have hjx2 : (j : Int) < (x.hl.length : Int) := by omega
     have hxl : x.hl.length <= 1048576 := by rw [HLK.out.len]; exact hnh
     cases took with
     | false =>
      have HLs : Hid (∀ y' : Hx, (iT false b.hl[j]).Like y' -> aI (b.hl.set j (iT false b.hl[j])) (x.hl.set j y')) := fun y' h => HLK.out.set j h; have hLk : (iT false b.hl[j]).Like ⟨y.n, y.ta, y.tl, y.tc, some ⟨w4.heap.size, 0, none⟩, [], 0⟩ := ⟨hlike.n, hlike.t, rfl⟩; have HLk : Hid _ := hLk; have hba : bC (fun k => k = g) w4 w4 := bC.refl _ _
      have hra : w4.rowIs g 42 (cap * 3) (fun i => if i = j * 3 + 1 then .slice y.ta y.tl.length y.tc else f i) := by
       have h2 : f = (fun i => if i = j * 3 + 1 then .slice y.ta y.tl.length y.tc else f i) := by
        funext i
        by_cases e : i = j * 3 + 1
        · subst e
          rw [if_pos rfl, HY.out]; exact HFr.out j hjx hjx 1 _ rfl
        · rw [if_neg e]
       rw [← h2]; exact hrw
      have hWE := wnq w4 (.cells #[] 89); have hrb := hra.alloc (.cells #[] 89); have hrc := hrb.set (j * 3 + 2) (.slice (some ⟨w4.heap.size, 0, none⟩) 0 0); have hbc : bC (fun k => k = g) w4 ((w4.alloc (.cells #[] 89)).setCell ⟨g, j * 3 + 2, none⟩ (.slice (some ⟨w4.heap.size, 0, none⟩) 0 0)) := (hba.trans (bC.below (aA (br _ _) _))).set (g := g) rfl _ _; have hEc := bE hWE (p := ⟨g, j * 3 + 2, none⟩) (by show w4.heap.size ≠ g; have := hra.lt; omega) (.slice (some ⟨w4.heap.size, 0, none⟩) 0 0); have cb := hrb.cell (i := j * 3 + 2) (by omega); have cfb := fun i => hrb.frozen i; have xb2 : (w4.alloc (.cells #[] 89)).cell? ⟨w2.heap.size, 2, none⟩ = some (.slice (some ⟨g, 0, none⟩) x.hl.length cap) := (hba.trans (bC.below (aA (br _ _) _))).cell (p := ⟨w2.heap.size, 2, none⟩) hXg x2; have xa2 : w4.cell? ⟨w2.heap.size, 2, none⟩ = some (.slice (some ⟨g, 0, none⟩) x.hl.length cap) := hba.cell (p := ⟨w2.heap.size, 2, none⟩) hXg x2; have y0 := hbc.cell (p := ⟨w2.heap.size, 0, none⟩) hXg x0; have y1 := hbc.cell (p := ⟨w2.heap.size, 1, none⟩) hXg x1; have y2 := hbc.cell (p := ⟨w2.heap.size, 2, none⟩) hXg x2; have s0 := hbc.cell (p := ⟨w.heap.size + 1, 0, none⟩) hRg r0; have s1 := hbc.cell (p := ⟨w.heap.size + 1, 1, none⟩) hRg r1; have s2 := hbc.cell (p := ⟨w.heap.size + 1, 2, none⟩) hRg r2; have sB := cA HR4.out hbc hRg; have hza : w4.heap.size ≥ w1.heap.size := by omega
      have hSp : cS w1.heap.size ((w4.alloc (.cells #[] 89)).setCell ⟨g, j * 3 + 2, none⟩ (.slice (some ⟨w4.heap.size, 0, none⟩) 0 0)) ⟨x.now, x.fa, x.fl, x.fc, x.ha, x.hl.set j ⟨y.n, y.ta, y.tl, y.tc, some ⟨w4.heap.size, 0, none⟩, [], 0⟩, x.hc⟩ :=
       HS4.out.put HXa.out hgz hrw hbc (bI.lists (h := y) hrc HFr.out (by rw [HY.out]; exact lge hjx) rfl) hcap HXc.out ⟨(HTy.out.butHeld hrw hbc).t, uS hEc (by omega)⟩
      have HSp : Hid _ := hSp; have HNc : Hid _ := hbc.under N4 (nlq _) (fun k hk => by have hk' : k = g := hk; omega); obtain ⟨Wb, hWb⟩ : ∃ Wb, w4.alloc (.cells #[] 89) = Wb := ⟨_, rfl⟩; rw [hWb] at cb cfb xb2 y0 y1 y2 s0 s1 s2 sB HSp HNc; obtain ⟨Wc, hWc⟩ : ∃ Wc, Wb.setCell ⟨g, j * 3 + 2, none⟩ (.slice (some ⟨w4.heap.size, 0, none⟩) 0 0) = Wc := ⟨_, rfl⟩; rw [hWc] at y0 y1 y2 s0 s1 s2 sB HSp HNc; have sf : ∀ i, Wc.frozen? ⟨w.heap.size + 1, i, none⟩ = false := fun i => by simp [World.frozen?, sB]
      clear hrb hrc hbc hEc hWE hSp sB hra hba x0 x1 x2 r0 r1 r2 rf; clear f1 f2 cf hrw hfr hy hxa hxc h hat X4 A4 hc ea hnl e0 e1 hlike hLk; go_wp2_with fail
      have hle : (x.hl.set j (⟨y.n, y.ta, y.tl, y.tc, some ⟨w4.heap.size, 0, none⟩, [], 0⟩ : Hx)).length = x.hl.length := by simp
      exact bpr (v := .tuple #[Bk.val ⟨x.now, x.fa, x.fl, x.fc, x.ha, x.hl.set j ⟨y.n, y.ta, y.tl, y.tc, some ⟨w4.heap.size, 0, none⟩, [], 0⟩, x.hc⟩, .int .i64 0]) (by simp [results, Tryz.results31, go_sem, s0, s1, s2, HXa.out, HXc.out]) rfl (by
       have := HEnd.out Wc ⟨x.now, x.fa, x.fl, x.fc, x.ha, x.hl.set j ⟨y.n, y.ta, y.tl, y.tc, some ⟨w4.heap.size, 0, none⟩, [], 0⟩, x.hc⟩ HE1.out HE2.out HNc.out HSp.out _ _ (HLs.out _ HLk.out) HC.out.2 HC.out.1
       simpa [HXa.out, HXc.out] using this)
     | true =>
      have HLs : Hid (∀ y' : Hx, (iT true b.hl[j]).Like y' -> aI (b.hl.set j (iT true b.hl[j])) (x.hl.set j y')) := fun y' h => HLK.out.set j h; have HLi : Hid _ := hlike; have HRw : Hid (w4.rowIs g 42 (cap * 3) f) := hrw; clear hfr hy hxa hxc h hat X4 A4 hc ea hnl e0 e1 hlike hrw; go_wp2_with fail
      have hrw := HRw.out; refine wpIn_wide.1 (aP (F := Fence.wide) (n := 0) (by kernel_rfl) 9 [some 32, some 33, some 34, some 35, some 36, some 37, some 38, some 39, some 40] (by decide) (QP w2.heap.size g x.hl.length cap j (.slice y.na y.nl.length y.nc)) QP.zL (by kernel_rfl) (by kernel_rfl) (by kernel_rfl) ?step ?fin)
      case step =>
       intro i o vs w' hi' ho hB hd
       match i, hi' with
       | 0, _ | 2, _ | 3, _ | 5, _ =>
        simp at ho; subst ho; simp only [aE, Act.put]; gi_wp2; exact ⟨_, by simp [aH], rfl, br _ _⟩
       | 1, _ =>
        simp at ho; subst ho; have d0 : vs 0 = _ := Zq hd 0; have kx : w'.cell? ⟨w2.heap.size, 2, none⟩ = some (.slice (some ⟨g, 0, none⟩) x.hl.length cap) := (hB.cell (aB x2)).trans x2; simp only [aE, Act.put]; rw [d0]; gi_wp2; exact ⟨_, by simp [aH, d0], rfl, br _ _⟩
       | 4, _ =>
        simp at ho; subst ho; have d3 : vs 3 = _ := Zq hd 3; have kx : w'.cell? ⟨w2.heap.size, 2, none⟩ = some (.slice (some ⟨g, 0, none⟩) x.hl.length cap) := (hB.cell (aB x2)).trans x2; simp only [aE, Act.put]; rw [d3]; gi_wp2; exact ⟨_, by simp [aH, d3], rfl, br _ _⟩
       | 6, _ =>
        simp at ho; subst ho; have d4 : vs 4 = _ := Zq hd 4; have d5 : vs 5 = _ := Zq hd 5; simp only [aE, Act.put]; rw [d4, d5]; gi_wp2; exact ⟨_, by simp [aH, d4, d5], rfl, br _ _⟩
       | 7, _ =>
        simp at ho; subst ho; have d6 : vs 6 = _ := Zq hd 6; simp only [aE, Act.put]; rw [d6]; gi_wp2; exact ⟨_, by simp [aH, d6], rfl, br _ _⟩
       | 8, _ =>
        simp at ho; subst ho; have d7 : vs 7 = _ := Zq hd 7; have kn : w'.cell? ⟨g, j * 3 + 2, none⟩ = some (.slice y.na y.nl.length y.nc) := (hB.cell (aB f2)).trans f2; simp only [aE, Act.put]; rw [d7]; gi_wp2; exact ⟨_, by simp [aH, d7], rfl, br _ _⟩
       | q + 9, h => exact absurd h (by omega)
      case fin =>
       intro vs w5 hB hp; have d1 : vs 1 = _ := hp 1 (by decide); have d2 : vs 2 = _ := hp 2 (by decide); have d8 : vs 8 = _ := hp 8 (by decide); clear hp; simp only [lds, List.drop_zero, aE, Act.put]; rw [d1, d2, d8]; clear d1 d2 d8; generalize vs 0 = v0; generalize vs 3 = v3; generalize vs 4 = v4; generalize vs 5 = v5; generalize vs 6 = v6; generalize vs 7 = v7; have hr5 := hrw.of_block (hB.block _ hrw.lt); have c5 := hr5.cell (i := j * 3 + 1) (by omega); have cf5 := fun i => hr5.frozen i; have hba : bC (fun k => k = g) w4 (w5.setCell ⟨g, j * 3 + 1, none⟩ (.slice y.na y.nl.length y.nc)) := (bC.below (S := fun k => k = g) hB).set (g := g) rfl _ _; have hra := hr5.set (j * 3 + 1) (.slice y.na y.nl.length y.nc); obtain ⟨Wa, hWa⟩ : ∃ Wa, w5.setCell ⟨g, j * 3 + 1, none⟩ (.slice y.na y.nl.length y.nc) = Wa := ⟨_, rfl⟩; rw [hWa] at hba hra; have hs5 := hB.size; have hsa : w4.heap.size <= Wa.heap.size := hba.size; clear f1 f2 cf hr5 hB; have hWE := wnq Wa (.cells #[] 89); have hrb := hra.alloc (.cells #[] 89); have hrc := hrb.set (j * 3 + 2) (.slice (some ⟨Wa.heap.size, 0, none⟩) 0 0); have hbc : bC (fun k => k = g) w4 ((Wa.alloc (.cells #[] 89)).setCell ⟨g, j * 3 + 2, none⟩ (.slice (some ⟨Wa.heap.size, 0, none⟩) 0 0)) := (hba.trans (bC.below (aA (br _ _) _))).set (g := g) rfl _ _; have hEc := bE hWE (p := ⟨g, j * 3 + 2, none⟩) (by show Wa.heap.size ≠ g; have := hra.lt; omega) (.slice (some ⟨Wa.heap.size, 0, none⟩) 0 0); have cb := hrb.cell (i := j * 3 + 2) (by omega); have cfb := fun i => hrb.frozen i; have xb2 : (Wa.alloc (.cells #[] 89)).cell? ⟨w2.heap.size, 2, none⟩ = some (.slice (some ⟨g, 0, none⟩) x.hl.length cap) := (hba.trans (bC.below (aA (br _ _) _))).cell (p := ⟨w2.heap.size, 2, none⟩) hXg x2; have xa2 : Wa.cell? ⟨w2.heap.size, 2, none⟩ = some (.slice (some ⟨g, 0, none⟩) x.hl.length cap) := hba.cell (p := ⟨w2.heap.size, 2, none⟩) hXg x2; have y0 := hbc.cell (p := ⟨w2.heap.size, 0, none⟩) hXg x0; have y1 := hbc.cell (p := ⟨w2.heap.size, 1, none⟩) hXg x1; have y2 := hbc.cell (p := ⟨w2.heap.size, 2, none⟩) hXg x2; have s0 := hbc.cell (p := ⟨w.heap.size + 1, 0, none⟩) hRg r0; have s1 := hbc.cell (p := ⟨w.heap.size + 1, 1, none⟩) hRg r1; have s2 := hbc.cell (p := ⟨w.heap.size + 1, 2, none⟩) hRg r2; have sB := cA HR4.out hbc hRg; have hza : Wa.heap.size ≥ w1.heap.size := by have := hba.size; omega
       have hSp : cS w1.heap.size ((Wa.alloc (.cells #[] 89)).setCell ⟨g, j * 3 + 2, none⟩ (.slice (some ⟨Wa.heap.size, 0, none⟩) 0 0)) ⟨x.now, x.fa, x.fl, x.fc, x.ha, x.hl.set j ⟨y.n, y.na, y.nl, y.nc, some ⟨Wa.heap.size, 0, none⟩, [], 0⟩, x.hc⟩ :=
        HS4.out.put HXa.out hgz hrw hbc (bI.lists (h := y) hrc HFr.out (by rw [HY.out]; exact lge hjx) rfl) hcap HXc.out ⟨(HTy.out.butHeld hrw hbc).n, uS hEc (by omega)⟩
       have HSp : Hid _ := hSp; have HNc : Hid _ := hbc.under N4 (nlq _) (fun k hk => by have hk' : k = g := hk; omega); obtain ⟨Wb, hWb⟩ : ∃ Wb, Wa.alloc (.cells #[] 89) = Wb := ⟨_, rfl⟩; rw [hWb] at cb cfb xb2 y0 y1 y2 s0 s1 s2 sB HSp HNc; obtain ⟨Wc, hWc⟩ : ∃ Wc, Wb.setCell ⟨g, j * 3 + 2, none⟩ (.slice (some ⟨Wa.heap.size, 0, none⟩) 0 0) = Wc := ⟨_, rfl⟩; rw [hWc] at y0 y1 y2 s0 s1 s2 sB HSp HNc; have sf : ∀ i, Wc.frozen? ⟨w.heap.size + 1, i, none⟩ = false := fun i => by simp [World.frozen?, sB]
       clear hrw hrb hrc hbc hEc hWE hSp sB hra hba x0 x1 x2 r0 r1 r2 rf; gi_wp2_with fail
       go_wp2_with fail
       have hle : (x.hl.set j (⟨y.n, y.na, y.nl, y.nc, some ⟨Wa.heap.size, 0, none⟩, [], 0⟩ : Hx)).length = x.hl.length := by simp
       exact bpr (v := .tuple #[Bk.val ⟨x.now, x.fa, x.fl, x.fc, x.ha, x.hl.set j ⟨y.n, y.na, y.nl, y.nc, some ⟨Wa.heap.size, 0, none⟩, [], 0⟩, x.hc⟩, .int .i64 0]) (by simp [results, Tryz.results31, go_sem, s0, s1, s2, HXa.out, HXc.out]) rfl (by
        have := HEnd.out Wc ⟨x.now, x.fa, x.fl, x.fc, x.ha, x.hl.set j ⟨y.n, y.na, y.nl, y.nc, some ⟨Wa.heap.size, 0, none⟩, [], 0⟩, x.hc⟩ HE1.out HE2.out HNc.out HSp.out _ _ (HLs.out _ ⟨HLi.out.n, HLi.out.x, rfl⟩) HC.out.2 HC.out.1
        simpa [HXa.out, HXc.out] using this)
def dH (b : Bk) (nm : ByteArray) (tl : List Bx) : Int := gX b nm (j5 b.hl nm).toNat (decide (0 <= j5 b.hl nm)) tl
def fM (b : Bk) (nm : ByteArray) (tl : List Bx) : List Hx := jA b nm (j5 b.hl nm).toNat (decide (0 <= j5 b.hl nm)) tl
def QG (X g n cap j : Nat) (tv : Value) (Z : Nat) (tl : List Bx) (i : Nat) (v : Value) (w : World) : Prop :=
 match i with
 | 0 => v = .pointer (some ⟨X, 2, none⟩)
 | 1 => v = .slice (some ⟨g, 0, none⟩) n cap
 | 2 => v = .int .i64 (j : Int)
 | 3 => v = tv
 | 4 => aF w Z v tl
 | _ => True
theorem QG.zL {X g n cap j : Nat} {tv : Value} {Z : Nat} {tl : List Bx} (i : Nat) (v : Value) (w w' : World) (h : QG X g n cap j tv Z tl i v w) (hb : Below w.heap.size w w') : QG X g n cap j tv Z tl i v w' := by
 unfold QG at h ⊢
 split
 all_goals first
  | exact h
  | exact aF.zL h hb
  | trivial
theorem wG (b : Bk) (nm : ByteArray) (tl : List Bx) (ta : Option Addr) (tc : Nat) (w : World) (hok : lR b w) (hq : vU w b tl ta) :
 Calls Tryz.prog 30 #[b.val, .string nm, .slice ta tl.length tc] w fun e w' => qF b (fM b nm tl) (dH b nm tl) w.heap.size e w' /\ Below w.heap.size w w' := by
 have hB0 : Below w.heap.size w ((w.alloc b.obj).alloc (.cells #[.int .i64 0, .slice none 0 0, .slice none 0 0] 29)) := aA (aA (br _ _) _) _; have A0 := (halq (w.alloc b.obj) (.cells #[.int .i64 0, .slice none 0 0, .slice none 0 0] 29) w.heap.size (by simp)).trans (wnq w b.obj); have R0 := wnq (w.alloc b.obj) (.cells #[.int .i64 0, .slice none 0 0, .slice none 0 0] 29); rw [wsa] at R0
 go_enter Tryz.func30, Tryz.ntmps30
 go_wp2_with fail
 obtain ⟨W0, hW0⟩ : ∃ W0, (w.alloc b.obj).alloc (.cells #[.int .i64 0, .slice none 0 0, .slice none 0 0] 29) = W0 := ⟨_, rfl⟩; rw [hW0] at hB0 A0 R0 ⊢; have hz1 : w.heap.size + 1 < W0.heap.size := (bH R0); clear hW0; refine (hok W0 hB0).mono ?_; rintro e w1 ⟨rfl, hb1⟩; have N1 := aC hB0 hb1; have A1 := aY A0 hb1; have R1 := aY R0 hb1; have hs1 := hb1.size; clear A0 R0 hb1 hB0 hok; have hset : ∀ (X : World) (u v x : Value), bC (fun k => k = w.heap.size + 1) X (((X.setCell ⟨w.heap.size + 1, 0, none⟩ u).setCell ⟨w.heap.size + 1, 1, none⟩ v).setCell ⟨w.heap.size + 1, 2, none⟩ x) := fun X u v x => (((bC.refl (fun k => k = w.heap.size + 1) X).set (g := w.heap.size + 1) rfl _ _).set (g := w.heap.size + 1) rfl _ _).set (g := w.heap.size + 1) rfl _ _
 cases hbk : aS b with
 | false =>
  have HBK : Hid _ := hbk; obtain ⟨r0, r1, r2⟩ := aJ R1; have rf : ∀ i, w1.frozen? ⟨w.heap.size + 1, i, none⟩ = false := fun i => by simp [World.frozen?, R1]
  clear A1 R1 hbk; go_wp2_with fail
  exact bpr (v := .tuple #[Bk.val ⟨0, none, [], 0, none, [], 0⟩, .int .i64 1]) (by simp [results, Tryz.results30, go_sem, r0, r1, r2]) rfl ⟨.inl ⟨HBK.out, rfl⟩, (hset w1 _ _ _).under N1 (nlq _) (fun k hk => by rw [hk]; omega)⟩
 | true =>
  have HBK : Hid _ := hbk; obtain ⟨k0, k1, k2⟩ := aJ A1; have HA1 : Hid _ := A1; have HR1 : Hid _ := R1; clear A1 R1 hbk; go_wp2_with fail
  refine (iI b w1 (hq.hf.zL N1) hq.hnf (hq.hh.zL N1) hq.hnh (fun h m => ⟨(hq.hgood h m).1.zL N1, (hq.hgood h m).2⟩)).mono ?_; rintro e w2 ⟨⟨x, rfl, e1, e2, hlk, hA⟩, hb2⟩; have hbx : Below w2.heap.size w2 (w2.alloc x.obj) := aA (br _ _) _; have X3 := wnq w2 x.obj; have N3 := aC (aC N1 hb2) hbx; have A3 := aY (aY HA1.out hb2) hbx; have HR3 : Hid _ := aY (aY HR1.out hb2) hbx; have hA3 := hA.zL hbx; have hs2 := hb2.size; obtain ⟨w3, hw3⟩ : ∃ w3, w2.alloc x.obj = w3 := ⟨_, rfl⟩; rw [hw3] at X3 N3 A3 HR3 hA3; have HX3 : Hid _ := X3; have HA3 : Hid _ := A3; have HS3 : Hid _ := hA3; have HE1 : Hid _ := e1; have HE2 : Hid _ := e2; have HLK : Hid _ := hlk; have hs3 : w2.heap.size < w3.heap.size := (bH X3); clear k0 k1 k2; obtain ⟨k0, k1, k2⟩ := aJ A3; clear X3 A3 hA3 hA hbx hb2 N1 HA1 HR1 e1 e2 hlk; go_wp2_with fail
  clear hw3; refine (uJ b nm w3 (hq.hh.zL N3) hq.hnh).mono ?_; rintro e w4 ⟨rfl, hb4⟩; have N4 := aC N3 hb4; have X4 := aY HX3.out hb4; have A4 := aY HA3.out hb4; have HR4 : Hid _ := aY HR3.out hb4; have HS4 : Hid _ := HS3.out.zL hb4; have hs4 := hb4.size; clear k0 k1 k2 hb4 HX3 HA3 HR3 HS3 N3
  have HEnd : Hid (∀ (X : World) (y : Bk), y.now = b.now -> y.fl = b.fl -> Below w.heap.size w X -> cS w1.heap.size X y -> ∀ l c, aI l y.hl -> fM b nm tl = l -> dH b nm tl = c -> qF b (fM b nm tl) (dH b nm tl) w.heap.size (.returned (.tuple #[y.val, .int .i64 c])) (((X.setCell ⟨w.heap.size + 1, 0, none⟩ (.int .i64 y.now)).setCell ⟨w.heap.size + 1, 1, none⟩ (.slice y.fa y.fl.length y.fc)).setCell ⟨w.heap.size + 1, 2, none⟩ (.slice y.ha y.hl.length y.hc)) /\ Below w.heap.size w (((X.setCell ⟨w.heap.size + 1, 0, none⟩ (.int .i64 y.now)).setCell ⟨w.heap.size + 1, 1, none⟩ (.slice y.fa y.fl.length y.fc)).setCell ⟨w.heap.size + 1, 2, none⟩ (.slice y.ha y.hl.length y.hc))) := fun X y h1 h2 hN hS l c hl el ec => by
   refine ⟨.inr ⟨HBK.out, y, by rw [ec], h1, h2, by rw [el]; exact hl, (hS.but (hset X _ _ _) (fun k hk => by rw [hk]; omega)).weak (by omega)⟩, (hset X _ _ _).under hN (nlq _) (fun k hk => by rw [hk]; omega)⟩
  obtain ⟨k0, k1, k2⟩ := aJ A4; have HX4 : Hid _ := X4; have HA4 : Hid _ := A4; clear X4 A4; obtain ⟨at0, hat⟩ : ∃ at0, j5 b.hl nm = at0 := ⟨_, rfl⟩; have HAT : Hid (j5 b.hl nm = at0) := hat; rw [hat]; clear hat; go_wp2_with fail
  refine (lU b.fl tl b.fa ta b.fc tc w4 (hq.hf.zL N4) (hq.ht.zL N4) hq.hnf hq.hnt).mono ?_; rintro e w5 ⟨rfl, hb5⟩; obtain ⟨v1, hv1⟩ : ∃ v, aN b.fl tl = v := ⟨_, rfl⟩; rw [hv1]; have HV1 : Hid _ := hv1; have NN := aC N4 hb5; have HM : Hid (Below w4.heap.size w4 w5) := hb5; clear hv1 k0 k1 k2 hb5; have A5 := aY HA4.out HM.out; have X5 := aY HX4.out HM.out; have R5 := aY HR4.out HM.out; obtain ⟨r0, r1, r2⟩ := aJ R5; have rf : ∀ i, w5.frozen? ⟨w.heap.size + 1, i, none⟩ = false := fun i => by simp [World.frozen?, R5]
  obtain ⟨x0, x1, x2⟩ := aJ X5; obtain ⟨k0, k1, k2⟩ := aJ A5; clear A5 X5 R5
  cases v1 with
  | false =>
   have HC : Hid (dH b nm tl = 2 /\ fM b nm tl = b.hl) := by
    have h6 : dH b nm tl = 2 := by unfold dH gX; rw [HV1.out]; rfl
    exact ⟨h6, by unfold fM jA; unfold dH at h6; rw [h6]; rfl⟩
   have HN : Hid _ := NN; clear NN; go_wp2_with fail
   exact bpr (v := .tuple #[x.val, .int .i64 2]) (by simp [results, Tryz.results30, go_sem, r0, r1, r2]) rfl (HEnd.out w5 x HE1.out HE2.out HN.out (HS4.out.zL HM.out) _ _ HLK.out HC.out.2 HC.out.1)
  | true =>
  go_wp2_with fail
  refine (t7 tl ta tc b.now w5 (hq.ht.zL NN) hq.hnt).mono ?_; rintro e w6 ⟨rfl, rfl⟩; obtain ⟨v2, hv2⟩ : ∃ v, eK b.now tl = v := ⟨_, rfl⟩; rw [hv2]; have HV2 : Hid _ := hv2; clear hv2
  cases v2 with
  | false =>
   have HC : Hid (dH b nm tl = 2 /\ fM b nm tl = b.hl) := by
    have h6 : dH b nm tl = 2 := by unfold dH gX; rw [HV1.out, HV2.out]; rfl
    exact ⟨h6, by unfold fM jA; unfold dH at h6; rw [h6]; rfl⟩
   have HN : Hid _ := NN; clear NN; go_wp2_with fail
   exact bpr (v := .tuple #[x.val, .int .i64 2]) (by simp [results, Tryz.results30, go_sem, r0, r1, r2]) rfl (HEnd.out w6 x HE1.out HE2.out HN.out (HS4.out.zL HM.out) _ _ HLK.out HC.out.2 HC.out.1)
  | true =>
  rcases n9 b.hl nm with h | ⟨j, hj, h⟩
  · obtain rfl : at0 = -1 := HAT.out.symm.trans h
    have HC : Hid (dH b nm tl = 6 /\ fM b nm tl = b.hl) := by
     have h6 : dH b nm tl = 6 := by unfold dH gX; rw [HV1.out, HV2.out, h]; rfl
     exact ⟨h6, by unfold fM jA; unfold dH at h6; rw [h6]; rfl⟩
    have HN : Hid _ := NN; clear NN h; go_wp2_with fail
    exact bpr (v := .tuple #[x.val, .int .i64 6]) (by simp [results, Tryz.results30, go_sem, r0, r1, r2]) rfl (HEnd.out w6 x HE1.out HE2.out HN.out (HS4.out.zL HM.out) _ _ HLK.out HC.out.2 HC.out.1)
  · obtain rfl : at0 = (j : Int) := HAT.out.symm.trans h
    have hneg : decide ((j : Int) < 0) = false := by simp
    obtain ⟨bl, off, ea, hc⟩ : ∃ bl off, b.ha = some ⟨bl, off, none⟩ /\ ∀ k (h : k < b.hl.length), aM w bl (off + k * 3) b.hl[k].cells := by
     rcases hq.hh with e | e
     · rw [e] at hj; simp at hj
     · exact e
    obtain ⟨e0, e1, e2⟩ := eS ((hc j hj).zL NN); rw [ea] at k2; have hnn := (hq.hgood b.hl[j] (lgm hj)).2.nn; have hhl := hq.hnh
    cases hnl : b.hl[j].nl with
    | cons y ys =>
     have HC : Hid (dH b nm tl = 7 /\ fM b nm tl = b.hl) := by
      have h7 : dH b nm tl = 7 := by
       unfold dH gX; rw [HV1.out, HV2.out, h]
       simp [lge hj, hnl]
      exact ⟨h7, by unfold fM jA; unfold dH at h7; rw [h7]; rfl⟩
     have hlen : 0 < b.hl[j].nl.length := by rw [hnl]; simp
     have hgt : decide ((0 : Int) < (b.hl[j].nl.length : Int)) = true := by simp; omega
     have HN : Hid _ := NN; clear h hc ea hnl e0 e1 NN; go_wp2_with fail
     exact bpr (v := .tuple #[x.val, .int .i64 7]) (by simp [results, Tryz.results30, go_sem, r0, r1, r2]) rfl (HEnd.out w6 x HE1.out HE2.out HN.out (HS4.out.zL HM.out) _ _ HLK.out HC.out.2 HC.out.1)
    | nil =>
    have HNl : Hid (b.hl[j].nl = []) := hnl; rw [hnl] at e2; have hjb : (j : Int) < (b.hl.length : Int) := by omega
    have HEa : Hid (b.ha = some ⟨bl, off, none⟩) := ea; clear hc hnl e0 e1; go_wp2_with fail
    rw [show (Value.agg #[.int .i64 b.now, .slice b.fa b.fl.length b.fc, .slice (some ⟨bl, off, none⟩) b.hl.length b.hc]) = b.val from by rw [← HEa.out]]; refine (uE b nm tl ta tc w6 (hq.zL NN)).mono ?_; rintro e w7 ⟨rfl, hb7⟩; obtain ⟨v3, hv3⟩ : ∃ v, iK nm tl b.hl = v := ⟨_, rfl⟩; rw [hv3]; have HV3 : Hid _ := hv3; have NN := aC NN hb7; have HM : Hid (Below w4.heap.size w4 w7) := aC HM.out hb7; have X7 := aY HX4.out HM.out; have R7 := aY HR4.out HM.out; clear hv3 k0 k1 k2 e2 x0 x1 x2 r0 r1 r2 rf hb7; obtain ⟨r0, r1, r2⟩ := aJ R7; have rf : ∀ i, w7.frozen? ⟨w.heap.size + 1, i, none⟩ = false := fun i => by simp [World.frozen?, R7]
    obtain ⟨x0, x1, x2⟩ := aJ X7; clear X7 R7
    cases v3 with
    | false =>
     have HC : Hid (dH b nm tl = 5 /\ fM b nm tl = b.hl) := by
      have h5 : dH b nm tl = 5 := by
       unfold dH gX; rw [HV1.out, HV2.out, h]
       simp [lge hj, HNl.out, HV3.out]
      exact ⟨h5, by unfold fM jA; unfold dH at h5; rw [h5]; rfl⟩
     have HN : Hid _ := NN; clear h ea NN; go_wp2_with fail
     exact bpr (v := .tuple #[x.val, .int .i64 5]) (by simp [results, Tryz.results30, go_sem, r0, r1, r2]) rfl (HEnd.out w7 x HE1.out HE2.out HN.out (HS4.out.zL HM.out) _ _ HLK.out HC.out.2 HC.out.1)
    | true =>
    have HC : Hid (dH b nm tl = 0 /\ fM b nm tl = b.hl.set j (DX tl b.hl[j])) := by
     have h0 : dH b nm tl = 0 := by
      unfold dH gX; rw [HV1.out, HV2.out, h]
      simp [lge hj, HNl.out, HV3.out]
     refine ⟨h0, ?_⟩; unfold fM jA; unfold dH at h0; rw [h0, h]
     simp [lge hj]
    have hjx : j < x.hl.length := by rw [HLK.out.len]; exact hj
    obtain ⟨y, hy⟩ : ∃ y, y = x.hl[j] := ⟨_, rfl⟩; have HLi : Hid (b.hl[j].Like y) := by rw [hy]; exact HLK.out.like j hj
    obtain ⟨g, cap, hxa, hxc, hgz, hcap, f, hrw, hfr⟩ : ∃ g cap, x.ha = some ⟨g, 0, none⟩ /\ x.hc = cap /\ w1.heap.size <= g /\ x.hl.length <= cap /\ bI 42 3 Hx.cells w4 g cap x.hl x.hl.length := by
     rcases HS4.out.h with ⟨_, e⟩ | ⟨g, cap, e, h1, h2, h3⟩
     · rw [e] at hjx; simp at hjx
     · simp only [Value.slice.injEq] at e
       exact ⟨g, cap, e.1, e.2.2, h1, h2, h3⟩
    have hXg : w2.heap.size ≠ g := fun e => by
     obtain ⟨cs, hcs, _⟩ := hrw; rw [← e, HX4.out] at hcs
     cases hcs
    have hRg : w.heap.size + 1 ≠ g := by omega
    have HY : Hid _ := hy; have HXa : Hid _ := hxa; have HXc : Hid (x.hc = cap) := hxc; have HTy : Hid (cG w1.heap.size w4 y) := HS4.out.t y (by rw [hy]; exact lgm hjx); have HFr : Hid _ := hfr; have x0' : w4.cell? ⟨w2.heap.size, 0, none⟩ = some (.int .i64 x.now) := aK HX4.out rfl; have x1' : w4.cell? ⟨w2.heap.size, 1, none⟩ = some (.slice x.fa x.fl.length x.fc) := aK HX4.out rfl; have x2' : w4.cell? ⟨w2.heap.size, 2, none⟩ = some (.slice x.ha x.hl.length x.hc) := aK HX4.out rfl; have r0' : w4.cell? ⟨w.heap.size + 1, 0, none⟩ = some (.int .i64 0) := aK HR4.out rfl; have r1' : w4.cell? ⟨w.heap.size + 1, 1, none⟩ = some (.slice none 0 0) := aK HR4.out rfl; have r2' : w4.cell? ⟨w.heap.size + 1, 2, none⟩ = some (.slice none 0 0) := aK HR4.out rfl; rw [hxa, hxc] at x2 x2'; have hjx2 : (j : Int) < (x.hl.length : Int) := by omega
    have hxl : x.hl.length <= 1048576 := by rw [HLK.out.len]; exact hq.hnh
    clear hfr hy hxa hxc h ea; go_wp2_with fail
    refine wpIn_wide.1 (aP (F := Fence.wide) (n := 0) (by kernel_rfl) 5 [some 50, some 51, some 52, some 53, some 54] (by decide) (QG w2.heap.size g x.hl.length cap j (.slice ta tl.length tc) w7.heap.size tl) QG.zL (by kernel_rfl) (by kernel_rfl) (by kernel_rfl) ?step ?fin)
    case step =>
     intro ii o vs w' hi' ho hB hd
     match ii, hi' with
     | 0, _ | 2, _ | 3, _ =>
      simp at ho; subst ho; simp only [aE, Act.put]; gi_wp2; exact ⟨_, by simp [aH], rfl, br _ _⟩
     | 1, _ =>
      simp at ho; subst ho; have d0 : vs 0 = _ := Zq hd 0; have kx := (hB.cell (aB x2)).trans x2; simp only [aE, Act.put]; rw [d0]; gi_wp2; exact ⟨_, by simp [aH, d0], rfl, br _ _⟩
     | 4, _ =>
      simp at ho; subst ho; have d3 : vs 3 = _ := Zq hd 3; simp only [aE, Act.put]; rw [d3]; gi_wp2_with fail
      refine ⟨trivial, rfl, ?_⟩; refine (cw.2 (nO tl ta tc w' (hq.ht.zL (aC NN hB)) hq.hnt)).mono ?_; rintro e w5 ⟨⟨v5, rfl, hO5⟩, hb5⟩; have HO5 : Hid _ := hO5.weak (base' := w7.heap.size) hB.size; clear hO5; gi_wp2; exact ⟨_, by simp [aH, d3], HO5.out, hb5⟩
     | q + 5, h => exact absurd h (by omega)
    case fin =>
     intro vs w8 hB hp; have d1 : vs 1 = _ := hp 1 (by decide); have d2 : vs 2 = _ := hp 2 (by decide); have d4 : aF w8 w7.heap.size (vs 4) tl := hp 4 (by decide); obtain ⟨na, nc, hv, _⟩ := d4.slice; rw [hv] at d4; have HO : Hid (aF w8 w7.heap.size (.slice na tl.length nc) tl) := d4; have N8 := aC NN hB; have M8 := aC HM.out hB; have hr8 := hrw.of_block (M8.block _ hrw.lt); have c8 := hr8.cell (i := j * 3 + 2) (by omega); have cf := fun i => hr8.frozen i; have hs7 := HM.out.size; clear hp d4; simp only [lds, List.drop_zero, aE, Act.put]; rw [d1, d2, hv]; clear d1 d2 hv; generalize vs 0 = v0; generalize vs 3 = v3; have hbc : bC (fun k => k = g) w4 (w8.setCell ⟨g, j * 3 + 2, none⟩ (.slice na tl.length nc)) := (bC.below (S := fun k => k = g) M8).set (g := g) rfl _ _; have h1 := hr8.set (j * 3 + 2) (.slice na tl.length nc)
     have h2 : (fun i => if i = j * 3 + 2 then Value.slice na tl.length nc else f i) = (fun i => if i = j * 3 + 2 then Value.slice na tl.length nc else if i = j * 3 + 1 then .slice y.ta y.tl.length y.tc else f i) := by
      funext i
      by_cases e : i = j * 3 + 1
      · subst e
        rw [if_neg (by omega), if_neg (by omega), if_pos rfl, HY.out]; exact HFr.out j hjx hjx 1 _ rfl
      · simp [e]
     rw [h2] at h1; have hR := bI.lists (h := y) (h' := ⟨y.n, y.ta, y.tl, y.tc, na, tl, nc⟩) h1 HFr.out (by rw [HY.out]; exact lge hjx) rfl; have y0 := hbc.cell (p := ⟨w2.heap.size, 0, none⟩) hXg x0'; have y1 := hbc.cell (p := ⟨w2.heap.size, 1, none⟩) hXg x1'; have y2 := hbc.cell (p := ⟨w2.heap.size, 2, none⟩) hXg x2'; have s0 := hbc.cell (p := ⟨w.heap.size + 1, 0, none⟩) hRg r0'; have s1 := hbc.cell (p := ⟨w.heap.size + 1, 1, none⟩) hRg r1'; have s2 := hbc.cell (p := ⟨w.heap.size + 1, 2, none⟩) hRg r2'; have sB := cA HR4.out hbc hRg
     have hSp : cS w1.heap.size (w8.setCell ⟨g, j * 3 + 2, none⟩ (.slice na tl.length nc)) ⟨x.now, x.fa, x.fl, x.fc, x.ha, x.hl.set j ⟨y.n, y.ta, y.tl, y.tc, na, tl, nc⟩, x.hc⟩ :=
      HS4.out.put HXa.out hgz hrw hbc hR hcap HXc.out ⟨(HTy.out.butHeld hrw hbc).t, ((HO.out.weak (base' := w1.heap.size) (by omega)).setRow hr8 (by decide) _ _)⟩
     have HSp : Hid _ := hSp; have HNc : Hid _ := hbc.under N4 (nlq _) (fun k hk => by have hk' : k = g := hk; omega); obtain ⟨Wc, hWc⟩ : ∃ Wc, w8.setCell ⟨g, j * 3 + 2, none⟩ (.slice na tl.length nc) = Wc := ⟨_, rfl⟩; rw [hWc] at y0 y1 y2 s0 s1 s2 sB HSp HNc; have sf : ∀ i, Wc.frozen? ⟨w.heap.size + 1, i, none⟩ = false := fun i => by simp [World.frozen?, sB]
     have HLk : Hid (aI (b.hl.set j (DX tl b.hl[j])) (x.hl.set j ⟨y.n, y.ta, y.tl, y.tc, na, tl, nc⟩)) := HLK.out.set j ⟨HLi.out.n, HLi.out.t, rfl⟩; clear hbc hSp sB hR h1 h2 hr8 hB x0 x1 x2 x0' x1' x2' r0 r1 r2 r0' r1' r2' rf hrw NN N8 M8 N4; gi_wp2_with fail
     go_wp2_with fail
     exact bpr (v := .tuple #[Bk.val ⟨x.now, x.fa, x.fl, x.fc, x.ha, x.hl.set j ⟨y.n, y.ta, y.tl, y.tc, na, tl, nc⟩, x.hc⟩, .int .i64 0]) (by simp [results, Tryz.results30, go_sem, s0, s1, s2, HXa.out, HXc.out]) rfl (by
      have := HEnd.out Wc ⟨x.now, x.fa, x.fl, x.fc, x.ha, x.hl.set j ⟨y.n, y.ta, y.tl, y.tc, na, tl, nc⟩, x.hc⟩ HE1.out HE2.out HNc.out HSp.out _ _ HLk.out HC.out.2 HC.out.1
      simpa [HXa.out, HXc.out] using this)
end Go.Proofs.YtiojdbffjdoniaaGreatDoor
