import Derived.Test.YtiojdbffjdoniaaGreatDoorFa
import Derived.Test.YtiojdbffjdoniaaGreatDoorDt
namespace Go.Proofs.YtiojdbffjdoniaaGreatDoor
set_option maxRecDepth 100000
set_option maxHeartbeats 8000000
open Go.RowKit Go.Shelf
attribute [local go_sem] Oper.semAt_some
def iY (frm : Int) (l : List Hx) : List Hx := (l.map (gA frm)).filter (fun x => !x.tl.isEmpty)
theorem KP {frm : Int} {l : List Hx} {x : Hx} (h : (gA frm x).tl ≠ []) : iY frm (l ++ [x]) = iY frm l ++ [gA frm x] := by
 unfold iY; rw [List.map_append, List.filter_append]
 simp [h]
theorem LZ {frm : Int} {l : List Hx} {x : Hx} (h : (gA frm x).tl = []) : iY frm (l ++ [x]) = iY frm l := by
 unfold iY; rw [List.map_append, List.filter_append]
 simp [h]
theorem xS (frm : Int) (l : List Hx) : (iY frm l).length <= l.length := by
 unfold iY; exact Nat.le_trans (List.length_filter_le _ _) (by simp)
theorem DH (frm : Int) {x : Hx} (h : x.Fit) : (gA frm x).Fit := by
 unfold gA
 split
 · exact ⟨Nat.le_trans (dV frm x.nl) h.nn, by simp, h.sn⟩
 · exact ⟨Nat.le_trans (dV frm x.tl) h.tn, Nat.le_trans (dV frm x.nl) h.nn, h.sn⟩
def cQ (b : Bk) (n : Int) : Int := if n < 0 ∨ 10000 - b.now < n then 2 else 0
def iN (b : Bk) (n : Int) : Int := if cQ b n = 0 then b.now + n else b.now
def fX (b : Bk) (n : Int) : List Hx := if cQ b n = 0 then iY (b.now + n) b.hl else b.hl
theorem fT.butPage {z P : Nat} {w w' : World} {b : Bk} {cs : Array Value} (h : fT z w b) (hb : bC (fun k => k = P) w w') (hP : w.heap[P]? = some (.cells cs 178)) : fT z w' b := by
 have no : ∀ {t n : Nat} {f : Nat -> Value}, t ≠ 178 -> w.rowIs P t n f -> False := fun ht hr => by
  obtain ⟨c, hc, _⟩ := hr; rw [hP] at hc
  cases hc
  exact ht rfl
 refine ⟨h.f.butRow hb (fun k _ _ _ hr e => by have e' : k = P := e; subst e'; exact no (by decide) hr), h.h.butRow hb (fun k _ _ _ hr e => by have e' : k = P := e; subst e'; exact no (by decide) hr), fun x hx => (h.t x hx).but hb (fun q hq e => ?_), h.d, h.c, h.cf⟩; have e' : q = P := e; subst e'; obtain ⟨_, _, r⟩ := (h.t x hx).bs_row q hq; exact no (by decide) r
structure PM (Wn : World) (frm : Int) (d0 dn : List Hx) (v : Value) (wr : World) : Prop where
 n : Below Wn.heap.size Wn wr
 h : wr.ownsRow Wn.heap.size 42 3 v dn.length (aQ Hx.cells dn)
 k : aI (iY frm d0) dn
 t : ∀ x ∈ dn, cG Wn.heap.size wr x
 d : (dn.flatMap Hx.bs).Nodup
theorem oD {w w' : World} {base : Nat} {e : TypeId} {size : Nat} {v : Value} {n : Nat} {xs : List Value} (h : w.ownsRow base e size v n xs) (hb : Below w.heap.size w w') : w'.ownsRow base e size v n xs := by
 obtain ⟨h0, ⟨hv, hn⟩ | ⟨g, cap, cur, hv, hbb, hg, hr⟩⟩ := h
 · exact ⟨h0, .inl ⟨hv, hn⟩⟩
 · exact ⟨h0, .inr ⟨g, cap, cur, hv, hbb, (hb.block _ (bH hg)).trans hg, hr⟩⟩
theorem PM.zL {Wn : World} {frm : Int} {d0 dn : List Hx} {v : Value} {wr w' : World} (h : PM Wn frm d0 dn v wr) (hb : Below wr.heap.size wr w') : PM Wn frm d0 dn v w' :=
 ⟨aC h.n hb, oD h.h hb, h.k, fun x hx => (h.t x hx).zL hb, h.d⟩
theorem PM.len {Wn : World} {frm : Int} {d0 dn : List Hx} {v : Value} {wr : World} (h : PM Wn frm d0 dn v wr) : dn.length <= d0.length := by
 rw [h.k.len]; exact xS frm d0
theorem PM.skip {Wn : World} {frm : Int} {d0 dn : List Hx} {v : Value} {wr : World} {x : Hx} (h : PM Wn frm d0 dn v wr) (hx : (gA frm x).tl = []) : PM Wn frm (d0 ++ [x]) dn v wr :=
 ⟨h.n, h.h, by rw [LZ hx]; exact h.k, h.t, h.d⟩
theorem PM.grow {Wn : World} {frm : Int} {d0 dn : List Hx} {v v' : Value} {w' w2 : World} {x x' : Hx} {B : Nat} (h : PM Wn frm d0 dn v w') (hl : (gA frm x).Like x') (hx : (gA frm x).tl ≠ []) (ht : cG B w' x') (hd : x'.bs.Nodup) (hB : Wn.heap.size <= B /\ ∀ y ∈ dn, ∀ q ∈ y.bs, q < B)
 (hown : w2.ownsRow Wn.heap.size 42 3 v' (dn.length + 1) (aQ Hx.cells dn ++ x'.cells)) (hg : w'.grownBy w2 v.ownBlock) :
 PM Wn frm (d0 ++ [x]) (dn ++ [x']) v' w2 := by
 have hty : ∀ k, v.ownBlock = some k -> ∃ cur, w'.heap[k]? = some (.cells cur 42) := fun k hk => by
  obtain ⟨_, ⟨rfl, _⟩ | ⟨g, cap, cur, rfl, _, e, _⟩⟩ := h.h
  · simp [Value.ownBlock] at hk
  · simp [Value.ownBlock] at hk
    subst hk; exact ⟨cur, e⟩
 have hf : aQ Hx.cells (dn ++ [x']) = aQ Hx.cells dn ++ x'.cells := by rw [kH, xQ]
 refine ⟨h.n.grown hg h.n.size (fun k hk => iP h.h hk), by rw [hf, List.length_append]; exact hown, by rw [KP hx]; exact h.k.snoc hl, fun y hy => ?_, ?_⟩
 · simp only [lma, List.mem_singleton] at hy
   have hyT : cG Wn.heap.size w' y := by
    rcases hy with hy | rfl
    · exact h.t y hy
    · exact ht.weak hB.1
   exact ⟨hyT.t.gkeep hg hty, hyT.n.gkeep hg hty⟩
 · rw [List.flatMap_append, List.nodup_append]
   refine ⟨h.d, by simpa using hd, fun q hq r hr e => ?_⟩; subst e; obtain ⟨y, hy, hq⟩ := List.mem_flatMap.1 hq; have h1 := hB.2 y hy q hq; have h2 := (ht.bs_in q (by simpa using hr)).1; omega
def P8 (P : Nat) (frm : Int) (x : Hx) (Z : Nat) (j : Nat) (v : Value) (w : World) : Prop :=
 match j with
 | 0 => v = x.val
 | 1 => v = .pointer (some ⟨P, 0, none⟩)
 | 2 => v = .pointer (some ⟨P, 0, none⟩)
 | 3 => v = .pointer (some ⟨P, 0, none⟩)
 | 4 => v = .pointer (some ⟨P, 0, none⟩)
 | 5 => v = .int .i64 frm
 | 6 => ∃ x' : Hx, v = x'.val /\ (gA frm x).Like x' /\ cG Z w x' /\ x'.bs.Nodup
 | _ => True
theorem P8.zL {P : Nat} {frm : Int} {x : Hx} {Z : Nat} (j : Nat) (v : Value) (w w' : World) (h : P8 P frm x Z j v w) (hb : Below w.heap.size w w') : P8 P frm x Z j v w' := by
 unfold P8 at h ⊢
 split
 all_goals first
  | exact h
  | (obtain ⟨x', e, h1, h2, h3⟩ := h; exact ⟨x', e, h1, h2.zL hb, h3⟩)
  | trivial
theorem LW (z P : Nat) (b : Bk) (nm : ByteArray) (i : Nat) (f : Bool) (n : Int) (w : World) (hI : iX z P w b nm i f) (hzw : z <= w.heap.size) (hft : ∀ h ∈ b.hl, h.Fit) (hnh : b.hl.length <= 64) (hn0 : 0 <= b.now) (hn1 : b.now <= 10000) :
 Calls Tryz.prog 120 #[.pointer (some ⟨P, 0, none⟩), .int .i64 n] w fun e w' => ∃ b'' : Bk, e = .returned (lF (cQ b n)) /\ b''.now = iN b n /\ b''.fl = b.fl /\ aI (fX b n) b''.hl /\ iX z P w' b'' nm i f /\ bC (fun k => z <= k) w w' := by
 have p0 : w.cell? ⟨P, 0, none⟩ = some (.int .i64 b.now) := aK hI.p rfl; have HI : Hid _ := hI; have HFt : Hid _ := hft; clear hI hft; have hno : cQ b n = 2 -> ∃ b'' : Bk, Ending.returned (lF 2) = .returned (lF (cQ b n)) /\ b''.now = iN b n /\ b''.fl = b.fl /\ aI (fX b n) b''.hl /\ iX z P w b'' nm i f /\ bC (fun k => z <= k) w w := fun h => ⟨b, by rw [h], by unfold iN; rw [h]; rfl, rfl, by unfold fX; rw [h]; exact aI.refl _, HI.out, bC.refl _ _⟩; have HNo : Hid _ := hno; clear hno
 by_cases h1 : n < 0
 · have hd1 : decide (n < 0) = true := by simp [h1]
   have HC : Hid (cQ b n = 2) := by
    have : cQ b n = 2 := by unfold cQ; rw [if_pos (.inl h1)]
    exact this
   clear h1
   go_enter Tryz.func120, Tryz.ntmps120
   go_wp2_with fail
   go_ret
   first
    | exact HNo.out HC.out
    | (obtain ⟨b'', h1, h2⟩ := HNo.out HC.out; exact ⟨h1, b'', h2⟩)
 have hd1 : decide (n < 0) = false := by simp; omega
 by_cases h2 : 10000 - b.now < n
 · have hd2 : decide (10000 - b.now < n) = true := by simp [h2]
   have HC : Hid (cQ b n = 2) := by
    have : cQ b n = 2 := by unfold cQ; rw [if_pos (.inr h2)]
    exact this
   clear h2
   go_enter Tryz.func120, Tryz.ntmps120
   go_wp2_with fail
   go_ret
   first
    | exact HNo.out HC.out
    | (obtain ⟨b'', h1, h2⟩ := HNo.out HC.out; exact ⟨h1, b'', h2⟩)
 have hd2 : decide (10000 - b.now < n) = false := by simp; omega
 have HC : Hid (cQ b n = 0) := by
  have : cQ b n = 0 := by unfold cQ; rw [if_neg (by omega)]
  exact this
 clear HNo; obtain ⟨j0, hih, hy0, hy1, hy2⟩ := info_parts Tryz.info42; have pf : ∀ i, w.frozen? ⟨P, i, none⟩ = false := fun i => by simp [World.frozen?, HI.out.p]
 have Pn := aX HI.out.p 0 (.int .i64 (b.now + n)); have bN : bC (fun k => k = P) w (w.setCell ⟨P, 0, none⟩ (.int .i64 (b.now + n))) := (bC.refl (fun k => k = P) w).set (g := P) rfl _ _; have HAn : Hid _ := HI.out.a.butPage bN HI.out.p; have p2 : (w.setCell ⟨P, 0, none⟩ (.int .i64 (b.now + n))).cell? ⟨P, 2, none⟩ = some (.slice b.ha b.hl.length b.hc) := aK Pn rfl; have hszn : (w.setCell ⟨P, 0, none⟩ (.int .i64 (b.now + n))).heap.size = w.heap.size := by simp
 obtain ⟨Wn, hWn⟩ : ∃ Wn, w.setCell ⟨P, 0, none⟩ (.int .i64 (b.now + n)) = Wn := ⟨_, rfl⟩; rw [hWn] at Pn bN HAn p2 hszn; have HPn : Hid (Wn.heap[P]? = some (PG ⟨b.now + n, b.fa, b.fl, b.fc, b.ha, b.hl, b.hc⟩ nm i f)) := Pn; have HBN : Hid _ := bN; have hzn : z <= Wn.heap.size := by rw [hszn]; exact hzw
 clear Pn bN hszn
 go_enter Tryz.func120, Tryz.ntmps120
 go_wp2_with fail
 clear hWn p0 pf hd1 hd2
 go_loopw [5, 37] (fun v iv wr => ∃ (d0 rs dn : List Hx) (vv : Value), Hid (b.hl = d0 ++ rs) /\ v = vv /\ iv = .int .i64 (d0.length : Int) /\ PM Wn (b.now + n) d0 dn vv wr) (fun _ iv _ => b.hl.length - (intOf iv).toNat)
 case atStart => exact ⟨[], b.hl, [], _, rfl, rfl, rfl, ⟨br _ _, World.ownsRow_nil _ _ _ _, ⟨rfl, fun k h => by simp [iY] at h⟩, fun x hx => by simp at hx, by simp⟩⟩
 case round =>
  obtain ⟨d0, rs, dn, v, hm, rfl, rfl, hS⟩ := hrel; have hml : b.hl.length = d0.length + rs.length := by rw [hm.out]; simp
  have HS : Hid (PM Wn (b.now + n) d0 dn _ wr) := hS
  cases rs with
  | cons x rs =>
   have hlt : d0.length < b.hl.length := by rw [hml]; simp
   have hxe : b.hl[d0.length] = x := by
    have : b.hl[d0.length]? = some x := by rw [hm.out, List.getElem?_append_right (nlq _), Nat.sub_self]; rfl
    rw [lge hlt] at this; exact Option.some.inj this
   have hmem : x ∈ b.hl := by rw [← hxe]; exact lgm hlt
   have hxf := HFt.out x hmem; obtain ⟨g, ha, hgz, hcap, fv, hrow, hf⟩ := fT.held HAn.out hlt; have hrw := hrow.of_block (hS.n.block _ hrow.lt); have e0 := hrw.cell (i := d0.length * 3 + 0) (by omega); have e1 := hrw.cell (i := d0.length * 3 + 1) (by omega); have e2 := hrw.cell (i := d0.length * 3 + 2) (by omega); rw [show fv (d0.length * 3 + 0) = .string x.n from by rw [← hxe]; exact hf d0.length hlt hlt 0 _ rfl] at e0; rw [show fv (d0.length * 3 + 1) = .slice x.ta x.tl.length x.tc from by rw [← hxe]; exact hf d0.length hlt hlt 1 _ rfl] at e1; rw [show fv (d0.length * 3 + 2) = .slice x.na x.nl.length x.nc from by rw [← hxe]; exact hf d0.length hlt hlt 2 _ rfl] at e2; rw [Nat.add_zero] at e0; have hxi : x.In Wn := fT.ans HAn.out |>.inn x hmem
   have HMN : Hid (b.hl = (d0 ++ [x]) ++ rs) := by rw [Hid, hm.out]; simp
   have M2 : Below wr.heap.size wr (wr.alloc (.cells #[.string x.n, .slice x.ta x.tl.length x.tc, .slice x.na x.nl.length x.nc] 42)) := aA (br _ _) _; have Y2 := wnq wr (.cells #[.string x.n, .slice x.ta x.tl.length x.tc, .slice x.na x.nl.length x.nc] 42); have hp2 : Wn.heap.size <= wr.heap.size := hS.n.size; have HXI : Hid (x.In (wr.alloc (.cells #[.string x.n, .slice x.ta x.tl.length x.tc, .slice x.na x.nl.length x.nc] 42))) := (hxi.zL hS.n).zL M2; have p0 : (wr.alloc (.cells #[.string x.n, .slice x.ta x.tl.length x.tc, .slice x.na x.nl.length x.nc] 42)).cell? ⟨P, 0, none⟩ = some (.int .i64 (b.now + n)) := aK (aY (aY HPn.out hS.n) M2) rfl; have hsz2 : (wr.alloc (.cells #[.string x.n, .slice x.ta x.tl.length x.tc, .slice x.na x.nl.length x.nc] 42)).heap.size = wr.heap.size + 1 := by simp
   obtain ⟨W2, hW2⟩ : ∃ W2, wr.alloc (.cells #[.string x.n, .slice x.ta x.tl.length x.tc, .slice x.na x.nl.length x.nc] 42) = W2 := ⟨_, rfl⟩; rw [hW2] at M2 Y2 HXI p0 hsz2; have HY2 : Hid (W2.heap[wr.heap.size]? = some (.cells #[.string x.n, .slice x.ta x.tl.length x.tc, .slice x.na x.nl.length x.nc] 42)) := Y2; obtain ⟨y0, y1, y2⟩ := aJ Y2; have HW : Hid (Wn.heap.size <= W2.heap.size /\ ∀ y ∈ dn, ∀ q ∈ y.bs, q < W2.heap.size) := ⟨by omega, fun y hy q hq => by have := ((hS.t y hy).bs_in q hq).2; omega⟩; rw [ha]; clear hf hrow hrw hxe hmem hxi hS hm Y2 ha hml; go_wp2_with fail
   clear hW2 e0 e1 e2; refine wpIn_wide.1 (aP (F := Fence.wide) (n := 0) (by kernel_rfl) 7 [some 41, some 42, some 43, some 44, some 45, some 46, some 47] (by decide) (P8 P (b.now + n) x W2.heap.size) P8.zL (by kernel_rfl) (by kernel_rfl) (by kernel_rfl) ?step ?fin)
   case step =>
    intro ii o vs w' hi' ho hB hd
    match ii, hi' with
    | 0, _ =>
     simp at ho; subst ho; have q0 := (hB.cell (aB y0)).trans y0; have q1 := (hB.cell (aB y1)).trans y1; have q2 := (hB.cell (aB y2)).trans y2; simp only [aE, Act.put]; gi_wp2; exact ⟨_, by simp [aH], rfl, br _ _⟩
    | 1, _ =>
     simp at ho; subst ho; simp only [aE, Act.put]; gi_wp2; exact ⟨_, by simp [aH], rfl, br _ _⟩
    | 2, _ =>
     simp at ho; subst ho; have d1 : vs 1 = _ := Zq hd 1; simp only [aE, Act.put]; rw [d1]; gi_wp2; exact ⟨_, by simp [aH, d1], rfl, br _ _⟩
    | 3, _ =>
     simp at ho; subst ho; have d2 : vs 2 = _ := Zq hd 2; simp only [aE, Act.put]; rw [d2]; gi_wp2; exact ⟨_, by simp [aH, d2], rfl, br _ _⟩
    | 4, _ =>
     simp at ho; subst ho; have d3 : vs 3 = _ := Zq hd 3; simp only [aE, Act.put]; rw [d3]; gi_wp2; exact ⟨_, by simp [aH, d3], rfl, br _ _⟩
    | 5, _ =>
     simp at ho; subst ho; have d4 : vs 4 = _ := Zq hd 4; have c0 := (hB.cell (aB p0)).trans p0; simp only [aE, Act.put]; rw [d4]; gi_wp2; exact ⟨_, by simp [aH, d4], rfl, br _ _⟩
    | 6, _ =>
     simp at ho; subst ho; have d0 : vs 0 = _ := Zq hd 0; have d5 : vs 5 = _ := Zq hd 5; simp only [aE, Act.put]; rw [d0, d5]; gi_wp2_with fail
     refine ⟨trivial, rfl, ?_⟩; refine (cw.2 (BV x (b.now + n) w' (Hx.In.zL HXI.out hB) hxf)).mono ?_; rintro e w5 ⟨⟨x5, rfl, hl5, ht5, hd5⟩, hb5⟩; have HO5 : Hid (∃ x', Value.agg #[.string x5.n, .slice x5.ta x5.tl.length x5.tc, .slice x5.na x5.nl.length x5.nc] = Hx.val x' /\ (gA (b.now + n) x).Like x' /\ cG W2.heap.size w5 x' /\ x'.bs.Nodup) := ⟨x5, rfl, hl5, ht5.weak hB.size, hd5⟩; clear hl5 ht5 hd5; gi_wp2; exact ⟨_, by simp [aH, d0, d5], HO5.out, hb5⟩
    | q + 7, h => exact absurd h (by omega)
   case fin =>
    intro vs w3 hB hp; obtain ⟨x', d6, hl, ht, hd⟩ : ∃ x', vs 6 = Hx.val x' /\ (gA (b.now + n) x).Like x' /\ cG W2.heap.size w3 x' /\ x'.bs.Nodup := hp 6 (by decide); have M3 := aC M2 hB; have Y3 := aY HY2.out hB; have hs3 := hB.size; clear hp hB y0 y1 y2 p0; simp only [lds, List.drop_zero, aE, Act.put]; rw [d6]; clear d6; generalize vs 0 = v0; generalize vs 1 = v1; generalize vs 2 = v2; generalize vs 3 = v3; generalize vs 4 = v4; generalize vs 5 = v5
    have rk : w3.rowIs wr.heap.size 42 3 (fun i => (#[.string x.n, .slice x.ta x.tl.length x.tc, .slice x.na x.nl.length x.nc] : Array Value).getD i undef) := ⟨_, Y3, rfl, fun i hi => by match i, hi with | 0, _ => rfl | 1, _ => rfl | 2, _ => rfl⟩
    obtain ⟨k0, k1, k2⟩ := aJ Y3; have kf := fun i => rk.frozen i; have r4 := ((rk.set 0 (.string x'.n)).set 1 (.slice x'.ta x'.tl.length x'.tc)).set 2 (.slice x'.na x'.nl.length x'.nc); have bK := (((bC.refl (fun k => k = wr.heap.size) w3).set (g := wr.heap.size) rfl 0 (.string x'.n)).set (g := wr.heap.size) rfl 1 (.slice x'.ta x'.tl.length x'.tc)).set (g := wr.heap.size) rfl 2 (.slice x'.na x'.nl.length x'.nc); have c0 : (((w3.setCell ⟨wr.heap.size, 0, none⟩ (.string x'.n)).setCell ⟨wr.heap.size, 1, none⟩ (.slice x'.ta x'.tl.length x'.tc)).setCell ⟨wr.heap.size, 2, none⟩ (.slice x'.na x'.nl.length x'.nc)).cell? ⟨wr.heap.size, 0, none⟩ = some (.string x'.n) := r4.cell (i := 0) (by decide); have c1 : (((w3.setCell ⟨wr.heap.size, 0, none⟩ (.string x'.n)).setCell ⟨wr.heap.size, 1, none⟩ (.slice x'.ta x'.tl.length x'.tc)).setCell ⟨wr.heap.size, 2, none⟩ (.slice x'.na x'.nl.length x'.nc)).cell? ⟨wr.heap.size, 1, none⟩ = some (.slice x'.ta x'.tl.length x'.tc) := r4.cell (i := 1) (by decide); have c2 : (((w3.setCell ⟨wr.heap.size, 0, none⟩ (.string x'.n)).setCell ⟨wr.heap.size, 1, none⟩ (.slice x'.ta x'.tl.length x'.tc)).setCell ⟨wr.heap.size, 2, none⟩ (.slice x'.na x'.nl.length x'.nc)).cell? ⟨wr.heap.size, 2, none⟩ = some (.slice x'.na x'.nl.length x'.nc) := r4.cell (i := 2) (by decide); have M4 := bK.under M3 (nlq _) (fun k hk => by have hk' : k = wr.heap.size := hk; omega); have T4 := ht.but bK (fun q hq e => by have e' : q = wr.heap.size := e; have := (ht.bs_in q hq).1; omega); obtain ⟨w4, hw4⟩ : ∃ w4, ((w3.setCell ⟨wr.heap.size, 0, none⟩ (.string x'.n)).setCell ⟨wr.heap.size, 1, none⟩ (.slice x'.ta x'.tl.length x'.tc)).setCell ⟨wr.heap.size, 2, none⟩ (.slice x'.na x'.nl.length x'.nc) = w4 := ⟨_, rfl⟩; rw [hw4] at c0 c1 c2 M4 T4; have HS4 : Hid _ := HS.out.zL M4; have HT4 : Hid (cG W2.heap.size w4 x') := T4; have HLk : Hid ((gA (b.now + n) x).Like x') := hl; have HDk : Hid (x'.bs.Nodup) := hd; have hxl : x'.tl.length <= 1048576 := by rw [← hl.t]; exact (DH (b.now + n) hxf).tn
    have hsz4 := M4.size; clear rk r4 bK T4 M3 ht hl hd Y3; gi_wp2_with fail
    clear hw4 k0 k1 k2 kf
    by_cases hz : x'.tl = []
    · have hl0 : x'.tl.length = 0 := by rw [hz]; rfl
      have HZ : Hid ((gA (b.now + n) x).tl = []) := by rw [Hid, HLk.out.t]; exact hz
      rw [hl0] at c1; clear hz hl0 hxl; go_wp2_with fail
      go_roundw
      case rel => exact ⟨d0 ++ [x], rs, dn, _, HMN, rfl, by simp, HS4.out.skip HZ.out⟩
      case measure => simp [intOf]; omega
    · have hpos : 0 < x'.tl.length := List.length_pos_iff.2 hz
      have hgt : decide ((0 : Int) < (x'.tl.length : Int)) = true := by simp; omega
      have HZ : Hid ((gA (b.now + n) x).tl ≠ []) := by rw [Hid, HLk.out.t]; exact hz
      clear hz
      go_wp2_with (at_builtin; refine wpList_append_own _ rfl (.tmp 52) (.tmp 54) 27 rfl Wn.heap.size 42 j0 _ 3 64 Tryz.underlying27 hih hy0 hy1 hy2 rfl (by decide) _ dn.length (aQ Hx.cells dn) rfl (HS4.out.h.alloc _) ⟨w4.heap.size, 0, none⟩ 1 1 x'.cells rfl rfl ?qc1 (jH x') ?qc3 ?qc4 ?qc5 ?_)
      case qc1 =>
       intro j u h; rw [Addr.add_lit, Nat.zero_add]
       match j, h with
       | 0, h => simp [Hx.cells] at h; subst h; exact aK (wnq w4 _) rfl
       | 1, h => simp [Hx.cells] at h; subst h; exact aK (wnq w4 _) rfl
       | 2, h => simp [Hx.cells] at h; subst h; exact aK (wnq w4 _) rfl
      case qc3 => have := HS4.out.len; unfold maxLen; omega
      case qc4 => have := HS4.out.len; omega
      case qc5 => have := HS4.out.n.size; (try simp); omega
      intro v' w6 hown hgr _; have HN : Hid _ := (HS4.out.zL (aA (br _ _) _)).grow (by have := HLk.out; exact this) HZ.out (HT4.out.zL (aA (br _ _) _)) HDk.out HW.out hown hgr; clear hown hgr; go_wp2_with fail
      go_roundw
      case rel => exact ⟨d0 ++ [x], rs, dn ++ [x'], _, HMN, rfl, by simp, HN.out⟩
      case measure => simp [intOf]; omega
  | nil =>
   have hd0 : b.hl = d0 := by simpa using hm.out
   have hge : b.hl.length <= d0.length := by rw [hd0]; exact nlq _
   have ho := j1 Hx.cells_length hS.h; obtain ⟨ah, ch, hv⟩ := bM.slice ho; have HO : Hid (bM 42 3 Hx.cells wr Wn.heap.size (.slice ah dn.length ch) dn) := by rw [hv] at ho; exact ho
   have HCv : Hid (ch <= maxLen) := nY hS.h _ _ _ hv; have P3 := aY HPn.out hS.n; have q2 : wr.cell? ⟨P, 2, none⟩ = some (.slice b.ha b.hl.length b.hc) := aK P3 rfl; have pf : ∀ i, wr.frozen? ⟨P, i, none⟩ = false := fun i => by simp [World.frozen?, P3]
   have HP3 : Hid (wr.heap[P]? = some (PG ⟨b.now + n, b.fa, b.fl, b.fc, b.ha, b.hl, b.hc⟩ nm i f)) := P3; have HD0 : Hid (b.hl = d0) := hd0; rw [hv]; clear ho P3 hS hm hml hd0 hv; go_wp2_with fail
   go_ret; have hS := HS.out; have P4 := aX HP3.out 2 (.slice ah dn.length ch); have b4 : bC (fun k => k = P) wr (wr.setCell ⟨P, 2, none⟩ (.slice ah dn.length ch)) := (bC.refl (fun k => k = P) wr).set (g := P) rfl _ _
   have hA4 : fT z (wr.setCell ⟨P, 2, none⟩ (.slice ah dn.length ch)) ⟨b.now + n, b.fa, b.fl, b.fc, ah, dn, ch⟩ := by
    refine fT.butPage (P := P) ⟨(fT.zL HAn.out hS.n).f, HO.out.weak (by omega), fun x hx => (hS.t x hx).weak (by omega), hS.d, HCv.out, (fT.zL HAn.out hS.n).cf⟩ b4 HP3.out
   refine ⟨⟨b.now + n, b.fa, b.fl, b.fc, ah, dn, ch⟩, by rw [HC.out]; rfl, by unfold iN; rw [HC.out]; rfl, rfl, by unfold fX; rw [HC.out, HD0.out]; exact hS.k, ⟨P4, hA4, HI.out.zp⟩, ?_⟩; have hz := HI.out.zp; exact ((HBN.out.wide (S' := fun k => z <= k) (fun k hk => by rw [hk]; exact hz)).trans (bC.below hS.n)).trans (b4.wide (fun k hk => by rw [hk]; exact hz))
theorem DL (v : Value) (w : World) : (Instr.typeAssert (.iface 125 v) 71 181 true).run Tryz.prog w = .ok (.tuple #[.nilIface, .bool false]) w := run_typeAssert_lacksB Tryz.underlying181 (by kernel_rfl) (by kernel_rfl) v _ w
def HU : Value := .agg #[.string ByteArray.empty, .int .i64 0, .int .i64 0, .int .i64 0, .int .i64 0, .int .i64 0, .slice none 0 0, .slice none 0 0]
def FY : Value := .agg #[.string ByteArray.empty, .slice none 0 0]
def O7 : Value := .agg #[.string ByteArray.empty, .bool false]
def QY : Value := .agg #[.int .i64 0]
theorem BC (v : Value) (w : World) : (Instr.typeAssert (.iface 125 v) 71 119 true).run Tryz.prog w = .ok (.tuple #[HU, .bool false]) w := by kernel_rfl
theorem yB (v : Value) (w : World) : (Instr.typeAssert (.iface 125 v) 71 121 true).run Tryz.prog w = .ok (.tuple #[FY, .bool false]) w := by kernel_rfl
theorem CG (v : Value) (w : World) : (Instr.typeAssert (.iface 125 v) 71 123 true).run Tryz.prog w = .ok (.tuple #[O7, .bool false]) w := by kernel_rfl
theorem MK (v : Value) (w : World) : (Instr.typeAssert (.iface 125 v) 71 125 true).run Tryz.prog w = .ok (.tuple #[v, .bool true]) w := by kernel_rfl
theorem CS (n : Int) (w : World) :
 Calls Tryz.prog 66 #[.iface 125 (.agg #[.int .i64 n])] w fun e w' => e = .returned (.string ⟨#[]⟩) /\ w' = w := by
 have h0 := DL
 go_enter Tryz.func66, Tryz.ntmps66
 go_wp2
 go_ret; exact ⟨rfl, rfl⟩
theorem NR (z P : Nat) (b : Bk) (nm : ByteArray) (i : Nat) (f : Bool) (n : Int) (w : World) (hI : iX z P w b nm i f) (hzw : z <= w.heap.size) (hft : ∀ h ∈ b.hl, h.Fit) (hnh : b.hl.length <= 64) (hn0 : 0 <= b.now) (hn1 : b.now <= 10000) :
 Calls Tryz.prog 68 #[.pointer (some ⟨P, 0, none⟩), .iface 125 (.agg #[.int .i64 n])] w fun e w' => ∃ b'' : Bk, e = .returned (lF (cQ b n)) /\ b''.now = iN b n /\ b''.fl = b.fl /\ aI (fX b n) b''.hl /\ iX z P w' b'' nm i f /\ bC (fun k => z <= k) w w' := by
 have hB : Below w.heap.size w (w.alloc (.cells #[.int .i64 n] 125)) := aA (br _ _) _; have c0 : (w.alloc (.cells #[.int .i64 n] 125)).cell? ⟨w.heap.size, 0, none⟩ = some (.int .i64 n) := aK (wnq w _) rfl; obtain ⟨W, hW⟩ : ∃ W, w.alloc (.cells #[.int .i64 n] 125) = W := ⟨_, rfl⟩; rw [hW] at hB c0; have hs := hB.size; have h0 := BC; have h1 := yB; have h2 := CG; have h3 := MK
 go_enter Tryz.func68, Tryz.ntmps68
 go_wp2_with fail
 refine (LW z P b nm i f n W (hI.zL hB) (by omega) hft hnh hn0 hn1).mono ?_; rintro e w1 ⟨b'', rfl, e1, e2, e3, hI1, hb1⟩; go_wp2_with fail
 go_ret; exact ⟨b'', rfl, e1, e2, e3, hI1, (bC.below hB).trans hb1⟩
def RE (nm : ByteArray) (tl : List Bx) (b' : Bk) (i : Nat) (f : Bool) (b'' : Bk) (c : Int) : Prop := c = gX b' nm i f tl /\ b''.now = b'.now /\ b''.fl = b'.fl /\ aI (jA b' nm i f tl) b''.hl
theorem K4 {b : Bk} (h : aS b = true) : j3 Hx.n b.hl = true := by
 simp only [aS, iF, bP, bat] at h; exact h.2.2.2.1.2
theorem i8 {b : Bk} (h : aS b = true) : b.hl.length <= 16 := by
 simp only [aS, gF, bat, dte] at h; exact h.2.2.1
def mU (b : Bk) (C nw : Int) (L : List Hx) (z : Nat) (v : Value) (w' : World) : Prop :=
 (aS b = false /\ v = .tuple #[Bk.val ⟨0, none, [], 0, none, [], 0⟩, .int .i64 1]) ∨ (aS b = true /\ ∃ b'' : Bk, v = .tuple #[b''.val, .int .i64 C] /\ b''.now = nw /\ b''.fl = b.fl /\ aI L b''.hl /\ fT z w' b'')
def qC (b : Bk) (nw : Int) (L : List Hx) (z : Nat) (v : Value) (w' : World) : Prop :=
 (aS b = false /\ v = Bk.val ⟨0, none, [], 0, none, [], 0⟩) ∨ (aS b = true /\ ∃ b'' : Bk, v = b''.val /\ b''.now = nw /\ b''.fl = b.fl /\ aI L b''.hl /\ fT z w' b'')
theorem mU.zL {b : Bk} {C nw : Int} {L : List Hx} {z : Nat} {v : Value} {w w' : World} (h : mU b C nw L z v w) (hb : Below w.heap.size w w') : mU b C nw L z v w' := by
 rcases h with h | ⟨h1, b'', h2, h3, h4, h5, h6⟩
 · exact .inl h
 · exact .inr ⟨h1, b'', h2, h3, h4, h5, h6.zL hb⟩
theorem mU.weak {b : Bk} {C nw : Int} {L : List Hx} {z z' : Nat} {v : Value} {w : World} (h : mU b C nw L z v w) (hz : z' <= z) : mU b C nw L z' v w := by
 rcases h with h | ⟨h1, b'', h2, h3, h4, h5, h6⟩
 · exact .inl h
 · exact .inr ⟨h1, b'', h2, h3, h4, h5, h6.weak hz⟩
theorem qC.zL {b : Bk} {nw : Int} {L : List Hx} {z : Nat} {v : Value} {w w' : World} (h : qC b nw L z v w) (hb : Below w.heap.size w w') : qC b nw L z v w' := by
 rcases h with h | ⟨h1, b'', h2, h3, h4, h5, h6⟩
 · exact .inl h
 · exact .inr ⟨h1, b'', h2, h3, h4, h5, h6.zL hb⟩
theorem OH {b : Bk} {nm : ByteArray} {R : Bk -> Nat -> Bool -> Bk -> Int -> Prop} {C nw : Int} {L : List Hx} {z : Nat} {e : Ending} {w' : World} (hR : ∀ b' i f b'' c, aS b = true -> lE b nm b' i f -> R b' i f b'' c -> c = C /\ b''.now = nw /\ b''.fl = b.fl /\ aI L b''.hl) (h : GL b nm R z e w') : ∃ v, e = .returned v /\ mU b C nw L z v w' := by
 rcases h with ⟨hbk, e⟩ | ⟨hbk, b', i, f, b'', c, h1, h2, e, h3⟩
 · exact ⟨_, e, .inl ⟨hbk, rfl⟩⟩
 · obtain ⟨rfl, q1, q2, q3⟩ := hR b' i f b'' c hbk h1 h2
   exact ⟨_, e, .inr ⟨hbk, b'', rfl, q1, q2, q3, h3⟩⟩
def LH (b : Bk) (nm : ByteArray) (ev : Value) (T : Nat) (C nw : Int) (L : List Hx) (Z : Nat) (j : Nat) (v : Value) (w : World) : Prop :=
 match j with
 | 0 => v = b.val
 | 1 => v = ev
 | 2 => v = .string nm
 | 3 => v = .func (.func 67) #[] #[.pointer (some ⟨T, 0, none⟩)]
 | 4 => mU b C nw L Z v w
 | 5 => qC b nw L Z v w
 | 6 => v = .int .i64 (if aS b then C else 1)
 | _ => True
theorem LH.zL {b : Bk} {nm : ByteArray} {ev : Value} {T : Nat} {C nw : Int} {L : List Hx} {Z : Nat} (j : Nat) (v : Value) (w w' : World) (h : LH b nm ev T C nw L Z j v w) (hb : Below w.heap.size w w') : LH b nm ev T C nw L Z j v w' := by
 unfold LH at h ⊢
 split
 all_goals first
  | exact h
  | exact mU.zL h hb
  | exact qC.zL h hb
  | trivial
theorem gV (ev : Value) (hev : (∃ et eu, ev = .iface et eu) ∨ ev = .nilIface) (b : Bk) (nm : ByteArray) (R : Bk -> Nat -> Bool -> Bk -> Int -> Prop) (C nw : Int) (L : List Hx) (w : World) (hL : oG w) (hf : Xs 3 Fx.cells w b.fa b.fl) (hnf : b.fl.length <= 1048576) (hcf : b.fl.length <= b.fc) (hcf2 : b.fc <= 9223372036854775807) (hsf : ∀ f ∈ b.fl, f.n.size <= 9223372036854775807) (hh : Xs 3 Hx.cells w b.ha b.hl) (hnh : b.hl.length <= 1048576) (hg : ∀ h ∈ b.hl, h.In w /\ h.Fit)
 (hNm : ∀ W, Below w.heap.size w W -> Calls Tryz.prog 66 #[ev] W fun e w' => e = .returned (.string nm) /\ Below W.heap.size W w')
 (hCh : ∀ T W, Below w.heap.size w W -> W.cell? ⟨T, 0, none⟩ = some ev -> mJ 67 #[.pointer (some ⟨T, 0, none⟩)] b nm R W)
 (hR : ∀ b' i f b'' c, aS b = true -> lE b nm b' i f -> R b' i f b'' c -> c = C /\ b''.now = nw /\ b''.fl = b.fl /\ aI L b''.hl) :
 Calls Tryz.prog 26 #[b.val, ev] w fun e w' => (∃ v, e = .returned v /\ mU b C nw L w.heap.size v w') /\ Below w.heap.size w w' := by
 obtain ⟨o, ho⟩ : ∃ o, o = Obj.cells #[ev] 71 := ⟨_, rfl⟩; have N0 : Below w.heap.size w (((w.alloc b.obj).alloc o).alloc (.cells #[.int .i64 0, .slice none 0 0, .slice none 0 0] 29)) := aA (aA (aA (br _ _) _) _) _; have A0 := (halq ((w.alloc b.obj).alloc o) (.cells #[.int .i64 0, .slice none 0 0, .slice none 0 0] 29) w.heap.size (by simp; omega)).trans ((halq (w.alloc b.obj) o w.heap.size (by simp)).trans (wnq w b.obj)); have T0 := (halq ((w.alloc b.obj).alloc o) (.cells #[.int .i64 0, .slice none 0 0, .slice none 0 0] 29) (w.alloc b.obj).heap.size (by simp)).trans (wnq (w.alloc b.obj) o); have R0 := wnq ((w.alloc b.obj).alloc o) (.cells #[.int .i64 0, .slice none 0 0, .slice none 0 0] 29); simp only [wsa] at T0 R0
 rcases hev with ⟨et, eu, rfl⟩ | rfl
 all_goals go_enter Tryz.func26, Tryz.ntmps26
 all_goals go_wp2_with fail
 all_goals rw [← ho]
 rotate_left
 generalize Value.nilIface = ev at *
 rotate_left
 generalize Value.iface et eu = ev at *
 all_goals
  obtain ⟨W0, hW0⟩ : ∃ W0, ((w.alloc b.obj).alloc o).alloc (.cells #[.int .i64 0, .slice none 0 0, .slice none 0 0] 29) = W0 := ⟨_, rfl⟩; rw [hW0] at N0 A0 T0 R0 ⊢; rw [ho] at T0; have hz1 : w.heap.size + 1 + 1 < W0.heap.size := (bH R0); obtain ⟨k0, k1, k2⟩ := aJ A0; have t0 : W0.cell? ⟨w.heap.size + 1, 0, none⟩ = some ev := aK T0 rfl; have HR0 : Hid _ := R0; clear hW0 A0 T0 R0; refine wpIn_wide.1 (aP (F := Fence.wide) (n := 0) (by kernel_rfl) 7 [some 6, some 7, some 8, some 9, some 10, some 11, some 12] (by decide) (LH b nm ev (w.heap.size + 1) C nw L W0.heap.size) LH.zL (by kernel_rfl) (by kernel_rfl) (by kernel_rfl) ?step ?fin)
  case step =>
   intro ii o vs w' hi' ho hB hd
   match ii, hi' with
   | 0, _ =>
    simp at ho; subst ho; have k0' := (hB.cell (aB k0)).trans k0; have k1' := (hB.cell (aB k1)).trans k1; have k2' := (hB.cell (aB k2)).trans k2; simp only [aE, Act.put]; gi_wp2; exact ⟨_, by simp [aH], rfl, br _ _⟩
   | 1, _ =>
    simp at ho; subst ho; have t0' := (hB.cell (aB t0)).trans t0; simp only [aE, Act.put]; gi_wp2; exact ⟨_, by simp [aH], rfl, br _ _⟩
   | 2, _ =>
    simp at ho; subst ho; have d1 : vs 1 = _ := Zq hd 1; simp only [aE, Act.put]; rw [d1]; gi_wp2_with fail
    refine ⟨trivial, rfl, ?_⟩; refine (cw.2 (hNm w' (aC N0 hB))).mono ?_; rintro e w5 ⟨rfl, hb5⟩; gi_wp2; exact ⟨_, by simp [aH, d1], rfl, hb5⟩
   | 3, _ =>
    simp at ho; subst ho; simp only [aE, Act.put]; gi_wp2; exact ⟨_, by simp [aH], rfl, br _ _⟩
   | 4, _ =>
    simp at ho; subst ho; have d0 : vs 0 = _ := Zq hd 0; have d2 : vs 2 = _ := Zq hd 2; have d3 : vs 3 = _ := Zq hd 3; simp only [aE, Act.put]; rw [d0, d2, d3]; gi_wp2_with fail
    refine ⟨trivial, rfl, ?_⟩; refine (cw.2 (zU (.pointer (some ⟨w.heap.size + 1, 0, none⟩)) b nm R w' (hCh _ w' (aC N0 hB) ((hB.cell (aB t0)).trans t0)) (hL.zL (aC N0 hB)) (hf.zL (aC N0 hB)) hnf hcf hcf2 hsf (hh.zL (aC N0 hB)) hnh (fun h m => ⟨(hg h m).1.zL (aC N0 hB), (hg h m).2⟩))).mono ?_; rintro e w5 ⟨hC5, hb5⟩; obtain ⟨v5, rfl, hT5⟩ := OH (C := C) (nw := nw) (L := L) (fun b' i f b'' c h1 h2 h3 => hR b' i f b'' c h1 h2 h3) hC5; have HT5 : Hid _ := hT5.weak (z' := W0.heap.size) hB.size; clear hT5 hC5; gi_wp2; exact ⟨_, by simp [aH, d0, d2, d3], HT5.out, hb5⟩
   | 5, _ =>
    simp at ho; subst ho; have hT4 : mU b C nw L W0.heap.size (vs 4) w' := Zq hd 4
    rcases hT4 with ⟨hbk, d4⟩ | ⟨hbk, b'', d4, e1, e2, e3, e4⟩
    · have HB : Hid _ := hbk
      clear hbk; simp only [aE, Act.put]; rw [d4]; gi_wp2; exact ⟨_, by simp [aH, d4], .inl ⟨HB.out, rfl⟩, br _ _⟩
    have HB : Hid _ := hbk; have HP : Hid (b''.now = nw /\ b''.fl = b.fl /\ aI L b''.hl /\ fT W0.heap.size w' b'') := ⟨e1, e2, e3, e4⟩; clear hbk e1 e2 e3 e4; simp only [aE, Act.put]; rw [d4]; gi_wp2; exact ⟨_, by simp [aH, d4], .inr ⟨HB.out, b'', rfl, HP.out⟩, br _ _⟩
   | 6, _ =>
    simp at ho; subst ho; have hT4 : mU b C nw L W0.heap.size (vs 4) w' := Zq hd 4
    rcases hT4 with ⟨hbk, d4⟩ | ⟨hbk, b'', d4, e1, e2, e3, e4⟩
    · have HB : Hid _ := hbk
      clear hbk; simp only [aE, Act.put]; rw [d4]; gi_wp2; exact ⟨.int .i64 1, by simp [aH, d4], by unfold LH; rw [HB.out]; rfl, br _ _⟩
    have HB : Hid _ := hbk; clear hbk e1 e2 e3 e4; simp only [aE, Act.put]; rw [d4]; gi_wp2; exact ⟨.int .i64 C, by simp [aH, d4], by unfold LH; rw [HB.out]; rfl, br _ _⟩
   | q + 7, h => exact absurd h (by omega)
  case fin =>
   intro vs w1 hB hp; have d5 : qC b nw L W0.heap.size (vs 5) w1 := hp 5 (by decide); have d6 : vs 6 = .int .i64 (if aS b then C else 1) := hp 6 (by decide); have N1 := aC N0 hB; have R1 := aY HR0.out hB; have hs1 := hB.size; obtain ⟨r0, r1, r2⟩ := aJ R1; have rf : ∀ i, w1.frozen? ⟨w.heap.size + 1 + 1, i, none⟩ = false := fun i => by simp [World.frozen?, R1]
   have hS : ∀ u v x : Value, bC (fun k => k = w.heap.size + 1 + 1) w1 (((w1.setCell ⟨w.heap.size + 1 + 1, 0, none⟩ u).setCell ⟨w.heap.size + 1 + 1, 1, none⟩ v).setCell ⟨w.heap.size + 1 + 1, 2, none⟩ x) := fun u v x => (((bC.refl (fun k => k = w.heap.size + 1 + 1) w1).set (g := w.heap.size + 1 + 1) rfl _ _).set (g := w.heap.size + 1 + 1) rfl _ _).set (g := w.heap.size + 1 + 1) rfl _ _; have hN6 := fun u v x => (hS u v x).under N1 (nlq _) (fun k hk => by rw [hk]; omega); clear hp hB R1 k0 k1 k2 t0 hNm hCh hR; simp only [lds, List.drop_zero, aE, Act.put]; rw [d6]; clear d6; generalize vs 0 = v0; generalize vs 1 = v1; generalize vs 2 = v2; generalize vs 3 = v3; generalize vs 4 = v4
   rcases d5 with ⟨hbk, d5⟩ | ⟨hbk, b'', d5, e1, e2, e3, e4⟩
   · have HB : Hid _ := hbk
     rw [d5, hbk]; clear d5 hbk; gi_wp2_with fail
     go_wp2_with fail
     exact bpr (v := .tuple #[Bk.val ⟨0, none, [], 0, none, [], 0⟩, .int .i64 1]) (by simp [results, Tryz.results26, go_sem, r0, r1, r2]) rfl ⟨⟨_, rfl, .inl ⟨HB.out, rfl⟩⟩, hN6 _ _ _⟩
   · have HB : Hid _ := hbk
     have HP : Hid (b''.now = nw /\ b''.fl = b.fl /\ aI L b''.hl) := ⟨e1, e2, e3⟩; rw [d5, hbk]; clear d5 hbk e1 e2 e3; gi_wp2_with fail
     go_wp2_with fail
     exact bpr (v := .tuple #[b''.val, .int .i64 C]) (by simp [results, Tryz.results26, go_sem, r0, r1, r2]) rfl ⟨⟨_, rfl, .inr ⟨HB.out, b'', rfl, HP.out.1, HP.out.2.1, HP.out.2.2, (e4.but (hS _ _ _) (fun k hk => by rw [hk]; omega)).weak (by omega)⟩⟩, hN6 _ _ _⟩
def O6 (n : Int) (b' : Bk) (_ : Nat) (_ : Bool) (b'' : Bk) (c : Int) : Prop := c = cQ b' n /\ b''.now = iN b' n /\ b''.fl = b'.fl /\ aI (fX b' n) b''.hl
theorem CZ {b : Bk} (h : aS b = true) : 0 <= b.now /\ b.now <= 10000 := by
 simp only [aS, bat] at h; have h1 := h.1; simp only [rQ, dte] at h1; exact h1
theorem JB (n : Int) (T : Nat) (b : Bk) (nm : ByteArray) (w : World) (hT : w.cell? ⟨T, 0, none⟩ = some (.iface 125 (.agg #[.int .i64 n]))) (hft : ∀ h ∈ b.hl, h.Fit) :
 mJ 67 #[.pointer (some ⟨T, 0, none⟩)] b nm (O6 n) w := by
 intro b' i f P z W hbk hpg hz hzW hI hN; have c0 : W.cell? ⟨T, 0, none⟩ = some (.iface 125 (.agg #[.int .i64 n])) := (hN.cell (aB hT)).trans hT; have h16 := i8 hbk; have hnow := CZ hbk; have HBK : Hid _ := hbk; clear hbk
 show Calls Tryz.prog 67 #[.pointer (some ⟨P, 0, none⟩), .pointer (some ⟨T, 0, none⟩)] W _
 go_enter Tryz.func67, Tryz.ntmps67
 go_wp2_with fail
 refine (NR z P b' nm i f n W hI hzW (hpg.lk.fit hft) (by rw [hpg.lk.len]; omega) (by rw [hpg.now]; exact hnow.1) (by rw [hpg.now]; exact hnow.2)).mono ?_; rintro e w1 ⟨b'', rfl, e1, e2, e3, hI1, hb1⟩; go_wp2
 go_ret; exact ⟨_, _, rfl, ⟨rfl, e1, e2, e3⟩, hI1, hb1⟩
theorem vI {l m : List Hx} (frm : Int) (h : aI l m) : iY frm l = iY frm m := by
 unfold iY; rw [h.map (gA frm) (fun a c g => by unfold gA; rw [g.n, g.t, g.x])]
theorem xN {b b' : Bk} (n : Int) (hn : b'.now = b.now) (h : aI b.hl b'.hl) : cQ b' n = cQ b n /\ iN b' n = iN b n /\ aI (fX b n) (fX b' n) := by
 have ec : cQ b' n = cQ b n := by unfold cQ; rw [hn]
 refine ⟨ec, by unfold iN; rw [ec, hn], ?_⟩; unfold fX; rw [ec, hn, vI _ h]
 split
 · exact aI.refl _
 · exact h
end Go.Proofs.YtiojdbffjdoniaaGreatDoor
