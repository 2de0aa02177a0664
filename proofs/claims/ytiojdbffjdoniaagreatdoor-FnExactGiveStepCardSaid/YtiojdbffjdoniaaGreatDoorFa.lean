import Derived.Test.YtiojdbffjdoniaaGreatDoorDp
import Derived.Test.YtiojdbffjdoniaaGreatDoorCut
import Derived.OwnWalkIn
import Derived.ArgAppend
namespace Go.Proofs.YtiojdbffjdoniaaGreatDoor
set_option maxRecDepth 100000
set_option maxHeartbeats 4000000
open Go.RowKit Go.Shelf
attribute [local go_sem] Oper.semAt_some
def gK (frm : Int) (x : Hx) : Hx := if bD frm x.tl = [] then ⟨x.n, none, bD frm x.nl, 0, none, [], 0⟩ else ⟨x.n, none, bD frm x.tl, 0, none, bD frm x.nl, 0⟩
def F8 (H : Nat) (x : Hx) (frm : Int) (Z : Nat) (j : Nat) (vs : Nat -> Value) (w : World) : Prop :=
 match j with
 | 0 => vs 0 = .pointer (some ⟨H, 1, none⟩)
 | 1 => vs 1 = .slice x.ta x.tl.length x.tc
 | 2 => vs 2 = .int .i64 frm
 | 3 => aF w Z (vs 3) (bD frm x.tl)
 | 4 => vs 4 = .pointer (some ⟨H, 2, none⟩)
 | 5 => vs 5 = .slice x.na x.nl.length x.nc
 | 6 => vs 6 = .int .i64 frm
 | 7 => aF w Z (vs 7) (bD frm x.nl) /\ ∀ q, (vs 3).ownBlock = some q -> (vs 7).ownBlock ≠ some q
 | 8 => vs 8 = .pointer (some ⟨H, 1, none⟩)
 | _ => True
def RD (j : Nat) : List Nat := if j = 7 then [7, 3] else [j]
def RS (_ : Nat) : Bool := false
def RU (_ : Nat) (_ : Value) : Prop := True
theorem F8.zL {H : Nat} {x : Hx} {frm : Int} {Z : Nat} (j : Nat) (vs : Nat -> Value) (w w' : World) (h : F8 H x frm Z j vs w) (hb : Below w.heap.size w w') : F8 H x frm Z j vs w' := by
 unfold F8 at h ⊢
 split
 all_goals first
  | exact h
  | exact aF.zL h hb
  | exact ⟨aF.zL h.1 hb, h.2⟩
  | trivial
theorem F8.loc {H : Nat} {x : Hx} {frm : Int} {Z : Nat} (j : Nat) (vs vs' : Nat -> Value) (w : World) (he : ∀ q ∈ RD j, vs q = vs' q) (h : F8 H x frm Z j vs w) : F8 H x frm Z j vs' w := by
 unfold F8 at h ⊢
 split at h
 all_goals first
  | (rw [← he _ (by simp [RD])]; exact h)
  | (rw [← he 7 (by simp [RD]), ← he 3 (by simp [RD])]; exact h)
  | trivial
theorem F8.free {H : Nat} {x : Hx} {frm : Int} {Z : Nat} (j : Nat) (vs : Nat -> Value) (w : World) (_ : RS j = true) (_ : F8 H x frm Z j vs w) : RU j (vs j) := trivial
def RX (W0 : World) (H : Nat) (x : Hx) (frm : Int) (vs : Nat -> Value) (w' : World) : Prop :=
 Below W0.heap.size W0 w' /\ aF w' W0.heap.size (vs 3) (bD frm x.tl) /\ aF w' W0.heap.size (vs 7) (bD frm x.nl) /\ (∀ q, (vs 3).ownBlock = some q -> (vs 7).ownBlock ≠ some q) /\ vs 8 = .pointer (some ⟨H, 1, none⟩)
def G8 (W0 : World) (H : Nat) (x : Hx) (frm : Int) (t : Nat) (vs : Nat -> Value) (w' : World) : Prop :=
 ∃ w0, RX W0 H x frm vs w0 /\ w' = if t = 10 then w0.setCell ⟨H, 1, none⟩ (vs 3) else w0
theorem AF (x : Hx) (frm : Int) (w : World) (hx : x.In w) (hf : x.Fit) :
 Calls Tryz.prog 161 #[x.val, .int .i64 frm] w fun e w' => (∃ x' : Hx, e = .returned x'.val /\ (gK frm x).Like x' /\ cG w.heap.size w' x' /\ x'.bs.Nodup) /\ Below w.heap.size w w' := by
 have N0 : Below w.heap.size w ((w.alloc (.cells #[.string x.n, .slice x.ta x.tl.length x.tc, .slice x.na x.nl.length x.nc] 42)).alloc (.cells #[.string ⟨#[]⟩, .slice none 0 0, .slice none 0 0] 42)) := aA (aA (br _ _) _) _; have A0 := (halq (w.alloc (.cells #[.string x.n, .slice x.ta x.tl.length x.tc, .slice x.na x.nl.length x.nc] 42)) (.cells #[.string ⟨#[]⟩, .slice none 0 0, .slice none 0 0] 42) w.heap.size (by simp)).trans (wnq w (.cells #[.string x.n, .slice x.ta x.tl.length x.tc, .slice x.na x.nl.length x.nc] 42)); have R0 := wnq (w.alloc (.cells #[.string x.n, .slice x.ta x.tl.length x.tc, .slice x.na x.nl.length x.nc] 42)) (.cells #[.string ⟨#[]⟩, .slice none 0 0, .slice none 0 0] 42); rw [wsa] at R0
 go_enter Tryz.func161, Tryz.ntmps161
 go_wp2_with fail
 obtain ⟨W0, hW0⟩ : ∃ W0, (w.alloc (.cells #[.string x.n, .slice x.ta x.tl.length x.tc, .slice x.na x.nl.length x.nc] 42)).alloc (.cells #[.string ⟨#[]⟩, .slice none 0 0, .slice none 0 0] 42) = W0 := ⟨_, rfl⟩; rw [hW0] at N0 A0 R0 ⊢; have hz1 : w.heap.size + 1 < W0.heap.size := (bH R0); obtain ⟨k0, k1, k2⟩ := aJ A0; have HA0 : Hid _ := A0; have HR0 : Hid _ := R0; clear hW0 A0 R0; refine wpIn_wide.1 (dA (F := Fence.wide) (n := 0) (by kernel_rfl) 4 9 10 [some 5, some 6, some 7, some 8, some 9, some 10, some 11, some 12, some 13] (by decide) (by decide) RS RD (F8 w.heap.size x frm W0.heap.size) RU (G8 W0 w.heap.size x frm) F8.zL F8.loc F8.free (by kernel_rfl) (by kernel_rfl) (by kernel_rfl) (by kernel_rfl) (by kernel_rfl) ?step ?free ?g0 ?gf ?store ?fin)
 case step =>
  intro ii o vs w' hi' ho hB hd
  match ii, hi' with
  | 0, _ | 2, _ | 4, _ | 6, _ | 8, _ =>
   simp at ho; subst ho; simp only [aE, Act.put]; gi_wp2; exact ⟨_, by simp [aH], rfl, br _ _⟩
  | 1, _ =>
   simp at ho; subst ho; have d0 : vs 0 = _ := Zq hd 0; have k1' := (hB.cell (aB k1)).trans k1; simp only [aE, Act.put]; rw [d0]; gi_wp2; exact ⟨_, by simp [aH, d0], rfl, br _ _⟩
  | 3, _ =>
   simp at ho; subst ho; have d1 : vs 1 = _ := Zq hd 1; have d2 : vs 2 = _ := Zq hd 2; simp only [aE, Act.put]; rw [d1, d2]; gi_wp2_with fail
   refine ⟨trivial, rfl, ?_⟩; refine (cw.2 (sX x.tl x.ta x.tc frm w' (hx.1.zL (aD N0 hB)) hf.tn)).mono ?_; rintro e w5 ⟨v5, rfl, hO5, hb5⟩; have HO5 : Hid _ := aF.weak hO5 (base' := W0.heap.size) hB.size; clear hO5; gi_wp2; exact ⟨_, by simp [aH, d1, d2], HO5.out, hb5⟩
  | 5, _ =>
   simp at ho; subst ho; have d4 : vs 4 = _ := Zq hd 4; have k2' := (hB.cell (aB k2)).trans k2; simp only [aE, Act.put]; rw [d4]; gi_wp2; exact ⟨_, by simp [aH, d4], rfl, br _ _⟩
  | 7, _ =>
   simp at ho; subst ho; have d5 : vs 5 = _ := Zq hd 5; have d6 : vs 6 = _ := Zq hd 6; have h3 : aF w' W0.heap.size (vs 3) (bD frm x.tl) := hd { on := 3, ground := Ground.chain } (by simp) rfl; have HL3 : Hid (∀ q, (vs 3).ownBlock = some q -> q < w'.heap.size) := fun q hq => h3.blkLt hq; clear h3; simp only [aE, Act.put]; rw [d5, d6]; gi_wp2_with fail
   refine ⟨trivial, rfl, ?_⟩; refine (cw.2 (sX x.nl x.na x.nc frm w' (hx.2.zL (aD N0 hB)) hf.nn)).mono ?_; rintro e w5 ⟨v5, rfl, hO5, hb5⟩; have HO5 : Hid _ := aF.weak hO5 (base' := W0.heap.size) hB.size; have HD5 : Hid (∀ q, (vs 3).ownBlock = some q -> v5.ownBlock ≠ some q) := fun q hq hq2 => Nat.lt_irrefl _ (Nat.lt_of_lt_of_le (HL3.out q hq) (aF.blkGe hO5 hq2)); clear hO5; gi_wp2; exact ⟨_, by simp [aH, d5, d6], ⟨HO5.out, HD5.out⟩, hb5⟩
  | q + 9, h => exact absurd h (by omega)
 case free =>
  intro i o vs w' t _ hfi
  cases hfi
 case g0 =>
  intro vs w' hB hp; exact ⟨w', ⟨hB, hp 3 (by decide) rfl, (hp 7 (by decide) rfl).1, (hp 7 (by decide) rfl).2, hp 8 (by decide) rfl⟩, rfl⟩
 case gf =>
  intro t vs w' i v hfi
  cases hfi
 case store =>
  intro t o vs w' h12 h15 ho hG hd; obtain rfl : t = 9 := by omega
  obtain ⟨w0, hgb, hw0⟩ := hG; simp at ho; subst ho; rw [if_neg (by decide)] at hw0; subst hw0; have HG : Hid _ := hgb; obtain ⟨hB, h3, _, _, d8⟩ := hgb; obtain ⟨a3, c3, e3, _⟩ := h3.slice; have A1 := aY HA0.out hB; have k1' : w'.cell? ⟨w.heap.size, 1, none⟩ = some (.slice x.ta x.tl.length x.tc) := aK A1 rfl; have kf : ∀ i, w'.frozen? ⟨w.heap.size, i, none⟩ = false := fun i => by simp [World.frozen?, A1]
  clear h3 hB A1; simp only [aE, Act.put]; rw [d8, e3]; gi_wp2; exact ⟨undef, by simp [aH, d8, e3], w', HG.out, by rw [if_pos rfl]; show _ = w'.setCell _ (vs 3); rw [e3]⟩
 case fin =>
  intro vs w1' hG _; obtain ⟨w1, ⟨hB, h3, h7, hd, d8⟩, hw1⟩ := hG; rw [if_pos rfl] at hw1; subst hw1; obtain ⟨a3, c3, e3, _⟩ := h3.slice; obtain ⟨a7, c7, e7, _⟩ := h7.slice; rw [e3, e7] at hd; rw [e3] at h3; rw [e7] at h7; have N1 := aD N0 hB; have A1 := aY HA0.out hB; have R1 := aY HR0.out hB; have hs1 := hB.size; clear k0 k1 k2 hB; have H3 : Hid (aF w1 W0.heap.size (.slice a3 (bD frm x.tl).length c3) (bD frm x.tl)) := h3; have H7 : Hid (aF w1 W0.heap.size (.slice a7 (bD frm x.nl).length c7) (bD frm x.nl)) := h7; have HD : Hid (∀ q, (Value.slice a3 (bD frm x.tl).length c3).ownBlock = some q -> (Value.slice a7 (bD frm x.nl).length c7).ownBlock ≠ some q) := hd; have hl3 := dV frm x.tl; have hl7 := dV frm x.nl; have htn := hf.tn; have hnn := hf.nn
  have HBut : Hid (∀ w2, bC (fun k => k = w.heap.size ∨ k = w.heap.size + 1) w1 w2 -> aF w2 w.heap.size (.slice a3 (bD frm x.tl).length c3) (bD frm x.tl) /\ aF w2 w.heap.size (.slice a7 (bD frm x.nl).length c7) (bD frm x.nl) /\ Below w.heap.size w w2) := fun w2 hb =>
   ⟨aF.weak (aF.but H3.out hb (fun y e hk => by have := H3.out.blkGe (q := y.block) (by rw [H3.out.adr, e]; rfl); rcases hk with hk | hk <;> omega)) (by omega), aF.weak (aF.but H7.out hb (fun y e hk => by have := H7.out.blkGe (q := y.block) (by rw [H7.out.adr, e]; rfl); rcases hk with hk | hk <;> omega)) (by omega), hb.under N1 (nlq _) (fun k hk => by rcases hk with rfl | rfl <;> omega)⟩
  have rH : w1.rowIs w.heap.size 42 3 (fun i => (#[.string x.n, .slice x.ta x.tl.length x.tc, .slice x.na x.nl.length x.nc] : Array Value).getD i undef) := ⟨_, A1, rfl, fun i hi => by match i, hi with | 0, _ => rfl | 1, _ => rfl | 2, _ => rfl⟩
  have rR : w1.rowIs (w.heap.size + 1) 42 3 (fun i => (#[.string ⟨#[]⟩, .slice none 0 0, .slice none 0 0] : Array Value).getD i undef) := ⟨_, R1, rfl, fun i hi => by match i, hi with | 0, _ => rfl | 1, _ => rfl | 2, _ => rfl⟩
  simp only [lds, List.drop_zero, aE, Act.put]; rw [e3, e7, d8]; clear e3 e7 d8 h3 h7 hd A1 R1; obtain ⟨la, hla⟩ : ∃ la, (bD frm x.tl).length = la := ⟨_, rfl⟩; obtain ⟨lb, hlb⟩ : ∃ lb, (bD frm x.nl).length = lb := ⟨_, rfl⟩; have HLb : Hid ((bD frm x.nl).length = lb) := hlb; have HLa : Hid ((bD frm x.tl).length = la) := hla; rw [hla] at hl3 ⊢; rw [hlb] at hl7 ⊢; clear hla hlb; have ra := rH.set 1 (.slice a3 la c3); have rb := ra.set 2 (.slice a7 lb c7); have hn1 : w.heap.size + 1 ≠ w.heap.size := by omega
  have ba : bC (fun k => k = w.heap.size) w1 (w1.setCell ⟨w.heap.size, 1, none⟩ (.slice a3 la c3)) := (bC.refl (fun k => k = w.heap.size) w1).set (g := w.heap.size) rfl _ _; have bb := ba.set (g := w.heap.size) rfl 2 (.slice a7 lb c7); have ca2 : (w1.setCell ⟨w.heap.size, 1, none⟩ (.slice a3 la c3)).cell? ⟨w.heap.size, 2, none⟩ = some (.slice x.na x.nl.length x.nc) := ra.cell (i := 2) (by decide); have caf := fun i => ra.frozen i; obtain ⟨Wa, hWa⟩ : ∃ Wa, w1.setCell ⟨w.heap.size, 1, none⟩ (.slice a3 la c3) = Wa := ⟨_, rfl⟩; rw [hWa] at rb bb ca2 caf ⊢; have cb1 : (Wa.setCell ⟨w.heap.size, 2, none⟩ (.slice a7 lb c7)).cell? ⟨w.heap.size, 1, none⟩ = some (.slice a3 la c3) := rb.cell (i := 1) (by decide); have cb2 : (Wa.setCell ⟨w.heap.size, 2, none⟩ (.slice a7 lb c7)).cell? ⟨w.heap.size, 2, none⟩ = some (.slice a7 lb c7) := rb.cell (i := 2) (by decide); have cb0 : (Wa.setCell ⟨w.heap.size, 2, none⟩ (.slice a7 lb c7)).cell? ⟨w.heap.size, 0, none⟩ = some (.string x.n) := rb.cell (i := 0) (by decide); have cbf := fun i => rb.frozen i; obtain ⟨Wb, hWb⟩ : ∃ Wb, Wa.setCell ⟨w.heap.size, 2, none⟩ (.slice a7 lb c7) = Wb := ⟨_, rfl⟩; rw [hWb] at rb bb cb0 cb1 cb2 cbf; clear ra ba rH; generalize vs 0 = v0; generalize vs 1 = v1; generalize vs 2 = v2; generalize vs 4 = v4; generalize vs 5 = v5; generalize vs 6 = v6
  by_cases hz : bD frm x.tl = []
  · have HC : Hid (gK frm x = ⟨x.n, none, bD frm x.nl, 0, none, [], 0⟩) := by
     have : gK frm x = ⟨x.n, none, bD frm x.nl, 0, none, [], 0⟩ := by unfold gK; rw [if_pos hz]
     exact this
    obtain rfl : la = 0 := by rw [← HLa.out, hz]; rfl
    clear hz; have rc := rb.set 1 (.slice a7 lb c7); have bc := bb.set (g := w.heap.size) rfl 1 (.slice a7 lb c7); have cc2 : (Wb.setCell ⟨w.heap.size, 1, none⟩ (.slice a7 lb c7)).cell? ⟨w.heap.size, 2, none⟩ = some (.slice a7 lb c7) := rc.cell (i := 2) (by decide); have ccf := fun i => rc.frozen i; obtain ⟨Wc, hWc⟩ : ∃ Wc, Wb.setCell ⟨w.heap.size, 1, none⟩ (.slice a7 lb c7) = Wc := ⟨_, rfl⟩; rw [hWc] at rc bc cc2 ccf; have rd := rc.set 2 (.slice none 0 0); have bd := bc.set (g := w.heap.size) rfl 2 (.slice none 0 0); have cd0 : (Wc.setCell ⟨w.heap.size, 2, none⟩ (.slice none 0 0)).cell? ⟨w.heap.size, 0, none⟩ = some (.string x.n) := rd.cell (i := 0) (by decide); have cd1 : (Wc.setCell ⟨w.heap.size, 2, none⟩ (.slice none 0 0)).cell? ⟨w.heap.size, 1, none⟩ = some (.slice a7 lb c7) := rd.cell (i := 1) (by decide); have cd2 : (Wc.setCell ⟨w.heap.size, 2, none⟩ (.slice none 0 0)).cell? ⟨w.heap.size, 2, none⟩ = some (.slice none 0 0) := rd.cell (i := 2) (by decide); have rR2 := rR.of_block (bd.block _ rR.lt hn1); have r0 := rR2.cell (i := 0) (by decide); have r1 := rR2.cell (i := 1) (by decide); have r2 := rR2.cell (i := 2) (by decide); have rf := fun i => rR2.frozen i; obtain ⟨Wd, hWd⟩ : ∃ Wd, Wc.setCell ⟨w.heap.size, 2, none⟩ (.slice none 0 0) = Wd := ⟨_, rfl⟩; rw [hWd] at bd cd0 cd1 cd2 r0 r1 r2 rf; clear rb bb rc bc rd rR rR2; have HBd : Hid _ := bd; clear bd; gi_wp2_with fail
    go_wp2_with fail
    exact bpr (v := Hx.val ⟨x.n, a7, bD frm x.nl, c7, none, [], 0⟩) (by simp [results, Tryz.results161, go_sem, r0, r1, r2, HLb.out]) rfl (by
     obtain ⟨o3, o7, hN⟩ := HBut.out _ ((((HBd.out.wide (S' := fun k => k = w.heap.size ∨ k = w.heap.size + 1) (fun k hk => .inl hk)).set (g := w.heap.size + 1) (.inr rfl) 0 (.string x.n)).set (g := w.heap.size + 1) (.inr rfl) 1 (.slice a7 lb c7)).set (g := w.heap.size + 1) (.inr rfl) 2 (.slice none 0 0))
     exact ⟨⟨_, rfl, by rw [HC.out]; exact ⟨rfl, rfl, rfl⟩, ⟨o7, .inl ⟨rfl, rfl⟩⟩, by simp only [Hx.bs, Option.map_none, Option.toList_none, List.append_nil]; exact eW _⟩, hN⟩)
  · have HC : Hid (gK frm x = ⟨x.n, none, bD frm x.tl, 0, none, bD frm x.nl, 0⟩) := by
     have : gK frm x = ⟨x.n, none, bD frm x.tl, 0, none, bD frm x.nl, 0⟩ := by unfold gK; rw [if_neg hz]
     exact this
    have hpos : 0 < la := by rw [← HLa.out]; exact List.length_pos_iff.2 hz
    have hz0 : ((la : Int) == 0) = false := beq_false_of_ne (by omega); clear hz; have rR2 := rR.of_block (bb.block _ rR.lt hn1); have r0 := rR2.cell (i := 0) (by decide); have r1 := rR2.cell (i := 1) (by decide); have r2 := rR2.cell (i := 2) (by decide); have rf := fun i => rR2.frozen i; have HBd : Hid _ := bb; clear bb rb rR rR2; gi_wp2_with fail
    go_wp2_with fail
    exact bpr (v := Hx.val ⟨x.n, a3, bD frm x.tl, c3, a7, bD frm x.nl, c7⟩) (by simp [results, Tryz.results161, go_sem, r0, r1, r2, HLb.out, HLa.out]) rfl (by
     obtain ⟨o3, o7, hN⟩ := HBut.out _ ((((HBd.out.wide (S' := fun k => k = w.heap.size ∨ k = w.heap.size + 1) (fun k hk => .inl hk)).set (g := w.heap.size + 1) (.inr rfl) 0 (.string x.n)).set (g := w.heap.size + 1) (.inr rfl) 1 (.slice a3 la c3)).set (g := w.heap.size + 1) (.inr rfl) 2 (.slice a7 lb c7)); refine ⟨⟨_, rfl, by rw [HC.out]; exact ⟨rfl, rfl, rfl⟩, ⟨o3, o7⟩, ?_⟩, hN⟩; have hd := HD.out; rw [H3.out.adr, H7.out.adr] at hd; simp only [Hx.bs]; rw [List.nodup_append]; refine ⟨eW _, eW _, fun q hq r hr e => ?_⟩; subst e; simp only [Option.mem_toList] at hq hr
     exact hd q hq hr)
set_option maxHeartbeats 8000000
theorem oK : ∀ (l : List Hx) (i : Nat) (x' : Hx) (s r : List Nat) (h : i < l.length), x'.bs = s ++ r -> s.Sublist l[i].bs -> ∃ m, m.Sublist (l.flatMap Hx.bs) /\ ((l.set i x').flatMap Hx.bs).Perm (m ++ r)
 | [], _, _, _, _, h, _, _ => by simp at h
 | a :: q, 0, x', s, r, _, e, hs => by
  refine ⟨s ++ q.flatMap Hx.bs, ?_, ?_⟩
  · simp only [List.flatMap_cons]
    exact List.Sublist.append hs (List.Sublist.refl _)
  · simp only [List.set_cons_zero, List.flatMap_cons, e, List.append_assoc]
    exact List.Perm.append_left s List.perm_append_comm
 | a :: q, i + 1, x', s, r, h, e, hs => by
  obtain ⟨m, h1, h2⟩ := oK q i x' s r (by simpa using h) e (by simpa using hs); refine ⟨a.bs ++ m, ?_, ?_⟩
  · simp only [List.flatMap_cons]
    exact List.Sublist.append (List.Sublist.refl _) h1
  · simp only [List.set_cons_succ, List.flatMap_cons, List.append_assoc]
    exact List.Perm.append_left _ h2
theorem yJ (l : List Hx) (i : Nat) (x' : Hx) (s r : List Nat) (h : i < l.length) (e : x'.bs = s ++ r) (hs : s.Sublist l[i].bs) (hd : (l.flatMap Hx.bs).Nodup) (hr : r.Nodup) (hn : ∀ q ∈ r, q ∉ l.flatMap Hx.bs) : ((l.set i x').flatMap Hx.bs).Nodup := by
 obtain ⟨m, h1, h2⟩ := oK l i x' s r h e hs; rw [h2.nodup_iff, List.nodup_append]; exact ⟨hd.sublist h1, hr, fun a ha c hc e => hn c hc (e ▸ h1.subset ha)⟩
theorem aI.refl (l : List Hx) : aI l l := ⟨rfl, fun _ _ => ⟨rfl, rfl, rfl⟩⟩
theorem aI.set {l m : List Hx} (h : aI l m) (i : Nat) {a b : Hx} (g : a.Like b) : aI (l.set i a) (m.set i b) := by
 refine ⟨by simp [h.len], fun k hk => ?_⟩
 by_cases e : i = k
 · subst e
   rw [List.getElem_set_self, List.getElem_set_self]; exact g
 · rw [List.getElem_set_ne e, List.getElem_set_ne e]
   exact h.like k (by simpa using hk)
def EH (tl : List Bx) (x : Hx) : Hx := ⟨x.n, x.ta, x.tl, x.tc, none, tl, 0⟩
def gW (b : Bk) (nm : ByteArray) (i : Nat) (f : Bool) (tl : List Bx) : Int :=
 if (aM b.fl tl && eI b.now tl) = false then 2 else if f then (match b.hl[i]? with | some x => if x.nl = [] then (if iK nm tl b.hl then 0 else 5) else 7 | none => 6) else 6
def i9 (b : Bk) (nm : ByteArray) (i : Nat) (f : Bool) (tl : List Bx) : List Hx := if gW b nm i f tl = 0 then (match b.hl[i]? with | some x => b.hl.set i (EH tl x) | none => b.hl) else b.hl
def A7 (P : Nat) (b : Bk) (nm : ByteArray) (tv : Value) (fr : Bool) (j : Nat) (v : Value) (_w : World) : Prop :=
 match j with
 | 0 => v = .pointer (some ⟨P, 0, none⟩)
 | 1 => v = .pointer (some ⟨P, 0, none⟩)
 | 2 => v = .pointer (some ⟨P, 0, none⟩)
 | 3 => v = b.val
 | 4 => v = .pointer (some ⟨P, 0, none⟩)
 | 5 => v = .pointer (some ⟨P, 0, none⟩)
 | 6 => v = .pointer (some ⟨P, 3, none⟩)
 | 7 => v = .string nm
 | 8 => v = tv
 | 9 => v = .bool fr
 | _ => True
theorem A7.zL {P : Nat} {b : Bk} {nm : ByteArray} {tv : Value} {fr : Bool} (j : Nat) (v : Value) (w w' : World) (h : A7 P b nm tv fr j v w) (_ : Below w.heap.size w w') : A7 P b nm tv fr j v w' := h
def A9 (P : Nat) (b : Bk) (g i : Nat) (tv : Value) (Z : Nat) (tl : List Bx) (j : Nat) (v : Value) (w : World) : Prop :=
 match j with
 | 0 => v = .pointer (some ⟨P, 0, none⟩)
 | 1 => v = .pointer (some ⟨P, 0, none⟩)
 | 2 => v = .pointer (some ⟨P, 0, none⟩)
 | 3 => v = .pointer (some ⟨P, 2, none⟩)
 | 4 => v = .slice (some ⟨g, 0, none⟩) b.hl.length b.hc
 | 5 => v = .pointer (some ⟨P, 0, none⟩)
 | 6 => v = .pointer (some ⟨P, 0, none⟩)
 | 7 => v = .pointer (some ⟨P, 4, none⟩)
 | 8 => v = .int .i64 (i : Int)
 | 9 => v = tv
 | 10 => aF w Z v tl
 | _ => True
theorem A9.zL {P : Nat} {b : Bk} {g i : Nat} {tv : Value} {Z : Nat} {tl : List Bx} (j : Nat) (v : Value) (w w' : World) (h : A9 P b g i tv Z tl j v w) (hb : Below w.heap.size w w') : A9 P b g i tv Z tl j v w' := by
 unfold A9 at h ⊢
 split
 all_goals first
  | exact h
  | exact aF.zL h hb
  | trivial
theorem KZ (z P : Nat) (b : Bk) (nm : ByteArray) (i : Nat) (f : Bool) (tl : List Bx) (ta : Option Addr) (tc : Nat) (w : World) (hI : iP z P w b nm i f) (hzw : z <= w.heap.size) (hfi : f = true -> i < b.hl.length) (hft : ∀ h ∈ b.hl, h.Fit) (hnf : b.fl.length <= 1048576) (hnh : b.hl.length <= 64) (ht : iL w ta tl) (hnt : tl.length <= 1048576) :
 Calls Tryz.prog 118 #[.pointer (some ⟨P, 0, none⟩), .slice ta tl.length tc] w fun e w' => ∃ b'' : Bk, e = .returned (lE (gW b nm i f tl)) /\ b''.now = b.now /\ b''.fl = b.fl /\ aI (i9 b nm i f tl) b''.hl /\ iP z P w' b'' nm i f /\ bC (fun k => z <= k) w w' := by
 have p0 : w.cell? ⟨P, 0, none⟩ = some (.int .i64 b.now) := aK hI.p rfl; have p1 : w.cell? ⟨P, 1, none⟩ = some (.slice b.fa b.fl.length b.fc) := aK hI.p rfl; have p2 : w.cell? ⟨P, 2, none⟩ = some (.slice b.ha b.hl.length b.hc) := aK hI.p rfl; have HI : Hid _ := hI; have HFt : Hid _ := hft; clear hI hft
 go_enter Tryz.func118, Tryz.ntmps118
 go_wp2_with fail
 refine (qZ b tl ta tc w HI.out.a.ans.fs hnf ht hnt).mono ?_; rintro e w1 ⟨rfl, hb1⟩; obtain ⟨v1, hv1⟩ : ∃ v, (aM b.fl tl && eI b.now tl) = v := ⟨_, rfl⟩; rw [hv1]; have HV1 : Hid _ := hv1; have NN := hb1; clear hb1 hv1 p0 p1 p2
 cases v1 with
 | false =>
  go_wp2_with fail
  go_ret; have HC : gW b nm i f tl = 2 := by unfold gW; rw [HV1.out]; rfl
  have HL : i9 b nm i f tl = b.hl := by unfold i9; rw [HC]; rfl
  rw [HC]; exact ⟨b, rfl, rfl, rfl, by rw [HL]; exact aI.refl _, HI.out.zL NN, bC.below NN⟩
 | true =>
 have P1 := aY HI.out.p NN; obtain ⟨p0, p1, p2, p3, p4, p5⟩ := rZ P1; clear P1
 cases f with
 | false =>
  go_wp2_with fail
  go_ret; have HC : gW b nm i false tl = 6 := by unfold gW; rw [HV1.out]; rfl
  have HL : i9 b nm i false tl = b.hl := by unfold i9; rw [HC]; rfl
  rw [HC]; exact ⟨b, rfl, rfl, rfl, by rw [HL]; exact aI.refl _, HI.out.zL NN, bC.below NN⟩
 | true =>
 have hi := hfi rfl; obtain ⟨x, hx⟩ : ∃ x, x = b.hl[i] := ⟨_, rfl⟩; have hxi : b.hl[i]? = some x := by rw [hx]; exact lge hi
 have hxf := HFt.out x (by rw [hx]; exact lgm hi); obtain ⟨g, ha, hgz, hcap, fv, hrow, hf⟩ := HI.out.a.held hi; rw [ha] at p2; have hrw1 := hrow.of_block (NN.block _ hrow.lt); have e2 := hrw1.cell (i := i * 3 + 2) (by omega); rw [show fv (i * 3 + 2) = .slice x.na x.nl.length x.nc from by rw [hx]; exact hf i hi hi 2 _ rfl] at e2
 have hPg : P ≠ g := fun e => by
  subst e; obtain ⟨cs, hcs, _⟩ := hrow; rw [HI.out.p] at hcs
  cases hcs
 have hnn := hxf.nn; have HX : Hid (x = b.hl[i]) := hx; have HXi : Hid _ := hxi; have HR : Hid (w.rowIs g 42 (b.hc * 3) fv) := hrow; have HF : Hid _ := hf; have HA : Hid _ := ha; clear hf hx hxi hrow hrw1 ha
 cases hnl : x.nl with
 | cons y ys =>
  have hlen : 0 < x.nl.length := by rw [hnl]; simp
  have HC : Hid (gW b nm i true tl = 7) := by
   have : gW b nm i true tl = 7 := by unfold gW; rw [HV1.out, HXi.out]; simp [hnl]
   exact this
  have hgt : decide ((0 : Int) < (x.nl.length : Int)) = true := by simp; omega
  clear hnl; go_wp2_with fail
  go_quiet (fail)
  go_wp2_with fail
  go_ret; have HL : i9 b nm i true tl = b.hl := by unfold i9; rw [HC.out]; rfl
  rw [HC.out]; exact ⟨b, rfl, rfl, rfl, by rw [HL]; exact aI.refl _, HI.out.zL (aD NN (kQ _ _)), bC.below (aD NN (kQ _ _))⟩
 | nil =>
 have HNl : Hid (x.nl = []) := hnl; rw [hnl] at e2; clear hnl; go_wp2_with fail
 go_quiet (fail)
 obtain ⟨fr, hfr⟩ : ∃ fr, iK nm tl b.hl = fr := ⟨_, rfl⟩; have HFr : Hid _ := hfr; have NN := aD NN (kQ w1 nq); have p0 := ((kQ w1 nq).cell (aB p0)).trans p0; have p1 := ((kQ w1 nq).cell (aB p1)).trans p1; have p2 := ((kQ w1 nq).cell (aB p2)).trans p2; rw [← HA.out] at p2; have p3 := ((kQ w1 nq).cell (aB p3)).trans p3; have p4 := ((kQ w1 nq).cell (aB p4)).trans p4; have p5 := ((kQ w1 nq).cell (aB p5)).trans p5; clear hfr e2; go_wp2_with fail
 refine wpIn_wide.1 (aP (F := Fence.wide) (n := 0) (by kernel_rfl) 10 [some 34, some 35, some 36, some 37, some 38, some 39, some 40, some 41, some 42, some 43] (by decide) (A7 P b nm (.slice ta tl.length tc) fr) A7.zL (by kernel_rfl) (by kernel_rfl) (by kernel_rfl) ?step ?fin)
 case step =>
  intro ii o vs w' hi' ho hB hd
  match ii, hi' with
  | 0, _ | 4, _ | 8, _ =>
   simp at ho; subst ho; simp only [aE, Act.put]; gi_wp2; exact ⟨_, by simp [aH], rfl, br _ _⟩
  | 1, _ =>
   simp at ho; subst ho; have d0 : vs 0 = _ := Zq hd 0; simp only [aE, Act.put]; rw [d0]; gi_wp2; exact ⟨_, by simp [aH, d0], rfl, br _ _⟩
  | 2, _ =>
   simp at ho; subst ho; have d1 : vs 1 = _ := Zq hd 1; simp only [aE, Act.put]; rw [d1]; gi_wp2; exact ⟨_, by simp [aH, d1], rfl, br _ _⟩
  | 3, _ =>
   simp at ho; subst ho; have d2 : vs 2 = _ := Zq hd 2; have k0 := (hB.cell (aB p0)).trans p0; have k1 := (hB.cell (aB p1)).trans p1; have k2 := (hB.cell (aB p2)).trans p2; simp only [aE, Act.put]; rw [d2]; gi_wp2; exact ⟨_, by simp [aH, d2], rfl, br _ _⟩
  | 5, _ =>
   simp at ho; subst ho; have d4 : vs 4 = _ := Zq hd 4; simp only [aE, Act.put]; rw [d4]; gi_wp2; exact ⟨_, by simp [aH, d4], rfl, br _ _⟩
  | 6, _ =>
   simp at ho; subst ho; have d5 : vs 5 = _ := Zq hd 5; simp only [aE, Act.put]; rw [d5]; gi_wp2; exact ⟨_, by simp [aH, d5], rfl, br _ _⟩
  | 7, _ =>
   simp at ho; subst ho; have d6 : vs 6 = _ := Zq hd 6; have k3 := (hB.cell (aB p3)).trans p3; simp only [aE, Act.put]; rw [d6]; gi_wp2; exact ⟨_, by simp [aH, d6], rfl, br _ _⟩
  | 9, _ =>
   simp at ho; subst ho; have d3 : vs 3 = _ := Zq hd 3; have d7 : vs 7 = _ := Zq hd 7; have d8 : vs 8 = _ := Zq hd 8; simp only [aE, Act.put]; rw [d3, d7, d8]; gi_wp2_with fail
   refine ⟨trivial, rfl, ?_⟩; refine (cw.2 (tU b nm tl ta tc w' (HI.out.a.ans.hs.zL (aD NN hB)) (by omega) (fun h m => ⟨(HI.out.a.ans.inn h m).zL (aD NN hB), HFt.out h m⟩) (ht.zL (aD NN hB)) hnt)).mono ?_; rintro e w5 ⟨rfl, hb5⟩; rw [HFr.out]; gi_wp2; exact ⟨_, by simp [aH, d3, d7, d8], rfl, hb5⟩
  | q + 10, h => exact absurd h (by omega)
 case fin =>
  intro vs w2 hB hp; have d9 : vs 9 = _ := hp 9 (by decide); have N2 := aD NN hB; have q2 := (hB.cell (aB p2)).trans p2; rw [HA.out] at q2; have q4 := (hB.cell (aB p4)).trans p4; clear hp hB NN p0 p1 p2 p3 p4 p5; simp only [lds, List.drop_zero, aE, Act.put]; rw [d9]; clear d9; generalize vs 0 = v0; generalize vs 1 = v1; generalize vs 2 = v2; generalize vs 3 = v3; generalize vs 4 = v4; generalize vs 5 = v5; generalize vs 6 = v6; generalize vs 7 = v7; generalize vs 8 = v8
  cases fr with
  | false =>
   gi_wp2_with fail
   go_wp2_with fail
   go_ret; have HC : gW b nm i true tl = 5 := by unfold gW; rw [HV1.out, HXi.out, HFr.out]; simp [HNl.out]
   have HL : i9 b nm i true tl = b.hl := by unfold i9; rw [HC]; rfl
   rw [HC]; exact ⟨b, rfl, rfl, rfl, by rw [HL]; exact aI.refl _, HI.out.zL N2, bC.below N2⟩
  | true =>
   gi_wp2_with fail
   go_wp2_with fail
   refine wpIn_wide.1 (aP (F := Fence.wide) (n := 0) (by kernel_rfl) 11 [some 46, some 47, some 48, some 49, some 50, some 51, some 52, some 53, some 54, some 55, some 56] (by decide) (A9 P b g i (.slice ta tl.length tc) w2.heap.size tl) A9.zL (by kernel_rfl) (by kernel_rfl) (by kernel_rfl) ?step ?fin)
   case step =>
    intro ii o vs w' hi' ho hB hd
    match ii, hi' with
    | 0, _ | 5, _ | 9, _ =>
     simp at ho; subst ho; simp only [aE, Act.put]; gi_wp2; exact ⟨_, by simp [aH], rfl, br _ _⟩
    | 1, _ =>
     simp at ho; subst ho; have d0 : vs 0 = _ := Zq hd 0; simp only [aE, Act.put]; rw [d0]; gi_wp2; exact ⟨_, by simp [aH, d0], rfl, br _ _⟩
    | 2, _ =>
     simp at ho; subst ho; have d1 : vs 1 = _ := Zq hd 1; simp only [aE, Act.put]; rw [d1]; gi_wp2; exact ⟨_, by simp [aH, d1], rfl, br _ _⟩
    | 3, _ =>
     simp at ho; subst ho; have d2 : vs 2 = _ := Zq hd 2; simp only [aE, Act.put]; rw [d2]; gi_wp2; exact ⟨_, by simp [aH, d2], rfl, br _ _⟩
    | 4, _ =>
     simp at ho; subst ho; have d3 : vs 3 = _ := Zq hd 3; have k2 := (hB.cell (aB q2)).trans q2; simp only [aE, Act.put]; rw [d3]; gi_wp2; exact ⟨_, by simp [aH, d3], rfl, br _ _⟩
    | 6, _ =>
     simp at ho; subst ho; have d5 : vs 5 = _ := Zq hd 5; simp only [aE, Act.put]; rw [d5]; gi_wp2; exact ⟨_, by simp [aH, d5], rfl, br _ _⟩
    | 7, _ =>
     simp at ho; subst ho; have d6 : vs 6 = _ := Zq hd 6; simp only [aE, Act.put]; rw [d6]; gi_wp2; exact ⟨_, by simp [aH, d6], rfl, br _ _⟩
    | 8, _ =>
     simp at ho; subst ho; have d7 : vs 7 = _ := Zq hd 7; have k4 := (hB.cell (aB q4)).trans q4; simp only [aE, Act.put]; rw [d7]; gi_wp2; exact ⟨_, by simp [aH, d7], rfl, br _ _⟩
    | 10, _ =>
     simp at ho; subst ho; have d9 : vs 9 = _ := Zq hd 9; simp only [aE, Act.put]; rw [d9]; gi_wp2_with fail
     refine ⟨trivial, rfl, ?_⟩; refine (cw.2 (pC tl ta tc w' (ht.zL (aD N2 hB)) hnt)).mono ?_; rintro e w5 ⟨⟨v5, rfl, hO5⟩, hb5⟩; have HO5 : Hid _ := hO5.weak (base' := w2.heap.size) hB.size; clear hO5; gi_wp2; exact ⟨_, by simp [aH, d9], HO5.out, hb5⟩
    | q + 11, h => exact absurd h (by omega)
   case fin =>
    intro vs w3 hB hp; have d4 : vs 4 = _ := hp 4 (by decide); have d8 : vs 8 = _ := hp 8 (by decide); have d10 : aF w3 w2.heap.size (vs 10) tl := hp 10 (by decide); obtain ⟨na, nc, hv, _⟩ := d10.slice; rw [hv] at d10; have HO : Hid (aF w3 w2.heap.size (.slice na tl.length nc) tl) := d10; have N3 := aD N2 hB; have hr3 := HR.out.of_block (N3.block _ HR.out.lt); have c3 := hr3.cell (i := i * 3 + 2) (by omega); have cf := fun i => hr3.frozen i; have hs2 := hB.size; have hsN := N2.size; clear hp hB d10 q2 q4; simp only [lds, List.drop_zero, aE, Act.put]; rw [d4, d8, hv]; clear d4 d8 hv; generalize vs 0 = v0; generalize vs 1 = v1; generalize vs 2 = v2; generalize vs 3 = v3; generalize vs 5 = v5; generalize vs 6 = v6; generalize vs 7 = v7; generalize vs 9 = v9; have HR3 : Hid (w3.rowIs g 42 (b.hc * 3) fv) := hr3; clear hr3; gi_wp2_with fail
    go_wp2_with fail
    go_ret; have HC : gW b nm i true tl = 0 := by unfold gW; rw [HV1.out, HXi.out, HFr.out]; simp [HNl.out]
    have HL : i9 b nm i true tl = b.hl.set i (EH tl x) := by unfold i9; rw [HC, HXi.out]; rfl
    rw [HC]; have hbb : bC (fun k => k = g) w (w3.setCell ⟨g, i * 3 + 2, none⟩ (.slice na tl.length nc)) := (bC.below (S := fun k => k = g) N3).set (g := g) rfl _ _; have h1 := HR3.out.set (i * 3 + 2) (.slice na tl.length nc)
    have h2 : (fun j => if j = i * 3 + 2 then Value.slice na tl.length nc else fv j) = (fun j => if j = i * 3 + 2 then Value.slice na tl.length nc else if j = i * 3 + 1 then .slice x.ta x.tl.length x.tc else fv j) := by
     funext j
     by_cases e : j = i * 3 + 1
     · subst e
       rw [if_neg (by omega), if_neg (by omega), if_pos rfl, HX.out]; exact HF.out i hi hi 1 _ rfl
     · simp [e]
    rw [h2] at h1; have hR := bJ.lists (h := x) (h' := ⟨x.n, x.ta, x.tl, x.tc, na, tl, nc⟩) h1 HF.out HXi.out rfl; have hTx : cG z w x := HI.out.a.t x (by rw [HX.out]; exact lgm hi); have hT' : cG z (w3.setCell ⟨g, i * 3 + 2, none⟩ (.slice na tl.length nc)) ⟨x.n, x.ta, x.tl, x.tc, na, tl, nc⟩ := ⟨(hTx.butHeld HR.out hbb).t, ((HO.out.weak (base' := z) (by omega)).setRow HR3.out (by decide) _ _)⟩
    have hnb : ∀ q ∈ (na.map Addr.block).toList, w2.heap.size <= q := fun q hq => by
     rcases HO.out with ⟨e, _⟩ | ⟨g', cap', e, h1', _⟩
     · simp only [Value.slice.injEq] at e; rw [e.1] at hq; simp at hq
     · simp only [Value.slice.injEq] at e; rw [e.1] at hq; simp at hq; omega
    have hnd : ((b.hl.set i ⟨x.n, x.ta, x.tl, x.tc, na, tl, nc⟩).flatMap Hx.bs).Nodup := yJ b.hl i _ ((x.ta.map Addr.block).toList) ((na.map Addr.block).toList) hi rfl (by rw [← HX.out]; simp [Hx.bs]) HI.out.a.d (eW _) (fun q hq hq' => by
     obtain ⟨y, hy, hq'⟩ := List.mem_flatMap.1 hq'; have h1 := ((HI.out.a.t y hy).bs_in q hq').2; have h2 := hnb q hq
     omega)
    refine ⟨⟨b.now, b.fa, b.fl, b.fc, b.ha, b.hl.set i ⟨x.n, x.ta, x.tl, x.tc, na, tl, nc⟩, b.hc⟩, rfl, rfl, rfl, ?_, ⟨?_, HI.out.a.put HA.out hi hbb hR hT' hnd, HI.out.zp⟩, hbb.wide (fun k hk => by rw [hk]; exact hgz)⟩
    · rw [HL]
      exact (aI.refl b.hl).set i ⟨rfl, rfl, rfl⟩
    · have := cA HI.out.p hbb hPg
      rw [this]
      simp
def jY (l : List Hx) (nm : ByteArray) : Int := match l.findIdx? (fun h => h.n.toList == nm.toList) with | some i => (i : Int) | none => -1
theorem BS {l : List Hx} {nm : ByteArray} {k : Nat} (h : k < l.length) (hk : (l[k].n.toList == nm.toList) = true) (hlo : ∀ j (h : j < l.length), j < k -> (l[j].n.toList == nm.toList) = false) : jY l nm = k := by
 have : l.findIdx? (fun h => h.n.toList == nm.toList) = some k := by
  rw [List.findIdx?_eq_some_iff_getElem]; exact ⟨h, hk, fun j hj => by simpa using hlo j (by omega) hj⟩
 unfold jY; rw [this]
theorem AT {l : List Hx} {nm : ByteArray} (h : ∀ j (h : j < l.length), (l[j].n.toList == nm.toList) = false) : jY l nm = -1 := by
 have : l.findIdx? (fun h => h.n.toList == nm.toList) = none := by
  rw [List.findIdx?_eq_none_iff]; intro x hx; obtain ⟨j, hj, rfl⟩ := lgo hx; exact h j hj
 unfold jY; rw [this]
theorem t8 (b : Bk) (nm : ByteArray) (w : World) (hh : Xs 3 Hx.cells w b.ha b.hl) (hn : b.hl.length <= 1048576) :
 Calls Tryz.prog 74 #[b.val, .string nm] w fun e w' => e = .returned (.int .i64 (jY b.hl nm)) /\ Below w.heap.size w w' := by
 have hB0 : Below w.heap.size w (w.alloc b.obj) := aA (br _ _) _; have A0 := wnq w b.obj; have k2 : (w.alloc b.obj).cell? ⟨w.heap.size, 2, none⟩ = some (.slice b.ha b.hl.length b.hc) := aK A0 rfl; obtain ⟨W0, hW0⟩ : ∃ W0, w.alloc b.obj = W0 := ⟨_, rfl⟩; rw [hW0] at hB0 k2; have hX := hh.zL hB0; clear A0
 go_enter Tryz.func74, Tryz.ntmps74
 go_wp2
 go_loop [5] (fun i => ∃ k : Nat, k <= b.hl.length /\ i = .int .i64 k /\ Hid (∀ j (h : j < b.hl.length), j < k -> (b.hl[j].n.toList == nm.toList) = false)) (fun i => b.hl.length - (intOf i).toNat)
 case atStart => exact ⟨0, nz _, rfl, fun j _ h => absurd h (by omega)⟩
 case round =>
  obtain ⟨k, hk, rfl, hlo⟩ := hrel
  by_cases hlt : k < b.hl.length
  · rcases hX with h | ⟨bl, off, ea, hc⟩
    · rw [h] at hlt; simp at hlt
    obtain ⟨c0, c1, c2⟩ := eY (hc k hlt); rw [ea] at k2
    cases hq : (b.hl[k].n.toList == nm.toList) with
    | true =>
     have HE : Hid (jY b.hl nm = k) := BS hlt hq hlo.out; have HEa : Hid _ := ea; clear hc hlo ea c1 c2; go_wp2
     go_ret; exact ⟨by rw [HE.out]; rfl, hB0⟩
    | false =>
     have HLo : Hid (∀ j (h : j < b.hl.length), j < k + 1 -> (b.hl[j].n.toList == nm.toList) = false) := fun j h hj => by
      by_cases e : j = k
      · subst e; exact hq
      · exact hlo.out j h (by omega)
     have HEa : Hid _ := ea; clear hc hlo ea c1 c2; go_wp2
     go_round
     case rel => exact ⟨k + 1, by omega, by go_num, HLo⟩
     case measure => simp [intOf]; omega
  · have HE : Hid (jY b.hl nm = -1) := AT (fun j h => hlo.out j h (by omega))
    clear hlo; go_wp2
    go_ret; exact ⟨by rw [HE.out]; rfl, hB0⟩
theorem mN {w : World} {base p e size : Nat} (hp : w.heap[p]? = some (.cells #[] e)) (hb : base <= p) : w.ownsRow base e size (.slice (some ⟨p, 0, none⟩) 0 0) 0 [] := by
 refine ⟨by simp, .inr ⟨p, 0, #[], rfl, hb, hp, nlq _, nz _, by simp, by simp⟩⟩
theorem lG {F : Fence} {n : Nat} {P : Program} (w : World) {ops : Array Oper} {rest : List Oper} {o : Oper} {a : Act} {Q : Exit -> Act -> World -> Prop}
 (hg : o.guard = none) (s x : Operand) (t : TypeId) (hop : o.op = Op.call { callee := Callee.builtin Builtin.append, args := #[s, x], argTypes := #[t, t] })
 (e : TypeId) (i : TypeInfo) (z : Value) (size bytes : Nat) (h1 : P.underlying t = some (.slice e)) (h2 : P.info? e = some i) (h3 : i.zero = some z) (h4 : i.size = size) (h5 : i.bytes = bytes) (h6 : z.cells.size = size) (h7 : 0 < size)
 (p : Nat) (hs : a.eval s = .slice (some ⟨p, 0, none⟩) 0 0) (hp : w.heap[p]? = some (.cells #[] e)) (ao : Option Addr) (m c : Nat) (news : List Value) (hx : a.eval x = .slice ao m c) (hao : ao = none -> m = 0) (hn : news.length = m * size)
 (hc : ∀ ad, ao = some ad -> ∀ j u, news[j]? = some u -> w.cell? (ad.add j) = some u) (h1c : ∀ u ∈ news, u.oneCell' = true) (b1 : m <= maxLen) (b2 : m * bytes <= 140737488355328) (base : Nat) (hb : base <= p)
 (hK : ∀ v' w', w'.ownsRow base e size v' m news -> Below w.heap.size w w' -> wpListIn F n P ops Q rest (a.put o.dst v') w') :
 wpListIn F n P ops Q (o :: rest) a w := by
 refine wpListIn_plain hg fun K hK' => ?_; have hlt : p < w.heap.size := (bH hp)
 suffices h : ∃ v' w', (Builtin.append_ #[t, t] o.type #[.slice (some ⟨p, 0, none⟩) 0 0, .slice ao m c]).run P w = .ok v' w' /\ w'.ownsRow base e size v' m news /\ Below w.heap.size w w' by
  obtain ⟨v', w', hrun, r1, r2⟩ := h; unfold Oper.wpIn; refine ⟨?_, ?_⟩
  · simp [Oper.about, hop, resolve, Target.leads, Sem.run_pure]
  · rw [Oper.semAt_plain F _ _ (by rw [hop]; intro c hc'; cases hc')]
    simp [execOp, hop, resolve, invoke, builtin, hs, hx, hrun, Result.andThen]
    exact hK' _ _ (hK v' w' r1 r2)
 cases ao with
 | none =>
  obtain rfl := hao rfl; obtain rfl : news = [] := List.eq_nil_of_length_eq_zero (by simpa using hn); refine ⟨.slice (some ⟨p, 0, none⟩) 0 0, w, ?_, mN hp hb, br _ _⟩; subst h4
  simp [Builtin.append_, run_underlying h1, sizeOf, typeInfo, h2, Builtin.lenOf, Builtin.firstCells, storeCells]
 | some ad =>
  rcases Nat.eq_zero_or_pos m with rfl | hm
  · obtain rfl : news = [] := List.eq_nil_of_length_eq_zero (by simpa using hn)
    subst h4; refine ⟨_, _, run_append_room_cells (P := P) w t o.type e i h1 h2 p 0 0 0 ad 0 c [] (by simp) (fun j u h => by simp at h) (fun u h => by simp at h) (nlq _) (fun j h => by simp at h) (fun j h => by simp at h), ?_, ?_⟩
    · simpa [World.setCells] using mN (size := i.size) hp hb
    · simpa [World.setCells] using br w.heap.size w
  · obtain ⟨v', w', hrun, r1, r2⟩ := run_append_arg_grows (P := P) w t o.type e i z size bytes h1 h2 h3 h4 h5 h6 h7 ⟨p, 0, none⟩ 0 0 [] (by simp) (fun j u h => by simp at h) ad m c news hn (hc ad rfl) (by omega) (by omega) (by simpa using b2)
    refine ⟨v', w', hrun, ?_, ⟨r2.os, r2.tape, r2.output, r2.size, fun k hk => r2.block k hk (by simp)⟩⟩; have := r1; simp only [Nat.zero_add, lna] at this; obtain ⟨q1, q2 | ⟨g, cap, cur, q2, q3, q4⟩⟩ := this
    · exact ⟨q1, .inl q2⟩
    · exact ⟨q1, .inr ⟨g, cap, cur, q2, by omega, q4⟩⟩
theorem uD {P : Program} (w : World) {ops : Array Oper} {rest : List Oper} {o : Oper} {a : Act} {Q : Exit -> Act -> World -> Prop}
 (hg : o.guard = none) (s x : Operand) (t : TypeId) (hop : o.op = Op.call { callee := Callee.builtin Builtin.append, args := #[s, x], argTypes := #[t, t] })
 (e : TypeId) (i : TypeInfo) (z : Value) (size bytes : Nat) (h1 : P.underlying t = some (.slice e)) (h2 : P.info? e = some i) (h3 : i.zero = some z) (h4 : i.size = size) (h5 : i.bytes = bytes) (h6 : z.cells.size = size) (h7 : 0 < size)
 (p : Nat) (hs : a.eval s = .slice (some ⟨p, 0, none⟩) 0 0) (hp : w.heap[p]? = some (.cells #[] e)) (ao : Option Addr) (m c : Nat) (news : List Value) (hx : a.eval x = .slice ao m c) (hao : ao = none -> m = 0) (hn : news.length = m * size)
 (hc : ∀ ad, ao = some ad -> ∀ j u, news[j]? = some u -> w.cell? (ad.add j) = some u) (h1c : ∀ u ∈ news, u.oneCell' = true) (b1 : m <= maxLen) (b2 : m * bytes <= 140737488355328) (base : Nat) (hb : base <= p)
 (hK : ∀ v' w', w'.ownsRow base e size v' m news -> Below w.heap.size w w' -> wpList P ops Q rest (a.put o.dst v') w') :
 wpList P ops Q (o :: rest) a w := by
 refine wpList_plain hg fun K hK' => ?_; have hlt : p < w.heap.size := (bH hp)
 suffices h : ∃ v' w', (Builtin.append_ #[t, t] o.type #[.slice (some ⟨p, 0, none⟩) 0 0, .slice ao m c]).run P w = .ok v' w' /\ w'.ownsRow base e size v' m news /\ Below w.heap.size w w' by
  obtain ⟨v', w', hrun, r1, r2⟩ := h; unfold Oper.wp
  simp [execOp, hop, resolve, invoke, builtin, hs, hx, hrun, Result.andThen]
  exact hK' _ _ (hK v' w' r1 r2)
 cases ao with
 | none =>
  obtain rfl := hao rfl; obtain rfl : news = [] := List.eq_nil_of_length_eq_zero (by simpa using hn); refine ⟨.slice (some ⟨p, 0, none⟩) 0 0, w, ?_, mN hp hb, br _ _⟩; subst h4
  simp [Builtin.append_, run_underlying h1, sizeOf, typeInfo, h2, Builtin.lenOf, Builtin.firstCells, storeCells]
 | some ad =>
  rcases Nat.eq_zero_or_pos m with rfl | hm
  · obtain rfl : news = [] := List.eq_nil_of_length_eq_zero (by simpa using hn)
    subst h4; refine ⟨_, _, run_append_room_cells (P := P) w t o.type e i h1 h2 p 0 0 0 ad 0 c [] (by simp) (fun j u h => by simp at h) (fun u h => by simp at h) (nlq _) (fun j h => by simp at h) (fun j h => by simp at h), ?_, ?_⟩
    · simpa [World.setCells] using mN (size := i.size) hp hb
    · simpa [World.setCells] using br w.heap.size w
  · obtain ⟨v', w', hrun, r1, r2⟩ := run_append_arg_grows (P := P) w t o.type e i z size bytes h1 h2 h3 h4 h5 h6 h7 ⟨p, 0, none⟩ 0 0 [] (by simp) (fun j u h => by simp at h) ad m c news hn (hc ad rfl) (by omega) (by omega) (by simpa using b2)
    refine ⟨v', w', hrun, ?_, ⟨r2.os, r2.tape, r2.output, r2.size, fun k hk => r2.block k hk (by simp)⟩⟩; have := r1; simp only [Nat.zero_add, lna] at this; obtain ⟨q1, q2 | ⟨g, cap, cur, q2, q3, q4⟩⟩ := this
    · exact ⟨q1, .inl q2⟩
    · exact ⟨q1, .inr ⟨g, cap, cur, q2, by omega, q4⟩⟩
theorem nP (l : List Bx) (ao : Option Addr) (cap : Nat) (w : World) (hX : iL w ao l) (hn : l.length <= 1048576) :
 Calls Tryz.prog 81 #[.slice ao l.length cap] w fun e w' => (∃ v, e = .returned v /\ aF w' w.heap.size v l) /\ Below w.heap.size w w' := by
 obtain ⟨i0, hi, hz0, hz1, hz2⟩ := info_parts Tryz.info89; have hB0 : Below w.heap.size w (w.alloc (.cells #[] 89)) := aA (br _ _) _; have hE := wnq w (.cells #[] 89); have hX0 := hX.zL hB0
 have hao : ao = none -> l.length = 0 := fun e => by
  rcases hX with h | ⟨bl, off, e', _⟩
  · rw [h]; rfl
  · rw [e] at e'; cases e'
 have hnews : ∀ ad, ao = some ad -> ∀ j u, (fL l)[j]? = some u -> (w.alloc (.cells #[] 89)).cell? (ad.add j) = some u := fun ad e => by
  rcases hX0 with h | ⟨bl, off, e', hc⟩
  · rw [h]; intro j u h; simp [fL] at h
  · rw [e] at e'; cases e'; exact C8 hc
 go_enter Tryz.func81, Tryz.ntmps81
 go_wp2_with (at_builtin; refine uD _ rfl (.tmp 3) (.tmp 4) 34 rfl 89 i0 _ 6 48 Tryz.underlying34 hi hz0 hz1 hz2 rfl (by decide) w.heap.size rfl hE ao l.length cap (fL l) rfl hao (lD l) hnews (AZ l) ?qc3 ?qc4 w.heap.size (nlq _) ?_)
 case qc3 => unfold maxLen; omega
 case qc4 => omega
 intro v' w1 hown' hgrow; have hN : Below w.heap.size w w1 := hB0.trans (hgrow.mono (Nat.le_succ _)); have HO : Hid (aF w1 w.heap.size v' l) := aF.of_owns hown'; clear hown' hgrow hB0 hE hX0 hnews; go_wp2
 go_ret; exact ⟨⟨_, rfl, HO.out⟩, hN⟩
theorem bM.setObj {α : Type} {t sz : Nat} {c : α -> List Value} {w : World} {base : Nat} {v : Value} {l : List α} {g t' : Nat} {cs : Array Value} (h : bM t sz c w base v l) (hr : w.heap[g]? = some (.cells cs t')) (ht : t' ≠ t) (o : Nat) (u : Value) : bM t sz c (w.setCell ⟨g, o, none⟩ u) base v l := by
 rcases h with h | ⟨g', cap, h1, h2, h3, f', hr', hv⟩
 · exact .inl h
 · refine .inr ⟨g', cap, h1, h2, h3, f', hr'.setOther (a := ⟨g, o, none⟩) (fun e => ht ?_) u, hv⟩
   have e' : g' = g := e; subst e'; obtain ⟨c1, e1, _⟩ := hr'; rw [hr] at e1
   cases e1
   rfl
structure cS (z : Nat) (w : World) (b : Bk) : Prop where
 f : bM 82 3 Fx.cells w z (.slice b.fa b.fl.length b.fc) b.fl
 h : bM 42 3 Hx.cells w z (.slice b.ha b.hl.length b.hc) b.hl
 t : ∀ x ∈ b.hl, cG z w x
theorem cS.zL {z : Nat} {w w' : World} {b : Bk} (h : cS z w b) (hb : Below w.heap.size w w') : cS z w' b := ⟨h.f.zL hb, h.h.zL hb, fun x hx => (h.t x hx).zL hb⟩
theorem bM.xs {α : Type} {t sz : Nat} {c : α -> List Value} (hc : ∀ a, (c a).length = sz) {w : World} {base : Nat} {a : Option Addr} {n cp : Nat} {l : List α} (h : bM t sz c w base (.slice a n cp) l) : Xs sz c w a l := by
 rcases h with ⟨_, e⟩ | ⟨g, cap, e, _, h3, h4⟩
 · exact .inl e
 · cases e; exact h4.xs hc (nlq _) h3
theorem cS.inn {z : Nat} {w : World} {b : Bk} (h : cS z w b) : ∀ x ∈ b.hl, x.In w := fun x hx => ⟨(h.t x hx).t.xs, (h.t x hx).n.xs⟩
theorem cS.weak {z z' : Nat} {w : World} {b : Bk} (h : cS z w b) (hz : z' <= z) : cS z' w b := ⟨h.f.weak hz, h.h.weak hz, fun x hx => (h.t x hx).weak hz⟩
theorem bM.but {α : Type} {t sz : Nat} {c : α -> List Value} {S : Nat -> Prop} {w w' : World} {base : Nat} {v : Value} {l : List α} (h : bM t sz c w base v l) (hb : bC S w w') (hs : ∀ k, S k -> k < base) : bM t sz c w' base v l := by
 rcases h with h | ⟨g, cap, h1, h2, h3, h4⟩
 · exact .inl h
 · exact .inr ⟨g, cap, h1, h2, h3, h4.but hb (fun e => by have := hs g e; omega)⟩
theorem cS.but {S : Nat -> Prop} {z : Nat} {w w' : World} {b : Bk} (h : cS z w b) (hb : bC S w w') (hs : ∀ k, S k -> k < z) : cS z w' b :=
 ⟨h.f.but hb hs, h.h.but hb hs, fun x hx => (h.t x hx).but hb (fun q hq e => by have := ((h.t x hx).bs_in q hq).1; have := hs q e; omega)⟩
def L1 (B : Nat) (b : Bk) (Z : Nat) (j : Nat) (v : Value) (w : World) : Prop :=
 match j with
 | 0 => v = .pointer (some ⟨B, 0, none⟩)
 | 1 => v = .int .i64 b.now
 | 2 => ∃ p, v = .slice (some ⟨p, 0, none⟩) 0 0 /\ Z <= p /\ w.heap[p]? = some (.cells #[] 82)
 | 3 => v = .pointer (some ⟨B, 1, none⟩)
 | 4 => v = .slice b.fa b.fl.length b.fc
 | 5 => bM 82 3 Fx.cells w Z v b.fl
 | 6 => ∃ a c, v = .agg #[.int .i64 b.now, .slice a b.fl.length c, .slice none 0 0] /\ bM 82 3 Fx.cells w Z (.slice a b.fl.length c) b.fl
 | 7 => ∃ q, v = .pointer (some ⟨q, 0, none⟩) /\ Z <= q /\ w.heap[q]? = some (.cells #[.int .i64 0, .slice none 0 0, .slice none 0 0] 29)
 | _ => True
theorem L1.zL {B : Nat} {b : Bk} {Z : Nat} (j : Nat) (v : Value) (w w' : World) (h : L1 B b Z j v w) (hb : Below w.heap.size w w') : L1 B b Z j v w' := by
 unfold L1 at h ⊢
 split
 all_goals first
  | exact h
  | exact bM.zL h hb
  | (obtain ⟨p, e, hz, ho⟩ := h; exact ⟨p, e, hz, aY ho hb⟩)
  | (obtain ⟨a, c, e, ho⟩ := h; exact ⟨a, c, e, bM.zL ho hb⟩)
  | trivial
def L5 (B q : Nat) (vH sl : Value) (k : Nat) (p : Addr) (x : Hx) (Z : Nat) (j : Nat) (v : Value) (w : World) : Prop :=
 match j with
 | 0 => v = .pointer (some ⟨q, 2, none⟩)
 | 1 => v = vH
 | 2 => v = .pointer (some ⟨B, 2, none⟩)
 | 3 => v = sl
 | 4 => v = .int .i64 (k : Int)
 | 5 => v = .pointer (some p)
 | 6 => v = .pointer (some p)
 | 7 => v = .string x.n
 | 8 => v = .pointer (some ⟨B, 2, none⟩)
 | 9 => v = sl
 | 10 => v = .int .i64 (k : Int)
 | 11 => v = .pointer (some p)
 | 12 => v = .pointer (some ⟨p.block, p.off + 1, none⟩)
 | 13 => v = .slice x.ta x.tl.length x.tc
 | 14 => aF w Z v x.tl
 | 15 => v = .pointer (some ⟨B, 2, none⟩)
 | 16 => v = sl
 | 17 => v = .int .i64 (k : Int)
 | 18 => v = .pointer (some p)
 | 19 => v = .pointer (some ⟨p.block, p.off + 2, none⟩)
 | 20 => v = .slice x.na x.nl.length x.nc
 | 21 => aF w Z v x.nl
 | 22 => ∃ x', v = Hx.val x' /\ x.Like x' /\ cG Z w x'
 | 23 => ∃ s x', v = .slice (some ⟨s, 0, none⟩) 1 1 /\ w.heap[s]? = some (.cells #[.string x'.n, .slice x'.ta x'.tl.length x'.tc, .slice x'.na x'.nl.length x'.nc] 42) /\ x.Like x' /\ cG Z w x'
 | _ => True
theorem L5.zL {B q : Nat} {vH sl : Value} {k : Nat} {p : Addr} {x : Hx} {Z : Nat} (j : Nat) (v : Value) (w w' : World) (h : L5 B q vH sl k p x Z j v w) (hb : Below w.heap.size w w') : L5 B q vH sl k p x Z j v w' := by
 unfold L5 at h ⊢
 split
 all_goals first
  | exact h
  | exact aF.zL h hb
  | (obtain ⟨x', e, hk, ho⟩ := h; exact ⟨x', e, hk, cG.zL ho hb⟩)
  | (obtain ⟨s, x', e, hs, hk, ho⟩ := h; exact ⟨s, x', e, aY hs hb, hk, cG.zL ho hb⟩)
  | trivial
structure PL (w : World) (b : Bk) (Z q : Nat) (a2 : Option Addr) (c2 : Nat) (d0 dn : List Hx) (vH : Value) (wr : World) : Prop where
 n : Below w.heap.size w wr
 z : Z <= wr.heap.size
 a : wr.heap[w.heap.size]? = some b.obj
 r : wr.heap[w.heap.size + 1]? = some (.cells #[.int .i64 0, .slice none 0 0, .slice none 0 0] 29)
 q : wr.heap[q]? = some (.cells #[.int .i64 b.now, .slice a2 b.fl.length c2, vH] 29)
 f : bM 82 3 Fx.cells wr Z (.slice a2 b.fl.length c2) b.fl
 h : wr.ownsRow Z 42 3 vH d0.length (aQ Hx.cells dn)
 k : aI d0 dn
 t : ∀ x ∈ dn, cG Z wr x
theorem PL.zL {w : World} {b : Bk} {Z q : Nat} {a2 : Option Addr} {c2 : Nat} {d0 dn : List Hx} {vH : Value} {wr w' : World} (h : PL w b Z q a2 c2 d0 dn vH wr) (hb : Below wr.heap.size wr w') : PL w b Z q a2 c2 d0 dn vH w' := by
 refine ⟨aD h.n hb, Nat.le_trans h.z hb.size, aY h.a hb, aY h.r hb, aY h.q hb, h.f.zL hb, ?_, h.k, fun x hx => (h.t x hx).zL hb⟩; obtain ⟨q1, q2 | ⟨g, cap, cur, q2, q3, q4, q5⟩⟩ := h.h
 · exact ⟨q1, .inl q2⟩
 · exact ⟨q1, .inr ⟨g, cap, cur, q2, q3, aY q4 hb, q5⟩⟩
theorem MN {w w2 : World} {vH : Value} (hg : w.grownBy w2 vH.ownBlock) (hty : ∀ g, vH.ownBlock = some g -> ∃ cur, w.heap[g]? = some (.cells cur 42)) {k t : Nat} {cs : Array Value} (hk : w.heap[k]? = some (.cells cs t)) (ht : t ≠ 42) : w2.heap[k]? = some (.cells cs t) := by
 refine (hg.block k (bH hk) (fun e => ht ?_)).trans hk; obtain ⟨cur, hc⟩ := hty k e.symm; rw [hk] at hc
 cases hc
 rfl
theorem aF.gkeep {w w2 : World} {vH v : Value} {z : Nat} {l : List Bx} (h : aF w z v l) (hg : w.grownBy w2 vH.ownBlock) (hty : ∀ g, vH.ownBlock = some g -> ∃ cur, w.heap[g]? = some (.cells cur 42)) : aF w2 z v l := by
 rcases h with h | ⟨g, cap, h1, h2, h3, f, hr, hv⟩
 · exact .inl h
 · refine .inr ⟨g, cap, h1, h2, h3, f, ?_, hv⟩
   obtain ⟨c, e, r⟩ := hr; exact ⟨c, Go.Proofs.YtiojdbffjdoniaaGreatDoor.MN hg hty e (by decide), r⟩
theorem bM.gkeep {w w2 : World} {vH v : Value} {z : Nat} {l : List Fx} (h : bM 82 3 Fx.cells w z v l) (hg : w.grownBy w2 vH.ownBlock) (hty : ∀ g, vH.ownBlock = some g -> ∃ cur, w.heap[g]? = some (.cells cur 42)) : bM 82 3 Fx.cells w2 z v l := by
 rcases h with h | ⟨g, cap, h1, h2, h3, f, hr, hv⟩
 · exact .inl h
 · refine .inr ⟨g, cap, h1, h2, h3, f, ?_, hv⟩
   obtain ⟨c, e, r⟩ := hr; exact ⟨c, Go.Proofs.YtiojdbffjdoniaaGreatDoor.MN hg hty e (by decide), r⟩
theorem aF.setBook {w : World} {z q : Nat} {v : Value} {l : List Bx} {cs : Array Value} (h : aF w z v l) (hq : w.heap[q]? = some (.cells cs 29)) (o : Nat) (u : Value) : aF (w.setCell ⟨q, o, none⟩ u) z v l := by
 rcases h with h | ⟨g, cap, h1, h2, h3, f, hr, hv⟩
 · exact .inl h
 · refine .inr ⟨g, cap, h1, h2, h3, f, hr.setOther (a := ⟨q, o, none⟩) (fun e => ?_) u, hv⟩
   have e' : g = q := e; subst e'; obtain ⟨c, e1, _⟩ := hr; rw [hq] at e1
   cases e1
theorem PL.grow {w : World} {b : Bk} {Z q : Nat} {a2 : Option Addr} {c2 cap : Nat} {d0 dn : List Hx} {vH : Value} {w' w2 : World} {x x' : Hx} {g : Nat} (h : PL w b Z q a2 c2 d0 dn vH w') (hzw : w.heap.size + 1 < Z) (hqZ : Z <= q)
 (hown : w2.ownsRow Z 42 3 (.slice (some ⟨g, 0, none⟩) (d0.length + 1) cap) (d0.length + 1) (aQ Hx.cells dn ++ x'.cells)) (hg : w'.grownBy w2 vH.ownBlock) (hl : x.Like x') (ht : cG Z w' x') :
 PL w b Z q a2 c2 (d0 ++ [x]) (dn ++ [x']) (.slice (some ⟨g, 0, none⟩) (d0.length + 1) cap) (w2.setCell ⟨q, 2, none⟩ (.slice (some ⟨g, 0, none⟩) (d0.length + 1) cap)) := by
 have hty : ∀ k, vH.ownBlock = some k -> ∃ cur, w'.heap[k]? = some (.cells cur 42) := fun k hk => by
  obtain ⟨_, ⟨rfl, _⟩ | ⟨g, cap, cur, rfl, _, e, _⟩⟩ := h.h
  · simp [Value.ownBlock] at hk
  · simp [Value.ownBlock] at hk
    subst hk; exact ⟨cur, e⟩
 have hge : ∀ k, vH.ownBlock = some k -> Z <= k := fun k hk => i5 h.h hk; have hq2 := MN hg hty h.q (by decide); have hold : ∀ k o, k < Z -> w'.heap[k]? = some o -> w2.heap[k]? = some o := fun k o hk e => (hg.block k (bH e) (fun e' => by have := hge k e'.symm; omega)).trans e; refine ⟨?_, ?_, ?_, ?_, ?_, ?_, ?_, h.k.snoc hl, ?_⟩
 · refine Below.setCell (h.n.grown hg (Nat.le_trans (by have := h.n.size; omega) (nlq _)) (fun k hk => by have := hge k hk; omega)) (by show w.heap.size <= q; omega) _
 · have := h.z; have := hg.size; simp; omega
 · exact bE (hold _ _ (by omega) h.a) (by show w.heap.size ≠ q; omega) _
 · exact bE (hold _ _ (by omega) h.r) (by show w.heap.size + 1 ≠ q; omega) _
 · exact aX hq2 2 _
 · exact (h.f.gkeep hg hty).setObj hq2 (by decide) 2 _
 · obtain ⟨q1, ⟨q2, _⟩ | ⟨g', cp, cur, q2, q3, q4, q5⟩⟩ := hown
   · cases q2
   · cases q2
     have hne : g ≠ q := fun e => by
      subst e; rw [hq2] at q4
      cases q4
     have hf : aQ Hx.cells (dn ++ [x']) = aQ Hx.cells dn ++ x'.cells := by rw [kG, xP]
     rw [hf]; refine ⟨by simpa using q1, .inr ⟨g, cap, cur, by simp, q3, bE q4 (by show g ≠ q; exact hne) _, by simpa using q5⟩⟩
 · intro y hy
   simp only [lma, List.mem_singleton] at hy
   have hyT : cG Z w' y := by
    rcases hy with hy | rfl
    · exact h.t y hy
    · exact ht
   exact ⟨(hyT.t.gkeep hg hty).setBook hq2 _ _, (hyT.n.gkeep hg hty).setBook hq2 _ _⟩
theorem iE (b : Bk) (w : World) (hf : Xs 3 Fx.cells w b.fa b.fl) (hnf : b.fl.length <= 1048576) (hh : Xs 3 Hx.cells w b.ha b.hl) (hnh : b.hl.length <= 1048576) (hg : ∀ h ∈ b.hl, h.In w /\ h.Fit) :
 Calls Tryz.prog 33 #[b.val] w fun e w' => (∃ b' : Bk, e = .returned b'.val /\ b'.now = b.now /\ b'.fl = b.fl /\ aI b.hl b'.hl /\ cS w.heap.size w' b') /\ Below w.heap.size w w' := by
 obtain ⟨i0, hif, hz0, hz1, hz2⟩ := info_parts Tryz.info82; obtain ⟨j0, hih, hy0, hy1, hy2⟩ := info_parts Tryz.info42; have hB0 : Below w.heap.size w ((w.alloc b.obj).alloc (.cells #[.int .i64 0, .slice none 0 0, .slice none 0 0] 29)) := aA (aA (br _ _) _) _; have A0 := (halq (w.alloc b.obj) (.cells #[.int .i64 0, .slice none 0 0, .slice none 0 0] 29) w.heap.size (by simp)).trans (wnq w b.obj); have R0 := wnq (w.alloc b.obj) (.cells #[.int .i64 0, .slice none 0 0, .slice none 0 0] 29); rw [wsa] at R0
 go_enter Tryz.func33, Tryz.ntmps33
 go_wp2_with fail
 obtain ⟨W0, hW0⟩ : ∃ W0, (w.alloc b.obj).alloc (.cells #[.int .i64 0, .slice none 0 0, .slice none 0 0] 29) = W0 := ⟨_, rfl⟩; rw [hW0] at hB0 A0 R0 ⊢; have HA : Hid _ := A0; have HR : Hid _ := R0; have hzw : w.heap.size + 1 < W0.heap.size := (bH R0); clear hW0 A0 R0; refine wpIn_wide.1 (aP (F := Fence.wide) (n := 0) (by kernel_rfl) 8 [some 5, some 6, some 7, some 8, some 9, some 10, some 11, some 3] (by decide) (L1 w.heap.size b W0.heap.size) L1.zL (by kernel_rfl) (by kernel_rfl) (by kernel_rfl) ?step ?fin)
 case step =>
  intro i o vs w' hi' ho hB hd; have hBw := aD hB0 hB
  match i, hi' with
  | 0, _ | 3, _ =>
   simp at ho; subst ho; simp only [aE, Act.put]; gi_wp2; exact ⟨_, by simp [aH], rfl, br _ _⟩
  | 1, _ =>
   simp at ho; subst ho; have d0 : vs 0 = _ := Zq hd 0; have k0 : w'.cell? ⟨w.heap.size, 0, none⟩ = some (.int .i64 b.now) := aK (aY HA.out hB) rfl; simp only [aE, Act.put]; rw [d0]; gi_wp2; exact ⟨_, by simp [aH, d0], rfl, br _ _⟩
  | 2, _ | 7, _ =>
   simp at ho; subst ho; simp only [aE, Act.put]; gi_wp2; exact ⟨_, by simp [aH], ⟨_, rfl, hB.size, wnq _ _⟩, aA (br _ _) _⟩
  | 4, _ =>
   simp at ho; subst ho; have d3 : vs 3 = _ := Zq hd 3; have k1 : w'.cell? ⟨w.heap.size, 1, none⟩ = some (.slice b.fa b.fl.length b.fc) := aK (aY HA.out hB) rfl; simp only [aE, Act.put]; rw [d3]; gi_wp2; exact ⟨_, by simp [aH, d3], rfl, br _ _⟩
  | 5, _ =>
   simp at ho; subst ho; obtain ⟨p, d2, hp, hpo⟩ : ∃ p, vs 2 = .slice (some ⟨p, 0, none⟩) 0 0 /\ W0.heap.size <= p /\ w'.heap[p]? = some (.cells #[] 82) := Zq hd 2; have d4 : vs 4 = _ := Zq hd 4; have hX := hf.zL hBw
   have hao : b.fa = none -> b.fl.length = 0 := fun e => by
    rcases hX with h | ⟨bl, off, e', _⟩
    · rw [h]; rfl
    · rw [e] at e'; cases e'
   have hnews : ∀ ad, b.fa = some ad -> ∀ j u, (aQ Fx.cells b.fl)[j]? = some u -> w'.cell? (ad.add j) = some u := fun ad e => by
    rcases hX with h | ⟨bl, off, e', hc⟩
    · rw [h]; intro j u h; simp [aQ] at h
    · rw [e] at e'; cases e'; exact nX Fx.cells_length (by decide) hc
   simp only [aE, Act.put, List.setIfInBounds_toArray, List.set_cons_succ, List.set_cons_zero]; rw [d2, d4]; refine lG w' rfl (.tmp 7) (.tmp 9) 23 rfl 82 i0 _ 3 32 Tryz.underlying23 hif hz0 hz1 hz2 rfl (by decide) p rfl hpo b.fa b.fl.length b.fc (aQ Fx.cells b.fl) rfl hao (cX Fx.cells_length b.fl) hnews (jM NF b.fl) (by unfold maxLen; omega) (by omega) W0.heap.size hp (fun v' w1 hown hb => ?_); have HO : Hid (bM 82 3 Fx.cells w1 W0.heap.size v' b.fl) := jZ Fx.cells_length hown; clear hown hX hao hnews hd hpo; gi_wp2; exact ⟨v', by simp [aH, d2, d4, Act.put], HO.out, hb⟩
  | 6, _ =>
   simp at ho; subst ho; have d1 : vs 1 = _ := Zq hd 1; have h5 : bM 82 3 Fx.cells w' W0.heap.size (vs 5) b.fl := Zq hd 5; obtain ⟨a5, c5, d5⟩ := h5.slice; rw [d5] at h5; have HO : Hid _ := h5; clear h5; simp only [aE, Act.put]; rw [d1, d5]; gi_wp2; exact ⟨_, by simp [aH, d1, d5], ⟨a5, c5, rfl, HO.out⟩, br _ _⟩
  | j + 8, h => exact absurd h (by omega)
 case fin =>
  intro vs w' hB hp; obtain ⟨a2, c2, d6, h2⟩ : ∃ a c, vs 6 = .agg #[.int .i64 b.now, .slice a b.fl.length c, .slice none 0 0] /\ bM 82 3 Fx.cells w' W0.heap.size (.slice a b.fl.length c) b.fl := hp 6 (by decide); obtain ⟨q, d7, hq, hqo⟩ : ∃ q, vs 7 = .pointer (some ⟨q, 0, none⟩) /\ W0.heap.size <= q /\ w'.heap[q]? = some (.cells #[.int .i64 0, .slice none 0 0, .slice none 0 0] 29) := hp 7 (by decide); clear hp; simp only [lds, List.drop_zero, aE, Act.put]; rw [d6, d7]; clear d6 d7; generalize vs 0 = v0; generalize vs 1 = v1; generalize vs 2 = v2; generalize vs 3 = v3; generalize vs 4 = v4; generalize vs 5 = v5; have c0 : w'.cell? ⟨q, 0, none⟩ = some (.int .i64 0) := aK hqo rfl; have c1 : w'.cell? ⟨q, 1, none⟩ = some (.slice none 0 0) := aK hqo rfl; have c2' : w'.cell? ⟨q, 2, none⟩ = some (.slice none 0 0) := aK hqo rfl; have cf : ∀ i, w'.frozen? ⟨q, i, none⟩ = false := fun i => by simp [World.frozen?, hqo]
  have Q2 := aX (aX (aX hqo 0 (.int .i64 b.now)) 1 (.slice a2 b.fl.length c2)) 2 (.slice none 0 0); have hqF : ∀ (X : World) (o : Nat) (u : Value), (∃ cs, X.heap[q]? = some (.cells cs 29)) -> bM 82 3 Fx.cells X W0.heap.size (.slice a2 b.fl.length c2) b.fl -> bM 82 3 Fx.cells (X.setCell ⟨q, o, none⟩ u) W0.heap.size (.slice a2 b.fl.length c2) b.fl := fun X o u ⟨cs, hcs⟩ h => h.setObj hcs (by decide) o u; have h2' := hqF _ 2 (.slice none 0 0) ⟨_, aX (aX hqo 0 (.int .i64 b.now)) 1 (.slice a2 b.fl.length c2)⟩ (hqF _ 1 (.slice a2 b.fl.length c2) ⟨_, aX hqo 0 (.int .i64 b.now)⟩ (hqF _ 0 (.int .i64 b.now) ⟨_, hqo⟩ h2)); have hN1 := (((aD hB0 hB).setCell (p := ⟨q, 0, none⟩) (by show w.heap.size <= q; omega) (.int .i64 b.now)).setCell (p := ⟨q, 1, none⟩) (by show w.heap.size <= q; omega) (.slice a2 b.fl.length c2)).setCell (p := ⟨q, 2, none⟩) (by show w.heap.size <= q; omega) (.slice none 0 0); have A2 := bE (bE (bE (aY HA.out hB) (p := ⟨q, 0, none⟩) (by show w.heap.size ≠ q; omega) (.int .i64 b.now)) (p := ⟨q, 1, none⟩) (by show w.heap.size ≠ q; omega) (.slice a2 b.fl.length c2)) (p := ⟨q, 2, none⟩) (by show w.heap.size ≠ q; omega) (.slice none 0 0); have R2 := bE (bE (bE (aY HR.out hB) (p := ⟨q, 0, none⟩) (by show w.heap.size + 1 ≠ q; omega) (.int .i64 b.now)) (p := ⟨q, 1, none⟩) (by show w.heap.size + 1 ≠ q; omega) (.slice a2 b.fl.length c2)) (p := ⟨q, 2, none⟩) (by show w.heap.size + 1 ≠ q; omega) (.slice none 0 0); have hBs := hB.size; obtain ⟨W1, hW1⟩ : ∃ W1, ((w'.setCell ⟨q, 0, none⟩ (.int .i64 b.now)).setCell ⟨q, 1, none⟩ (.slice a2 b.fl.length c2)).setCell ⟨q, 2, none⟩ (.slice none 0 0) = W1 := ⟨_, rfl⟩; have hzz : W0.heap.size <= W1.heap.size := by rw [← hW1]; simp; exact hBs
  rw [hW1] at Q2 h2' hN1 A2 R2; have HQ2 : Hid (W1.heap[q]? = some (.cells #[.int .i64 b.now, .slice a2 b.fl.length c2, .slice none 0 0] 29)) := Q2; have HA2 : Hid _ := A2; have HR2 : Hid _ := R2; have H2 : Hid _ := h2'; clear h2 hqo Q2 A2 R2 h2' hqF hB HA HR; gi_wp2_with fail
  clear hW1 c0 c1 c2' cf; go_wp2_with fail
  go_loopw [4] (fun i wr => ∃ (d0 rs dn : List Hx) (vH : Value), Hid (b.hl = d0 ++ rs) /\ i = .int .i64 (d0.length : Int) /\ PL w b W0.heap.size q a2 c2 d0 dn vH wr) (fun i _ => b.hl.length - (intOf i).toNat)
  case atStart => exact ⟨[], b.hl, [], .slice none 0 0, rfl, rfl, ⟨hN1, hzz, HA2.out, HR2.out, HQ2.out, H2.out, World.ownsRow_nil _ _ _ _, ⟨rfl, fun k h => absurd h (by simp)⟩, fun x h => by simp at h⟩⟩
  case round =>
   clear HA2 HR2 HQ2 H2 hN1; obtain ⟨d0, rs, dn, vH, hm, rfl, hS⟩ := hrel; have hml : b.hl.length = d0.length + rs.length := by rw [hm.out]; simp
   have HS : Hid _ := hS; have HA5 : Hid (wr.heap[w.heap.size]? = some b.obj) := hS.a
   cases rs with
   | cons x rs =>
    have hjl : d0.length < b.hl.length := by rw [hml]; simp
    obtain ⟨hxi, hxf⟩ := hg x (by rw [hm.out]; simp)
    obtain ⟨bl, off, ea, hc⟩ : ∃ bl off, b.ha = some ⟨bl, off, none⟩ /\ ∀ k (h : k < b.hl.length), aN w bl (off + k * 3) b.hl[k].cells := by
     rcases hh with h | h
     · rw [h] at hjl; simp at hjl
     · exact h
    have hx : b.hl[d0.length] = x := by
     have : b.hl[d0.length]? = some x := by rw [hm.out, List.getElem?_append_right (nlq _), Nat.sub_self]; rfl
     exact (lgs.1 this).2
    have hcx := (hc d0.length hjl).zL hS.n; rw [hx] at hcx; obtain ⟨e0, e1, e2⟩ := eY hcx; have HEa : Hid _ := ea; have k2 : wr.cell? ⟨w.heap.size, 2, none⟩ = some (.slice (some ⟨bl, off, none⟩) b.hl.length b.hc) := by rw [← ea]; exact aK hS.a rfl
    have hzr := hS.z; clear hc hx hcx hml ea hS; go_wp2_with fail
    clear k2; refine wpIn_wide.1 (aP (F := Fence.wide) (n := 0) (by kernel_rfl) 24 [some 19, some 20, some 21, some 22, some 23, some 24, some 25, some 26, some 27, some 28, some 29, some 30, some 31, some 32, some 33, some 34, some 35, some 36, some 37, some 38, some 39, some 40, some 41, some 42] (by decide) (L5 w.heap.size q vH (.slice (some ⟨bl, off, none⟩) b.hl.length b.hc) d0.length ⟨bl, off + d0.length * 3, none⟩ x wr.heap.size) L5.zL (by kernel_rfl) (by kernel_rfl) (by kernel_rfl) ?step ?fin)
    case step =>
     intro i o vs w' hi' ho hB hd; have hBw := aD HS.out.n hB
     match i, hi' with
     | 0, _ | 2, _ | 4, _ | 8, _ | 10, _ | 15, _ | 17, _ =>
      simp at ho; subst ho; simp only [aE, Act.put]; gi_wp2; exact ⟨_, by simp [aH], rfl, br _ _⟩
     | 1, _ =>
      simp at ho; subst ho; have d0 : vs 0 = _ := Zq hd 0; have kq : w'.cell? ⟨q, 2, none⟩ = some vH := aK (aY HS.out.q hB) rfl; simp only [aE, Act.put]; rw [d0]; gi_wp2; exact ⟨_, by simp [aH, d0], rfl, br _ _⟩
     | 3, _ =>
      simp at ho; subst ho; have d2 : vs 2 = _ := Zq hd 2; have k2 : w'.cell? ⟨w.heap.size, 2, none⟩ = some (.slice (some ⟨bl, off, none⟩) b.hl.length b.hc) := by rw [← HEa.out]; exact aK (aY HA5.out hB) rfl
      simp only [aE, Act.put]; rw [d2]; gi_wp2; exact ⟨_, by simp [aH, d2], rfl, br _ _⟩
     | 5, _ =>
      simp at ho; subst ho; have d3 : vs 3 = _ := Zq hd 3; have d4 : vs 4 = _ := Zq hd 4; simp only [aE, Act.put]; rw [d3, d4]; gi_wp2; exact ⟨_, by simp [aH, d3, d4], rfl, br _ _⟩
     | 6, _ =>
      simp at ho; subst ho; have d5 : vs 5 = _ := Zq hd 5; simp only [aE, Act.put]; rw [d5]; gi_wp2; exact ⟨_, by simp [aH, d5], rfl, br _ _⟩
     | 7, _ =>
      simp at ho; subst ho; have d6 : vs 6 = _ := Zq hd 6; have kx : w'.cell? ⟨bl, off + d0.length * 3, none⟩ = some (.string x.n) := (hB.cell (aB e0)).trans e0; simp only [aE, Act.put]; rw [d6]; gi_wp2; exact ⟨_, by simp [aH, d6], rfl, br _ _⟩
     | 9, _ =>
      simp at ho; subst ho; have d8 : vs 8 = _ := Zq hd 8; have k2 : w'.cell? ⟨w.heap.size, 2, none⟩ = some (.slice (some ⟨bl, off, none⟩) b.hl.length b.hc) := by rw [← HEa.out]; exact aK (aY HA5.out hB) rfl
      simp only [aE, Act.put]; rw [d8]; gi_wp2; exact ⟨_, by simp [aH, d8], rfl, br _ _⟩
     | 11, _ =>
      simp at ho; subst ho; have d9 : vs 9 = _ := Zq hd 9; have d10 : vs 10 = _ := Zq hd 10; simp only [aE, Act.put]; rw [d9, d10]; gi_wp2; exact ⟨_, by simp [aH, d9, d10], rfl, br _ _⟩
     | 12, _ =>
      simp at ho; subst ho; have d11 : vs 11 = _ := Zq hd 11; simp only [aE, Act.put]; rw [d11]; gi_wp2; exact ⟨_, by simp [aH, d11], rfl, br _ _⟩
     | 13, _ =>
      simp at ho; subst ho; have d12 : vs 12 = _ := Zq hd 12; have kx : w'.cell? ⟨bl, off + d0.length * 3 + 1, none⟩ = some (.slice x.ta x.tl.length x.tc) := (hB.cell (aB e1)).trans e1; simp only [aE, Act.put]; rw [d12]; gi_wp2; exact ⟨_, by simp [aH, d12], rfl, br _ _⟩
     | 14, _ =>
      simp at ho; subst ho; have d13 : vs 13 = _ := Zq hd 13; simp only [aE, Act.put]; rw [d13]; gi_wp2_with fail
      refine ⟨trivial, rfl, ?_⟩; refine (cw.2 (nP x.tl x.ta x.tc w' (hxi.1.zL hBw) hxf.tn)).mono ?_; rintro e w3 ⟨⟨v, rfl, hp3⟩, hb3⟩; have HP : Hid _ := hp3; clear hp3; gi_wp2; exact ⟨_, by simp [aH, d13], aF.weak HP.out hB.size, hb3⟩
     | 16, _ =>
      simp at ho; subst ho; have d15 : vs 15 = _ := Zq hd 15; have k2 : w'.cell? ⟨w.heap.size, 2, none⟩ = some (.slice (some ⟨bl, off, none⟩) b.hl.length b.hc) := by rw [← HEa.out]; exact aK (aY HA5.out hB) rfl
      simp only [aE, Act.put]; rw [d15]; gi_wp2; exact ⟨_, by simp [aH, d15], rfl, br _ _⟩
     | 18, _ =>
      simp at ho; subst ho; have d16 : vs 16 = _ := Zq hd 16; have d17 : vs 17 = _ := Zq hd 17; simp only [aE, Act.put]; rw [d16, d17]; gi_wp2; exact ⟨_, by simp [aH, d16, d17], rfl, br _ _⟩
     | 19, _ =>
      simp at ho; subst ho; have d18 : vs 18 = _ := Zq hd 18; simp only [aE, Act.put]; rw [d18]; gi_wp2; exact ⟨_, by simp [aH, d18], rfl, br _ _⟩
     | 20, _ =>
      simp at ho; subst ho; have d19 : vs 19 = _ := Zq hd 19; have kx : w'.cell? ⟨bl, off + d0.length * 3 + 2, none⟩ = some (.slice x.na x.nl.length x.nc) := (hB.cell (aB e2)).trans e2; simp only [aE, Act.put]; rw [d19]; gi_wp2; exact ⟨_, by simp [aH, d19], rfl, br _ _⟩
     | 21, _ =>
      simp at ho; subst ho; have d20 : vs 20 = _ := Zq hd 20; simp only [aE, Act.put]; rw [d20]; gi_wp2_with fail
      refine ⟨trivial, rfl, ?_⟩; refine (cw.2 (nP x.nl x.na x.nc w' (hxi.2.zL hBw) hxf.nn)).mono ?_; rintro e w3 ⟨⟨v, rfl, hp3⟩, hb3⟩; have HP : Hid _ := hp3; clear hp3; gi_wp2; exact ⟨_, by simp [aH, d20], aF.weak HP.out hB.size, hb3⟩
     | 22, _ =>
      simp at ho; subst ho; have d7 : vs 7 = _ := Zq hd 7; have h14 : aF w' wr.heap.size (vs 14) x.tl := Zq hd 14; have h21 : aF w' wr.heap.size (vs 21) x.nl := Zq hd 21; obtain ⟨a1, c1, d14, _⟩ := h14.slice; obtain ⟨a3, c3, d21, _⟩ := h21.slice; rw [d14] at h14; rw [d21] at h21; have HO : Hid (cG wr.heap.size w' ⟨x.n, a1, x.tl, c1, a3, x.nl, c3⟩) := ⟨h14, h21⟩; clear h14 h21; simp only [aE, Act.put]; rw [d7, d14, d21]; gi_wp2; exact ⟨_, by simp [aH, d7, d14, d21], ⟨⟨x.n, a1, x.tl, c1, a3, x.nl, c3⟩, rfl, ⟨rfl, rfl, rfl⟩, HO.out⟩, br _ _⟩
     | 23, _ =>
      simp at ho; subst ho; obtain ⟨x', d22, hl, ht⟩ : ∃ x', vs 22 = Hx.val x' /\ x.Like x' /\ cG wr.heap.size w' x' := Zq hd 22; have HL : Hid _ := hl; have HT : Hid _ := ht; clear hl ht; simp only [aE, Act.put]; rw [d22]; gi_wp2; exact ⟨_, by simp [aH, d22], ⟨_, x', rfl, wnq _ _, HL.out, cG.zL HT.out (aA (br _ _) _)⟩, aA (br _ _) _⟩
     | j + 24, h => exact absurd h (by omega)
    case fin =>
     intro vs w' hB hp; have d1 : vs 1 = vH := hp 1 (by decide); obtain ⟨s, x', d23, hso, hl, ht⟩ : ∃ (s : Nat) (x' : Hx), vs 23 = .slice (some ⟨s, 0, none⟩) 1 1 /\ w'.heap[s]? = some (.cells #[.string x'.n, .slice x'.ta x'.tl.length x'.tc, .slice x'.na x'.nl.length x'.nc] 42) /\ x.Like x' /\ cG wr.heap.size w' x' := hp 23 (by decide); have HS' : Hid _ := HS.out.zL hB
     have hnews : ∀ j u, (x'.cells)[j]? = some u -> w'.cell? ((⟨s, 0, none⟩ : Addr).add j) = some u := fun j u h => by
      rw [Addr.add_lit, Nat.zero_add]
      match j, h with
      | 0, h => simp [Hx.cells] at h; subst h; exact aK hso rfl
      | 1, h => simp [Hx.cells] at h; subst h; exact aK hso rfl
      | 2, h => simp [Hx.cells] at h; subst h; exact aK hso rfl
     have hq2 : ∃ cs, w'.heap[q]? = some (.cells cs 29) := ⟨_, HS'.out.q⟩; have HL : Hid _ := hl; have HT : Hid _ := ht.weak HS.out.z; clear hp hl ht; simp only [lds, List.drop_zero, aE, Act.put, List.setIfInBounds_toArray, List.set_cons_succ, List.set_cons_zero]; rw [d1, d23]; clear d1 d23; refine wpListIn_append_own w' rfl (.tmp 20) (.tmp 42) 27 rfl W0.heap.size 42 j0 _ 3 64 Tryz.underlying27 hih hy0 hy1 hy2 rfl (by decide) vH d0.length (aQ Hx.cells dn) rfl HS'.out.h ⟨s, 0, none⟩ 1 1 x'.cells rfl rfl hnews (jD x') (by unfold maxLen; omega) (by omega) HS'.out.z (fun v' w2 hown hgr _ => ?_)
     obtain ⟨g, cap, rfl⟩ : ∃ g cap, v' = .slice (some ⟨g, 0, none⟩) (d0.length + 1) cap := by
      obtain ⟨_, ⟨_, e⟩ | ⟨g, cap, _, e, _⟩⟩ := hown
      · omega
      · exact ⟨g, cap, e⟩
     have hN := HS'.out.grow hzw hq hown hgr HL.out HT.out; have HN : Hid _ := hN
     have kq : w2.cell? ⟨q, 2, none⟩ = some vH := aK (MN hgr (fun k hk => by
      obtain ⟨_, ⟨e, _⟩ | ⟨g, cap, cur, e, _, e2, _⟩⟩ := HS'.out.h
      · rw [e] at hk; simp [Value.ownBlock] at hk
      · rw [e] at hk; simp [Value.ownBlock] at hk; subst hk; exact ⟨cur, e2⟩) HS'.out.q (by decide)) rfl
     have kf : ∀ i, w2.frozen? ⟨q, i, none⟩ = false := fun i => by
      have := MN hgr (fun k hk => by
       obtain ⟨_, ⟨e, _⟩ | ⟨g, cap, cur, e, _, e2, _⟩⟩ := HS'.out.h
       · rw [e] at hk; simp [Value.ownBlock] at hk
       · rw [e] at hk; simp [Value.ownBlock] at hk; subst hk; exact ⟨cur, e2⟩) HS'.out.q (by decide)
      simp [World.frozen?, this]
     have HMN : Hid (b.hl = (d0 ++ [x]) ++ rs) := by rw [Hid, hm.out]; simp
     clear hown hgr hnews hN hso hq2 HS'; gi_wp2_with fail
     go_wp2
     go_roundw
     case rel => exact ⟨d0 ++ [x], rs, _, _, HMN, by simp, HN.out⟩
     case measure => simp [intOf]; omega
   | nil =>
    have hjn : b.hl.length <= d0.length := by simp at hml; omega
    have hd0 : b.hl = d0 := by simpa using hm.out
    have k2 : wr.cell? ⟨w.heap.size, 2, none⟩ = some (.slice b.ha b.hl.length b.hc) := aK hS.a rfl
    obtain ⟨ah, ch, hvH, hXh⟩ : ∃ ah ch, vH = .slice ah dn.length ch /\ bM 42 3 Hx.cells wr W0.heap.size vH dn := by
     have ho := hS.h; rw [← hS.k.len] at ho; have := jZ Hx.cells_length ho; obtain ⟨a, c, e⟩ := bM.slice this; exact ⟨a, c, e, this⟩
    have HL : Hid (aI b.hl dn) := by rw [Hid, hd0]; exact hS.k
    have HX : Hid _ := hXh; have q0 : wr.cell? ⟨q, 0, none⟩ = some (.int .i64 b.now) := aK hS.q rfl; have q1 : wr.cell? ⟨q, 1, none⟩ = some (.slice a2 b.fl.length c2) := aK hS.q rfl; have q2 : wr.cell? ⟨q, 2, none⟩ = some (.slice ah dn.length ch) := by rw [← hvH]; exact aK hS.q rfl
    obtain ⟨r0, r1, r2⟩ := aJ hS.r; have rf : ∀ i, wr.frozen? ⟨w.heap.size + 1, i, none⟩ = false := fun i => by simp [World.frozen?, hS.r]
    have HV : Hid (vH = .slice ah dn.length ch) := hvH; clear hml hd0 hm hvH hXh hS; go_wp2_with fail
    have hlen : dn.length = b.hl.length := HL.out.len; have hA : cS W0.heap.size wr ⟨b.now, a2, b.fl, c2, ah, dn, ch⟩ := ⟨HS.out.f, by have := HX.out; rw [HV.out] at this; exact this, HS.out.t⟩; have hS : bC (fun k => k = w.heap.size + 1) wr (((wr.setCell ⟨w.heap.size + 1, 0, none⟩ (.int .i64 b.now)).setCell ⟨w.heap.size + 1, 1, none⟩ (.slice a2 b.fl.length c2)).setCell ⟨w.heap.size + 1, 2, none⟩ (.slice ah dn.length ch)) := (((bC.refl (fun k => k = w.heap.size + 1) wr).set (g := w.heap.size + 1) rfl _ _).set (g := w.heap.size + 1) rfl _ _).set (g := w.heap.size + 1) rfl _ _; have hA2 := (hA.but hS (fun k hk => by rw [hk]; exact hzw)).weak (z' := w.heap.size) (by omega); have hN2 := hS.under HS.out.n (nlq _) (fun k hk => by rw [hk]; omega); exact bpr (v := Bk.val ⟨b.now, a2, b.fl, c2, ah, dn, ch⟩) (by simp [results, Tryz.results33, go_sem, r0, r1, r2]) rfl ⟨⟨_, rfl, rfl, rfl, HL.out, hA2⟩, hN2⟩
def iQ (frm : Int) (l : List Hx) : List Hx := (l.map (gK frm)).filter (fun x => !x.tl.isEmpty)
theorem JI {frm : Int} {l : List Hx} {x : Hx} (h : (gK frm x).tl ≠ []) : iQ frm (l ++ [x]) = iQ frm l ++ [gK frm x] := by
 unfold iQ; rw [List.map_append, List.filter_append]
 simp [h]
theorem LP {frm : Int} {l : List Hx} {x : Hx} (h : (gK frm x).tl = []) : iQ frm (l ++ [x]) = iQ frm l := by
 unfold iQ; rw [List.map_append, List.filter_append]
 simp [h]
theorem xN (frm : Int) (l : List Hx) : (iQ frm l).length <= l.length := by
 unfold iQ; exact Nat.le_trans (List.length_filter_le _ _) (by simp)
theorem AG (frm : Int) {x : Hx} (h : x.Fit) : (gK frm x).Fit := by
 unfold gK
 split
 · exact ⟨Nat.le_trans (dV frm x.nl) h.nn, by simp, h.sn⟩
 · exact ⟨Nat.le_trans (dV frm x.tl) h.tn, Nat.le_trans (dV frm x.nl) h.nn, h.sn⟩
def cQ (b : Bk) (n : Int) : Int := if n < 0 ∨ 10000 - b.now < n then 2 else 0
def iS (b : Bk) (n : Int) : Int := if cQ b n = 0 then b.now + n else b.now
def fX (b : Bk) (n : Int) : List Hx := if cQ b n = 0 then iQ (b.now + n) b.hl else b.hl
theorem fS.butPage {z P : Nat} {w w' : World} {b : Bk} {cs : Array Value} (h : fS z w b) (hb : bC (fun k => k = P) w w') (hP : w.heap[P]? = some (.cells cs 178)) : fS z w' b := by
 have no : ∀ {t n : Nat} {f : Nat -> Value}, t ≠ 178 -> w.rowIs P t n f -> False := fun ht hr => by
  obtain ⟨c, hc, _⟩ := hr; rw [hP] at hc
  cases hc
  exact ht rfl
 refine ⟨h.f.butRow hb (fun k _ _ _ hr e => by have e' : k = P := e; subst e'; exact no (by decide) hr), h.h.butRow hb (fun k _ _ _ hr e => by have e' : k = P := e; subst e'; exact no (by decide) hr), fun x hx => (h.t x hx).but hb (fun q hq e => ?_), h.d, h.c, h.cf⟩; have e' : q = P := e; subst e'; obtain ⟨_, _, r⟩ := (h.t x hx).bs_row q hq; exact no (by decide) r
structure PM (Wn : World) (frm : Int) (d0 dn : List Hx) (v : Value) (wr : World) : Prop where
 n : Below Wn.heap.size Wn wr
 h : wr.ownsRow Wn.heap.size 42 3 v dn.length (aQ Hx.cells dn)
 k : aI (iQ frm d0) dn
 t : ∀ x ∈ dn, cG Wn.heap.size wr x
 d : (dn.flatMap Hx.bs).Nodup
theorem nU {w w' : World} {base : Nat} {e : TypeId} {size : Nat} {v : Value} {n : Nat} {xs : List Value} (h : w.ownsRow base e size v n xs) (hb : Below w.heap.size w w') : w'.ownsRow base e size v n xs := by
 obtain ⟨h0, ⟨hv, hn⟩ | ⟨g, cap, cur, hv, hbb, hg, hr⟩⟩ := h
 · exact ⟨h0, .inl ⟨hv, hn⟩⟩
 · exact ⟨h0, .inr ⟨g, cap, cur, hv, hbb, (hb.block _ (bH hg)).trans hg, hr⟩⟩
theorem PM.zL {Wn : World} {frm : Int} {d0 dn : List Hx} {v : Value} {wr w' : World} (h : PM Wn frm d0 dn v wr) (hb : Below wr.heap.size wr w') : PM Wn frm d0 dn v w' :=
 ⟨aD h.n hb, nU h.h hb, h.k, fun x hx => (h.t x hx).zL hb, h.d⟩
theorem PM.len {Wn : World} {frm : Int} {d0 dn : List Hx} {v : Value} {wr : World} (h : PM Wn frm d0 dn v wr) : dn.length <= d0.length := by
 rw [h.k.len]; exact xN frm d0
theorem PM.skip {Wn : World} {frm : Int} {d0 dn : List Hx} {v : Value} {wr : World} {x : Hx} (h : PM Wn frm d0 dn v wr) (hx : (gK frm x).tl = []) : PM Wn frm (d0 ++ [x]) dn v wr :=
 ⟨h.n, h.h, by rw [LP hx]; exact h.k, h.t, h.d⟩
theorem PM.grow {Wn : World} {frm : Int} {d0 dn : List Hx} {v v' : Value} {w' w2 : World} {x x' : Hx} {B : Nat} (h : PM Wn frm d0 dn v w') (hl : (gK frm x).Like x') (hx : (gK frm x).tl ≠ []) (ht : cG B w' x') (hd : x'.bs.Nodup) (hB : Wn.heap.size <= B /\ ∀ y ∈ dn, ∀ q ∈ y.bs, q < B)
 (hown : w2.ownsRow Wn.heap.size 42 3 v' (dn.length + 1) (aQ Hx.cells dn ++ x'.cells)) (hg : w'.grownBy w2 v.ownBlock) :
 PM Wn frm (d0 ++ [x]) (dn ++ [x']) v' w2 := by
 have hty : ∀ k, v.ownBlock = some k -> ∃ cur, w'.heap[k]? = some (.cells cur 42) := fun k hk => by
  obtain ⟨_, ⟨rfl, _⟩ | ⟨g, cap, cur, rfl, _, e, _⟩⟩ := h.h
  · simp [Value.ownBlock] at hk
  · simp [Value.ownBlock] at hk
    subst hk; exact ⟨cur, e⟩
 have hf : aQ Hx.cells (dn ++ [x']) = aQ Hx.cells dn ++ x'.cells := by rw [kG, xP]
 refine ⟨h.n.grown hg h.n.size (fun k hk => i5 h.h hk), by rw [hf, List.length_append]; exact hown, by rw [JI hx]; exact h.k.snoc hl, fun y hy => ?_, ?_⟩
 · simp only [lma, List.mem_singleton] at hy
   have hyT : cG Wn.heap.size w' y := by
    rcases hy with hy | rfl
    · exact h.t y hy
    · exact ht.weak hB.1
   exact ⟨hyT.t.gkeep hg hty, hyT.n.gkeep hg hty⟩
 · rw [List.flatMap_append, List.nodup_append]
   refine ⟨h.d, by simpa using hd, fun q hq r hr e => ?_⟩; subst e; obtain ⟨y, hy, hq⟩ := List.mem_flatMap.1 hq; have h1 := hB.2 y hy q hq; have h2 := (ht.bs_in q (by simpa using hr)).1; omega
def P8 (P : Nat) (frm : Int) (x : Hx) (Z : Nat) (j : Nat) (v : Value) (w : World) : Prop :=
 match j with
 | 0 => v = x.val
 | 1 => v = .pointer (some ⟨P, 0, none⟩)
 | 2 => v = .pointer (some ⟨P, 0, none⟩)
 | 3 => v = .pointer (some ⟨P, 0, none⟩)
 | 4 => v = .pointer (some ⟨P, 0, none⟩)
 | 5 => v = .int .i64 frm
 | 6 => ∃ x' : Hx, v = x'.val /\ (gK frm x).Like x' /\ cG Z w x' /\ x'.bs.Nodup
 | _ => True
theorem P8.zL {P : Nat} {frm : Int} {x : Hx} {Z : Nat} (j : Nat) (v : Value) (w w' : World) (h : P8 P frm x Z j v w) (hb : Below w.heap.size w w') : P8 P frm x Z j v w' := by
 unfold P8 at h ⊢
 split
 all_goals first
  | exact h
  | (obtain ⟨x', e, h1, h2, h3⟩ := h; exact ⟨x', e, h1, h2.zL hb, h3⟩)
  | trivial
theorem NL (z P : Nat) (b : Bk) (nm : ByteArray) (i : Nat) (f : Bool) (n : Int) (w : World) (hI : iP z P w b nm i f) (hzw : z <= w.heap.size) (hft : ∀ h ∈ b.hl, h.Fit) (hnh : b.hl.length <= 64) (hn0 : 0 <= b.now) (hn1 : b.now <= 10000) :
 Calls Tryz.prog 120 #[.pointer (some ⟨P, 0, none⟩), .int .i64 n] w fun e w' => ∃ b'' : Bk, e = .returned (lE (cQ b n)) /\ b''.now = iS b n /\ b''.fl = b.fl /\ aI (fX b n) b''.hl /\ iP z P w' b'' nm i f /\ bC (fun k => z <= k) w w' := by
 have p0 : w.cell? ⟨P, 0, none⟩ = some (.int .i64 b.now) := aK hI.p rfl; have HI : Hid _ := hI; have HFt : Hid _ := hft; clear hI hft; have hno : cQ b n = 2 -> ∃ b'' : Bk, Ending.returned (lE 2) = .returned (lE (cQ b n)) /\ b''.now = iS b n /\ b''.fl = b.fl /\ aI (fX b n) b''.hl /\ iP z P w b'' nm i f /\ bC (fun k => z <= k) w w := fun h => ⟨b, by rw [h], by unfold iS; rw [h]; rfl, rfl, by unfold fX; rw [h]; exact aI.refl _, HI.out, bC.refl _ _⟩; have HNo : Hid _ := hno; clear hno
 by_cases h1 : n < 0
 · have hd1 : decide (n < 0) = true := by simp [h1]
   have HC : Hid (cQ b n = 2) := by
    have : cQ b n = 2 := by unfold cQ; rw [if_pos (.inl h1)]
    exact this
   clear h1
   go_enter Tryz.func120, Tryz.ntmps120
   go_wp2_with fail
   go_ret
   first
    | exact HNo.out HC.out
    | (obtain ⟨b'', h1, h2⟩ := HNo.out HC.out; exact ⟨h1, b'', h2⟩)
 have hd1 : decide (n < 0) = false := by simp; omega
 by_cases h2 : 10000 - b.now < n
 · have hd2 : decide (10000 - b.now < n) = true := by simp [h2]
   have HC : Hid (cQ b n = 2) := by
    have : cQ b n = 2 := by unfold cQ; rw [if_pos (.inr h2)]
    exact this
   clear h2
   go_enter Tryz.func120, Tryz.ntmps120
   go_wp2_with fail
   go_ret
   first
    | exact HNo.out HC.out
    | (obtain ⟨b'', h1, h2⟩ := HNo.out HC.out; exact ⟨h1, b'', h2⟩)
 have hd2 : decide (10000 - b.now < n) = false := by simp; omega
 have HC : Hid (cQ b n = 0) := by
  have : cQ b n = 0 := by unfold cQ; rw [if_neg (by omega)]
  exact this
 clear HNo; obtain ⟨j0, hih, hy0, hy1, hy2⟩ := info_parts Tryz.info42; have pf : ∀ i, w.frozen? ⟨P, i, none⟩ = false := fun i => by simp [World.frozen?, HI.out.p]
 have Pn := aX HI.out.p 0 (.int .i64 (b.now + n)); have bN : bC (fun k => k = P) w (w.setCell ⟨P, 0, none⟩ (.int .i64 (b.now + n))) := (bC.refl (fun k => k = P) w).set (g := P) rfl _ _; have HAn : Hid _ := HI.out.a.butPage bN HI.out.p; have p2 : (w.setCell ⟨P, 0, none⟩ (.int .i64 (b.now + n))).cell? ⟨P, 2, none⟩ = some (.slice b.ha b.hl.length b.hc) := aK Pn rfl; have hszn : (w.setCell ⟨P, 0, none⟩ (.int .i64 (b.now + n))).heap.size = w.heap.size := by simp
 obtain ⟨Wn, hWn⟩ : ∃ Wn, w.setCell ⟨P, 0, none⟩ (.int .i64 (b.now + n)) = Wn := ⟨_, rfl⟩; rw [hWn] at Pn bN HAn p2 hszn; have HPn : Hid (Wn.heap[P]? = some (O6 ⟨b.now + n, b.fa, b.fl, b.fc, b.ha, b.hl, b.hc⟩ nm i f)) := Pn; have HBN : Hid _ := bN; have hzn : z <= Wn.heap.size := by rw [hszn]; exact hzw
 clear Pn bN hszn
 go_enter Tryz.func120, Tryz.ntmps120
 go_wp2_with fail
 clear hWn p0 pf hd1 hd2
 go_loopw [5, 37] (fun v iv wr => ∃ (d0 rs dn : List Hx) (vv : Value), Hid (b.hl = d0 ++ rs) /\ v = vv /\ iv = .int .i64 (d0.length : Int) /\ PM Wn (b.now + n) d0 dn vv wr) (fun _ iv _ => b.hl.length - (intOf iv).toNat)
 case atStart => exact ⟨[], b.hl, [], _, rfl, rfl, rfl, ⟨br _ _, World.ownsRow_nil _ _ _ _, ⟨rfl, fun k h => by simp [iQ] at h⟩, fun x hx => by simp at hx, by simp⟩⟩
 case round =>
  obtain ⟨d0, rs, dn, v, hm, rfl, rfl, hS⟩ := hrel; have hml : b.hl.length = d0.length + rs.length := by rw [hm.out]; simp
  have HS : Hid (PM Wn (b.now + n) d0 dn _ wr) := hS
  cases rs with
  | cons x rs =>
   have hlt : d0.length < b.hl.length := by rw [hml]; simp
   have hxe : b.hl[d0.length] = x := by
    have : b.hl[d0.length]? = some x := by rw [hm.out, List.getElem?_append_right (nlq _), Nat.sub_self]; rfl
    rw [lge hlt] at this; exact Option.some.inj this
   have hmem : x ∈ b.hl := by rw [← hxe]; exact lgm hlt
   have hxf := HFt.out x hmem; obtain ⟨g, ha, hgz, hcap, fv, hrow, hf⟩ := fS.held HAn.out hlt; have hrw := hrow.of_block (hS.n.block _ hrow.lt); have e0 := hrw.cell (i := d0.length * 3 + 0) (by omega); have e1 := hrw.cell (i := d0.length * 3 + 1) (by omega); have e2 := hrw.cell (i := d0.length * 3 + 2) (by omega); rw [show fv (d0.length * 3 + 0) = .string x.n from by rw [← hxe]; exact hf d0.length hlt hlt 0 _ rfl] at e0; rw [show fv (d0.length * 3 + 1) = .slice x.ta x.tl.length x.tc from by rw [← hxe]; exact hf d0.length hlt hlt 1 _ rfl] at e1; rw [show fv (d0.length * 3 + 2) = .slice x.na x.nl.length x.nc from by rw [← hxe]; exact hf d0.length hlt hlt 2 _ rfl] at e2; rw [Nat.add_zero] at e0; have hxi : x.In Wn := fS.ans HAn.out |>.inn x hmem
   have HMN : Hid (b.hl = (d0 ++ [x]) ++ rs) := by rw [Hid, hm.out]; simp
   have M2 : Below wr.heap.size wr (wr.alloc (.cells #[.string x.n, .slice x.ta x.tl.length x.tc, .slice x.na x.nl.length x.nc] 42)) := aA (br _ _) _; have Y2 := wnq wr (.cells #[.string x.n, .slice x.ta x.tl.length x.tc, .slice x.na x.nl.length x.nc] 42); have hp2 : Wn.heap.size <= wr.heap.size := hS.n.size; have HXI : Hid (x.In (wr.alloc (.cells #[.string x.n, .slice x.ta x.tl.length x.tc, .slice x.na x.nl.length x.nc] 42))) := (hxi.zL hS.n).zL M2; have p0 : (wr.alloc (.cells #[.string x.n, .slice x.ta x.tl.length x.tc, .slice x.na x.nl.length x.nc] 42)).cell? ⟨P, 0, none⟩ = some (.int .i64 (b.now + n)) := aK (aY (aY HPn.out hS.n) M2) rfl; have hsz2 : (wr.alloc (.cells #[.string x.n, .slice x.ta x.tl.length x.tc, .slice x.na x.nl.length x.nc] 42)).heap.size = wr.heap.size + 1 := by simp
   obtain ⟨W2, hW2⟩ : ∃ W2, wr.alloc (.cells #[.string x.n, .slice x.ta x.tl.length x.tc, .slice x.na x.nl.length x.nc] 42) = W2 := ⟨_, rfl⟩; rw [hW2] at M2 Y2 HXI p0 hsz2; have HY2 : Hid (W2.heap[wr.heap.size]? = some (.cells #[.string x.n, .slice x.ta x.tl.length x.tc, .slice x.na x.nl.length x.nc] 42)) := Y2; obtain ⟨y0, y1, y2⟩ := aJ Y2; have HW : Hid (Wn.heap.size <= W2.heap.size /\ ∀ y ∈ dn, ∀ q ∈ y.bs, q < W2.heap.size) := ⟨by omega, fun y hy q hq => by have := ((hS.t y hy).bs_in q hq).2; omega⟩; rw [ha]; clear hf hrow hrw hxe hmem hxi hS hm Y2 ha hml; go_wp2_with fail
   clear hW2 e0 e1 e2; refine wpIn_wide.1 (aP (F := Fence.wide) (n := 0) (by kernel_rfl) 7 [some 41, some 42, some 43, some 44, some 45, some 46, some 47] (by decide) (P8 P (b.now + n) x W2.heap.size) P8.zL (by kernel_rfl) (by kernel_rfl) (by kernel_rfl) ?step ?fin)
   case step =>
    intro ii o vs w' hi' ho hB hd
    match ii, hi' with
    | 0, _ =>
     simp at ho; subst ho; have q0 := (hB.cell (aB y0)).trans y0; have q1 := (hB.cell (aB y1)).trans y1; have q2 := (hB.cell (aB y2)).trans y2; simp only [aE, Act.put]; gi_wp2; exact ⟨_, by simp [aH], rfl, br _ _⟩
    | 1, _ =>
     simp at ho; subst ho; simp only [aE, Act.put]; gi_wp2; exact ⟨_, by simp [aH], rfl, br _ _⟩
    | 2, _ =>
     simp at ho; subst ho; have d1 : vs 1 = _ := Zq hd 1; simp only [aE, Act.put]; rw [d1]; gi_wp2; exact ⟨_, by simp [aH, d1], rfl, br _ _⟩
    | 3, _ =>
     simp at ho; subst ho; have d2 : vs 2 = _ := Zq hd 2; simp only [aE, Act.put]; rw [d2]; gi_wp2; exact ⟨_, by simp [aH, d2], rfl, br _ _⟩
    | 4, _ =>
     simp at ho; subst ho; have d3 : vs 3 = _ := Zq hd 3; simp only [aE, Act.put]; rw [d3]; gi_wp2; exact ⟨_, by simp [aH, d3], rfl, br _ _⟩
    | 5, _ =>
     simp at ho; subst ho; have d4 : vs 4 = _ := Zq hd 4; have c0 := (hB.cell (aB p0)).trans p0; simp only [aE, Act.put]; rw [d4]; gi_wp2; exact ⟨_, by simp [aH, d4], rfl, br _ _⟩
    | 6, _ =>
     simp at ho; subst ho; have d0 : vs 0 = _ := Zq hd 0; have d5 : vs 5 = _ := Zq hd 5; simp only [aE, Act.put]; rw [d0, d5]; gi_wp2_with fail
     refine ⟨trivial, rfl, ?_⟩; refine (cw.2 (AF x (b.now + n) w' (Hx.In.zL HXI.out hB) hxf)).mono ?_; rintro e w5 ⟨⟨x5, rfl, hl5, ht5, hd5⟩, hb5⟩; have HO5 : Hid (∃ x', Value.agg #[.string x5.n, .slice x5.ta x5.tl.length x5.tc, .slice x5.na x5.nl.length x5.nc] = Hx.val x' /\ (gK (b.now + n) x).Like x' /\ cG W2.heap.size w5 x' /\ x'.bs.Nodup) := ⟨x5, rfl, hl5, ht5.weak hB.size, hd5⟩; clear hl5 ht5 hd5; gi_wp2; exact ⟨_, by simp [aH, d0, d5], HO5.out, hb5⟩
    | q + 7, h => exact absurd h (by omega)
   case fin =>
    intro vs w3 hB hp; obtain ⟨x', d6, hl, ht, hd⟩ : ∃ x', vs 6 = Hx.val x' /\ (gK (b.now + n) x).Like x' /\ cG W2.heap.size w3 x' /\ x'.bs.Nodup := hp 6 (by decide); have M3 := aD M2 hB; have Y3 := aY HY2.out hB; have hs3 := hB.size; clear hp hB y0 y1 y2 p0; simp only [lds, List.drop_zero, aE, Act.put]; rw [d6]; clear d6; generalize vs 0 = v0; generalize vs 1 = v1; generalize vs 2 = v2; generalize vs 3 = v3; generalize vs 4 = v4; generalize vs 5 = v5
    have rk : w3.rowIs wr.heap.size 42 3 (fun i => (#[.string x.n, .slice x.ta x.tl.length x.tc, .slice x.na x.nl.length x.nc] : Array Value).getD i undef) := ⟨_, Y3, rfl, fun i hi => by match i, hi with | 0, _ => rfl | 1, _ => rfl | 2, _ => rfl⟩
    obtain ⟨k0, k1, k2⟩ := aJ Y3; have kf := fun i => rk.frozen i; have r4 := ((rk.set 0 (.string x'.n)).set 1 (.slice x'.ta x'.tl.length x'.tc)).set 2 (.slice x'.na x'.nl.length x'.nc); have bK := (((bC.refl (fun k => k = wr.heap.size) w3).set (g := wr.heap.size) rfl 0 (.string x'.n)).set (g := wr.heap.size) rfl 1 (.slice x'.ta x'.tl.length x'.tc)).set (g := wr.heap.size) rfl 2 (.slice x'.na x'.nl.length x'.nc); have c0 : (((w3.setCell ⟨wr.heap.size, 0, none⟩ (.string x'.n)).setCell ⟨wr.heap.size, 1, none⟩ (.slice x'.ta x'.tl.length x'.tc)).setCell ⟨wr.heap.size, 2, none⟩ (.slice x'.na x'.nl.length x'.nc)).cell? ⟨wr.heap.size, 0, none⟩ = some (.string x'.n) := r4.cell (i := 0) (by decide); have c1 : (((w3.setCell ⟨wr.heap.size, 0, none⟩ (.string x'.n)).setCell ⟨wr.heap.size, 1, none⟩ (.slice x'.ta x'.tl.length x'.tc)).setCell ⟨wr.heap.size, 2, none⟩ (.slice x'.na x'.nl.length x'.nc)).cell? ⟨wr.heap.size, 1, none⟩ = some (.slice x'.ta x'.tl.length x'.tc) := r4.cell (i := 1) (by decide); have c2 : (((w3.setCell ⟨wr.heap.size, 0, none⟩ (.string x'.n)).setCell ⟨wr.heap.size, 1, none⟩ (.slice x'.ta x'.tl.length x'.tc)).setCell ⟨wr.heap.size, 2, none⟩ (.slice x'.na x'.nl.length x'.nc)).cell? ⟨wr.heap.size, 2, none⟩ = some (.slice x'.na x'.nl.length x'.nc) := r4.cell (i := 2) (by decide); have M4 := bK.under M3 (nlq _) (fun k hk => by have hk' : k = wr.heap.size := hk; omega); have T4 := ht.but bK (fun q hq e => by have e' : q = wr.heap.size := e; have := (ht.bs_in q hq).1; omega); obtain ⟨w4, hw4⟩ : ∃ w4, ((w3.setCell ⟨wr.heap.size, 0, none⟩ (.string x'.n)).setCell ⟨wr.heap.size, 1, none⟩ (.slice x'.ta x'.tl.length x'.tc)).setCell ⟨wr.heap.size, 2, none⟩ (.slice x'.na x'.nl.length x'.nc) = w4 := ⟨_, rfl⟩; rw [hw4] at c0 c1 c2 M4 T4; have HS4 : Hid _ := HS.out.zL M4; have HT4 : Hid (cG W2.heap.size w4 x') := T4; have HLk : Hid ((gK (b.now + n) x).Like x') := hl; have HDk : Hid (x'.bs.Nodup) := hd; have hxl : x'.tl.length <= 1048576 := by rw [← hl.t]; exact (AG (b.now + n) hxf).tn
    have hsz4 := M4.size; clear rk r4 bK T4 M3 ht hl hd Y3; gi_wp2_with fail
    clear hw4 k0 k1 k2 kf
    by_cases hz : x'.tl = []
    · have hl0 : x'.tl.length = 0 := by rw [hz]; rfl
      have HZ : Hid ((gK (b.now + n) x).tl = []) := by rw [Hid, HLk.out.t]; exact hz
      rw [hl0] at c1; clear hz hl0 hxl; go_wp2_with fail
      go_roundw
      case rel => exact ⟨d0 ++ [x], rs, dn, _, HMN, rfl, by simp, HS4.out.skip HZ.out⟩
      case measure => simp [intOf]; omega
    · have hpos : 0 < x'.tl.length := List.length_pos_iff.2 hz
      have hgt : decide ((0 : Int) < (x'.tl.length : Int)) = true := by simp; omega
      have HZ : Hid ((gK (b.now + n) x).tl ≠ []) := by rw [Hid, HLk.out.t]; exact hz
      clear hz
      go_wp2_with (at_builtin; refine wpList_append_own _ rfl (.tmp 52) (.tmp 54) 27 rfl Wn.heap.size 42 j0 _ 3 64 Tryz.underlying27 hih hy0 hy1 hy2 rfl (by decide) _ dn.length (aQ Hx.cells dn) rfl (HS4.out.h.alloc _) ⟨w4.heap.size, 0, none⟩ 1 1 x'.cells rfl rfl ?qc1 (jD x') ?qc3 ?qc4 ?qc5 ?_)
      case qc1 =>
       intro j u h; rw [Addr.add_lit, Nat.zero_add]
       match j, h with
       | 0, h => simp [Hx.cells] at h; subst h; exact aK (wnq w4 _) rfl
       | 1, h => simp [Hx.cells] at h; subst h; exact aK (wnq w4 _) rfl
       | 2, h => simp [Hx.cells] at h; subst h; exact aK (wnq w4 _) rfl
      case qc3 => have := HS4.out.len; unfold maxLen; omega
      case qc4 => have := HS4.out.len; omega
      case qc5 => have := HS4.out.n.size; (try simp); omega
      intro v' w6 hown hgr _; have HN : Hid _ := (HS4.out.zL (aA (br _ _) _)).grow (by have := HLk.out; exact this) HZ.out (HT4.out.zL (aA (br _ _) _)) HDk.out HW.out hown hgr; clear hown hgr; go_wp2_with fail
      go_roundw
      case rel => exact ⟨d0 ++ [x], rs, dn ++ [x'], _, HMN, rfl, by simp, HN.out⟩
      case measure => simp [intOf]; omega
  | nil =>
   have hd0 : b.hl = d0 := by simpa using hm.out
   have hge : b.hl.length <= d0.length := by rw [hd0]; exact nlq _
   have ho := jZ Hx.cells_length hS.h; obtain ⟨ah, ch, hv⟩ := bM.slice ho; have HO : Hid (bM 42 3 Hx.cells wr Wn.heap.size (.slice ah dn.length ch) dn) := by rw [hv] at ho; exact ho
   have HCv : Hid (ch <= maxLen) := oE hS.h _ _ _ hv; have P3 := aY HPn.out hS.n; have q2 : wr.cell? ⟨P, 2, none⟩ = some (.slice b.ha b.hl.length b.hc) := aK P3 rfl; have pf : ∀ i, wr.frozen? ⟨P, i, none⟩ = false := fun i => by simp [World.frozen?, P3]
   have HP3 : Hid (wr.heap[P]? = some (O6 ⟨b.now + n, b.fa, b.fl, b.fc, b.ha, b.hl, b.hc⟩ nm i f)) := P3; have HD0 : Hid (b.hl = d0) := hd0; rw [hv]; clear ho P3 hS hm hml hd0 hv; go_wp2_with fail
   go_ret; have hS := HS.out; have P4 := aX HP3.out 2 (.slice ah dn.length ch); have b4 : bC (fun k => k = P) wr (wr.setCell ⟨P, 2, none⟩ (.slice ah dn.length ch)) := (bC.refl (fun k => k = P) wr).set (g := P) rfl _ _
   have hA4 : fS z (wr.setCell ⟨P, 2, none⟩ (.slice ah dn.length ch)) ⟨b.now + n, b.fa, b.fl, b.fc, ah, dn, ch⟩ := by
    refine fS.butPage (P := P) ⟨(fS.zL HAn.out hS.n).f, HO.out.weak (by omega), fun x hx => (hS.t x hx).weak (by omega), hS.d, HCv.out, (fS.zL HAn.out hS.n).cf⟩ b4 HP3.out
   refine ⟨⟨b.now + n, b.fa, b.fl, b.fc, ah, dn, ch⟩, by rw [HC.out]; rfl, by unfold iS; rw [HC.out]; rfl, rfl, by unfold fX; rw [HC.out, HD0.out]; exact hS.k, ⟨P4, hA4, HI.out.zp⟩, ?_⟩; have hz := HI.out.zp; exact ((HBN.out.wide (S' := fun k => z <= k) (fun k hk => by rw [hk]; exact hz)).trans (bC.below hS.n)).trans (b4.wide (fun k hk => by rw [hk]; exact hz))
theorem DK (v : Value) (w : World) : (Instr.typeAssert (.iface 125 v) 71 181 true).run Tryz.prog w = .ok (.tuple #[.nilIface, .bool false]) w := run_typeAssert_lacksB Tryz.underlying181 (by kernel_rfl) (by kernel_rfl) v _ w
def GU : Value := .agg #[.string ByteArray.empty, .int .i64 0, .int .i64 0, .int .i64 0, .int .i64 0, .int .i64 0, .slice none 0 0, .slice none 0 0]
def FX : Value := .agg #[.string ByteArray.empty, .slice none 0 0]
def PD : Value := .agg #[.string ByteArray.empty, .bool false]
def QU : Value := .agg #[.int .i64 0]
theorem BX (v : Value) (w : World) : (Instr.typeAssert (.iface 125 v) 71 119 true).run Tryz.prog w = .ok (.tuple #[GU, .bool false]) w := by kernel_rfl
theorem zE (v : Value) (w : World) : (Instr.typeAssert (.iface 125 v) 71 121 true).run Tryz.prog w = .ok (.tuple #[FX, .bool false]) w := by kernel_rfl
theorem AV (v : Value) (w : World) : (Instr.typeAssert (.iface 125 v) 71 123 true).run Tryz.prog w = .ok (.tuple #[PD, .bool false]) w := by kernel_rfl
theorem LI (v : Value) (w : World) : (Instr.typeAssert (.iface 125 v) 71 125 true).run Tryz.prog w = .ok (.tuple #[v, .bool true]) w := by kernel_rfl
theorem DI (n : Int) (w : World) :
 Calls Tryz.prog 66 #[.iface 125 (.agg #[.int .i64 n])] w fun e w' => e = .returned (.string ⟨#[]⟩) /\ w' = w := by
 have h0 := DK
 go_enter Tryz.func66, Tryz.ntmps66
 go_wp2
 go_ret; exact ⟨rfl, rfl⟩
theorem LV (z P : Nat) (b : Bk) (nm : ByteArray) (i : Nat) (f : Bool) (n : Int) (w : World) (hI : iP z P w b nm i f) (hzw : z <= w.heap.size) (hft : ∀ h ∈ b.hl, h.Fit) (hnh : b.hl.length <= 64) (hn0 : 0 <= b.now) (hn1 : b.now <= 10000) :
 Calls Tryz.prog 68 #[.pointer (some ⟨P, 0, none⟩), .iface 125 (.agg #[.int .i64 n])] w fun e w' => ∃ b'' : Bk, e = .returned (lE (cQ b n)) /\ b''.now = iS b n /\ b''.fl = b.fl /\ aI (fX b n) b''.hl /\ iP z P w' b'' nm i f /\ bC (fun k => z <= k) w w' := by
 have hB : Below w.heap.size w (w.alloc (.cells #[.int .i64 n] 125)) := aA (br _ _) _; have c0 : (w.alloc (.cells #[.int .i64 n] 125)).cell? ⟨w.heap.size, 0, none⟩ = some (.int .i64 n) := aK (wnq w _) rfl; obtain ⟨W, hW⟩ : ∃ W, w.alloc (.cells #[.int .i64 n] 125) = W := ⟨_, rfl⟩; rw [hW] at hB c0; have hs := hB.size; have h0 := BX; have h1 := zE; have h2 := AV; have h3 := LI
 go_enter Tryz.func68, Tryz.ntmps68
 go_wp2_with fail
 refine (NL z P b nm i f n W (hI.zL hB) (by omega) hft hnh hn0 hn1).mono ?_; rintro e w1 ⟨b'', rfl, e1, e2, e3, hI1, hb1⟩; go_wp2_with fail
 go_ret; exact ⟨b'', rfl, e1, e2, e3, hI1, (bC.below hB).trans hb1⟩
def QT (nm : ByteArray) (tl : List Bx) (b' : Bk) (i : Nat) (f : Bool) (b'' : Bk) (c : Int) : Prop := c = gW b' nm i f tl /\ b''.now = b'.now /\ b''.fl = b'.fl /\ aI (i9 b' nm i f tl) b''.hl
theorem LD {b : Bk} (h : aS b = true) : jV Hx.n b.hl = true := by
 simp only [aS, iH, bP, bat] at h; exact h.2.2.2.1.2
theorem iR {b : Bk} (h : aS b = true) : b.hl.length <= 16 := by
 simp only [aS, gL, bat, dte] at h; exact h.2.2.1
def mV (b : Bk) (C nw : Int) (L : List Hx) (z : Nat) (v : Value) (w' : World) : Prop :=
 (aS b = false /\ v = .tuple #[Bk.val ⟨0, none, [], 0, none, [], 0⟩, .int .i64 1]) ∨ (aS b = true /\ ∃ b'' : Bk, v = .tuple #[b''.val, .int .i64 C] /\ b''.now = nw /\ b''.fl = b.fl /\ aI L b''.hl /\ fS z w' b'')
def pZ (b : Bk) (nw : Int) (L : List Hx) (z : Nat) (v : Value) (w' : World) : Prop :=
 (aS b = false /\ v = Bk.val ⟨0, none, [], 0, none, [], 0⟩) ∨ (aS b = true /\ ∃ b'' : Bk, v = b''.val /\ b''.now = nw /\ b''.fl = b.fl /\ aI L b''.hl /\ fS z w' b'')
theorem mV.zL {b : Bk} {C nw : Int} {L : List Hx} {z : Nat} {v : Value} {w w' : World} (h : mV b C nw L z v w) (hb : Below w.heap.size w w') : mV b C nw L z v w' := by
 rcases h with h | ⟨h1, b'', h2, h3, h4, h5, h6⟩
 · exact .inl h
 · exact .inr ⟨h1, b'', h2, h3, h4, h5, h6.zL hb⟩
theorem mV.weak {b : Bk} {C nw : Int} {L : List Hx} {z z' : Nat} {v : Value} {w : World} (h : mV b C nw L z v w) (hz : z' <= z) : mV b C nw L z' v w := by
 rcases h with h | ⟨h1, b'', h2, h3, h4, h5, h6⟩
 · exact .inl h
 · exact .inr ⟨h1, b'', h2, h3, h4, h5, h6.weak hz⟩
theorem pZ.zL {b : Bk} {nw : Int} {L : List Hx} {z : Nat} {v : Value} {w w' : World} (h : pZ b nw L z v w) (hb : Below w.heap.size w w') : pZ b nw L z v w' := by
 rcases h with h | ⟨h1, b'', h2, h3, h4, h5, h6⟩
 · exact .inl h
 · exact .inr ⟨h1, b'', h2, h3, h4, h5, h6.zL hb⟩
theorem NZ {b : Bk} {nm : ByteArray} {R : Bk -> Nat -> Bool -> Bk -> Int -> Prop} {C nw : Int} {L : List Hx} {z : Nat} {e : Ending} {w' : World} (hR : ∀ b' i f b'' c, aS b = true -> lF b nm b' i f -> R b' i f b'' c -> c = C /\ b''.now = nw /\ b''.fl = b.fl /\ aI L b''.hl) (h : GQ b nm R z e w') : ∃ v, e = .returned v /\ mV b C nw L z v w' := by
 rcases h with ⟨hbk, e⟩ | ⟨hbk, b', i, f, b'', c, h1, h2, e, h3⟩
 · exact ⟨_, e, .inl ⟨hbk, rfl⟩⟩
 · obtain ⟨rfl, q1, q2, q3⟩ := hR b' i f b'' c hbk h1 h2
   exact ⟨_, e, .inr ⟨hbk, b'', rfl, q1, q2, q3, h3⟩⟩
def LH (b : Bk) (nm : ByteArray) (ev : Value) (T : Nat) (C nw : Int) (L : List Hx) (Z : Nat) (j : Nat) (v : Value) (w : World) : Prop :=
 match j with
 | 0 => v = b.val
 | 1 => v = ev
 | 2 => v = .string nm
 | 3 => v = .func (.func 67) #[] #[.pointer (some ⟨T, 0, none⟩)]
 | 4 => mV b C nw L Z v w
 | 5 => pZ b nw L Z v w
 | 6 => v = .int .i64 (if aS b then C else 1)
 | _ => True
theorem LH.zL {b : Bk} {nm : ByteArray} {ev : Value} {T : Nat} {C nw : Int} {L : List Hx} {Z : Nat} (j : Nat) (v : Value) (w w' : World) (h : LH b nm ev T C nw L Z j v w) (hb : Below w.heap.size w w') : LH b nm ev T C nw L Z j v w' := by
 unfold LH at h ⊢
 split
 all_goals first
  | exact h
  | exact mV.zL h hb
  | exact pZ.zL h hb
  | trivial
theorem gZ (ev : Value) (hev : (∃ et eu, ev = .iface et eu) ∨ ev = .nilIface) (b : Bk) (nm : ByteArray) (R : Bk -> Nat -> Bool -> Bk -> Int -> Prop) (C nw : Int) (L : List Hx) (w : World) (hL : oI w) (hf : Xs 3 Fx.cells w b.fa b.fl) (hnf : b.fl.length <= 1048576) (hcf : b.fl.length <= b.fc) (hcf2 : b.fc <= 9223372036854775807) (hsf : ∀ f ∈ b.fl, f.n.size <= 9223372036854775807) (hh : Xs 3 Hx.cells w b.ha b.hl) (hnh : b.hl.length <= 1048576) (hg : ∀ h ∈ b.hl, h.In w /\ h.Fit)
 (hNm : ∀ W, Below w.heap.size w W -> Calls Tryz.prog 66 #[ev] W fun e w' => e = .returned (.string nm) /\ Below W.heap.size W w')
 (hCh : ∀ T W, Below w.heap.size w W -> W.cell? ⟨T, 0, none⟩ = some ev -> l3 67 #[.pointer (some ⟨T, 0, none⟩)] b nm R W)
 (hR : ∀ b' i f b'' c, aS b = true -> lF b nm b' i f -> R b' i f b'' c -> c = C /\ b''.now = nw /\ b''.fl = b.fl /\ aI L b''.hl) :
 Calls Tryz.prog 26 #[b.val, ev] w fun e w' => (∃ v, e = .returned v /\ mV b C nw L w.heap.size v w') /\ Below w.heap.size w w' := by
 obtain ⟨o, ho⟩ : ∃ o, o = Obj.cells #[ev] 71 := ⟨_, rfl⟩; have N0 : Below w.heap.size w (((w.alloc b.obj).alloc o).alloc (.cells #[.int .i64 0, .slice none 0 0, .slice none 0 0] 29)) := aA (aA (aA (br _ _) _) _) _; have A0 := (halq ((w.alloc b.obj).alloc o) (.cells #[.int .i64 0, .slice none 0 0, .slice none 0 0] 29) w.heap.size (by simp; omega)).trans ((halq (w.alloc b.obj) o w.heap.size (by simp)).trans (wnq w b.obj)); have T0 := (halq ((w.alloc b.obj).alloc o) (.cells #[.int .i64 0, .slice none 0 0, .slice none 0 0] 29) (w.alloc b.obj).heap.size (by simp)).trans (wnq (w.alloc b.obj) o); have R0 := wnq ((w.alloc b.obj).alloc o) (.cells #[.int .i64 0, .slice none 0 0, .slice none 0 0] 29); simp only [wsa] at T0 R0
 rcases hev with ⟨et, eu, rfl⟩ | rfl
 all_goals go_enter Tryz.func26, Tryz.ntmps26
 all_goals go_wp2_with fail
 all_goals rw [← ho]
 rotate_left
 generalize Value.nilIface = ev at *
 rotate_left
 generalize Value.iface et eu = ev at *
 all_goals
  obtain ⟨W0, hW0⟩ : ∃ W0, ((w.alloc b.obj).alloc o).alloc (.cells #[.int .i64 0, .slice none 0 0, .slice none 0 0] 29) = W0 := ⟨_, rfl⟩; rw [hW0] at N0 A0 T0 R0 ⊢; rw [ho] at T0; have hz1 : w.heap.size + 1 + 1 < W0.heap.size := (bH R0); obtain ⟨k0, k1, k2⟩ := aJ A0; have t0 : W0.cell? ⟨w.heap.size + 1, 0, none⟩ = some ev := aK T0 rfl; have HR0 : Hid _ := R0; clear hW0 A0 T0 R0; refine wpIn_wide.1 (aP (F := Fence.wide) (n := 0) (by kernel_rfl) 7 [some 6, some 7, some 8, some 9, some 10, some 11, some 12] (by decide) (LH b nm ev (w.heap.size + 1) C nw L W0.heap.size) LH.zL (by kernel_rfl) (by kernel_rfl) (by kernel_rfl) ?step ?fin)
  case step =>
   intro ii o vs w' hi' ho hB hd
   match ii, hi' with
   | 0, _ =>
    simp at ho; subst ho; have k0' := (hB.cell (aB k0)).trans k0; have k1' := (hB.cell (aB k1)).trans k1; have k2' := (hB.cell (aB k2)).trans k2; simp only [aE, Act.put]; gi_wp2; exact ⟨_, by simp [aH], rfl, br _ _⟩
   | 1, _ =>
    simp at ho; subst ho; have t0' := (hB.cell (aB t0)).trans t0; simp only [aE, Act.put]; gi_wp2; exact ⟨_, by simp [aH], rfl, br _ _⟩
   | 2, _ =>
    simp at ho; subst ho; have d1 : vs 1 = _ := Zq hd 1; simp only [aE, Act.put]; rw [d1]; gi_wp2_with fail
    refine ⟨trivial, rfl, ?_⟩; refine (cw.2 (hNm w' (aD N0 hB))).mono ?_; rintro e w5 ⟨rfl, hb5⟩; gi_wp2; exact ⟨_, by simp [aH, d1], rfl, hb5⟩
   | 3, _ =>
    simp at ho; subst ho; simp only [aE, Act.put]; gi_wp2; exact ⟨_, by simp [aH], rfl, br _ _⟩
   | 4, _ =>
    simp at ho; subst ho; have d0 : vs 0 = _ := Zq hd 0; have d2 : vs 2 = _ := Zq hd 2; have d3 : vs 3 = _ := Zq hd 3; simp only [aE, Act.put]; rw [d0, d2, d3]; gi_wp2_with fail
    refine ⟨trivial, rfl, ?_⟩; refine (cw.2 (DE (.pointer (some ⟨w.heap.size + 1, 0, none⟩)) b nm R w' (hCh _ w' (aD N0 hB) ((hB.cell (aB t0)).trans t0)) (hL.zL (aD N0 hB)) (hf.zL (aD N0 hB)) hnf hcf hcf2 hsf (hh.zL (aD N0 hB)) hnh (fun h m => ⟨(hg h m).1.zL (aD N0 hB), (hg h m).2⟩))).mono ?_; rintro e w5 ⟨hC5, hb5⟩; obtain ⟨v5, rfl, hT5⟩ := NZ (C := C) (nw := nw) (L := L) (fun b' i f b'' c h1 h2 h3 => hR b' i f b'' c h1 h2 h3) hC5; have HT5 : Hid _ := hT5.weak (z' := W0.heap.size) hB.size; clear hT5 hC5; gi_wp2; exact ⟨_, by simp [aH, d0, d2, d3], HT5.out, hb5⟩
   | 5, _ =>
    simp at ho; subst ho; have hT4 : mV b C nw L W0.heap.size (vs 4) w' := Zq hd 4
    rcases hT4 with ⟨hbk, d4⟩ | ⟨hbk, b'', d4, e1, e2, e3, e4⟩
    · have HB : Hid _ := hbk
      clear hbk; simp only [aE, Act.put]; rw [d4]; gi_wp2; exact ⟨_, by simp [aH, d4], .inl ⟨HB.out, rfl⟩, br _ _⟩
    have HB : Hid _ := hbk; have HP : Hid (b''.now = nw /\ b''.fl = b.fl /\ aI L b''.hl /\ fS W0.heap.size w' b'') := ⟨e1, e2, e3, e4⟩; clear hbk e1 e2 e3 e4; simp only [aE, Act.put]; rw [d4]; gi_wp2; exact ⟨_, by simp [aH, d4], .inr ⟨HB.out, b'', rfl, HP.out⟩, br _ _⟩
   | 6, _ =>
    simp at ho; subst ho; have hT4 : mV b C nw L W0.heap.size (vs 4) w' := Zq hd 4
    rcases hT4 with ⟨hbk, d4⟩ | ⟨hbk, b'', d4, e1, e2, e3, e4⟩
    · have HB : Hid _ := hbk
      clear hbk; simp only [aE, Act.put]; rw [d4]; gi_wp2; exact ⟨.int .i64 1, by simp [aH, d4], by unfold LH; rw [HB.out]; rfl, br _ _⟩
    have HB : Hid _ := hbk; clear hbk e1 e2 e3 e4; simp only [aE, Act.put]; rw [d4]; gi_wp2; exact ⟨.int .i64 C, by simp [aH, d4], by unfold LH; rw [HB.out]; rfl, br _ _⟩
   | q + 7, h => exact absurd h (by omega)
  case fin =>
   intro vs w1 hB hp; have d5 : pZ b nw L W0.heap.size (vs 5) w1 := hp 5 (by decide); have d6 : vs 6 = .int .i64 (if aS b then C else 1) := hp 6 (by decide); have N1 := aD N0 hB; have R1 := aY HR0.out hB; have hs1 := hB.size; obtain ⟨r0, r1, r2⟩ := aJ R1; have rf : ∀ i, w1.frozen? ⟨w.heap.size + 1 + 1, i, none⟩ = false := fun i => by simp [World.frozen?, R1]
   have hS : ∀ u v x : Value, bC (fun k => k = w.heap.size + 1 + 1) w1 (((w1.setCell ⟨w.heap.size + 1 + 1, 0, none⟩ u).setCell ⟨w.heap.size + 1 + 1, 1, none⟩ v).setCell ⟨w.heap.size + 1 + 1, 2, none⟩ x) := fun u v x => (((bC.refl (fun k => k = w.heap.size + 1 + 1) w1).set (g := w.heap.size + 1 + 1) rfl _ _).set (g := w.heap.size + 1 + 1) rfl _ _).set (g := w.heap.size + 1 + 1) rfl _ _; have hN6 := fun u v x => (hS u v x).under N1 (nlq _) (fun k hk => by rw [hk]; omega); clear hp hB R1 k0 k1 k2 t0 hNm hCh hR; simp only [lds, List.drop_zero, aE, Act.put]; rw [d6]; clear d6; generalize vs 0 = v0; generalize vs 1 = v1; generalize vs 2 = v2; generalize vs 3 = v3; generalize vs 4 = v4
   rcases d5 with ⟨hbk, d5⟩ | ⟨hbk, b'', d5, e1, e2, e3, e4⟩
   · have HB : Hid _ := hbk
     rw [d5, hbk]; clear d5 hbk; gi_wp2_with fail
     go_wp2_with fail
     exact bpr (v := .tuple #[Bk.val ⟨0, none, [], 0, none, [], 0⟩, .int .i64 1]) (by simp [results, Tryz.results26, go_sem, r0, r1, r2]) rfl ⟨⟨_, rfl, .inl ⟨HB.out, rfl⟩⟩, hN6 _ _ _⟩
   · have HB : Hid _ := hbk
     have HP : Hid (b''.now = nw /\ b''.fl = b.fl /\ aI L b''.hl) := ⟨e1, e2, e3⟩; rw [d5, hbk]; clear d5 hbk e1 e2 e3; gi_wp2_with fail
     go_wp2_with fail
     exact bpr (v := .tuple #[b''.val, .int .i64 C]) (by simp [results, Tryz.results26, go_sem, r0, r1, r2]) rfl ⟨⟨_, rfl, .inr ⟨HB.out, b'', rfl, HP.out.1, HP.out.2.1, HP.out.2.2, (e4.but (hS _ _ _) (fun k hk => by rw [hk]; omega)).weak (by omega)⟩⟩, hN6 _ _ _⟩
def PF (n : Int) (b' : Bk) (_ : Nat) (_ : Bool) (b'' : Bk) (c : Int) : Prop := c = cQ b' n /\ b''.now = iS b' n /\ b''.fl = b'.fl /\ aI (fX b' n) b''.hl
theorem z9 {b : Bk} (h : aS b = true) : 0 <= b.now /\ b.now <= 10000 := by
 simp only [aS, bat] at h; have h1 := h.1; simp only [rP, dte] at h1; exact h1
theorem KJ (n : Int) (T : Nat) (b : Bk) (nm : ByteArray) (w : World) (hT : w.cell? ⟨T, 0, none⟩ = some (.iface 125 (.agg #[.int .i64 n]))) (hft : ∀ h ∈ b.hl, h.Fit) :
 l3 67 #[.pointer (some ⟨T, 0, none⟩)] b nm (PF n) w := by
 intro b' i f P z W hbk hpg hz hzW hI hN; have c0 : W.cell? ⟨T, 0, none⟩ = some (.iface 125 (.agg #[.int .i64 n])) := (hN.cell (aB hT)).trans hT; have h16 := iR hbk; have hnow := z9 hbk; have HBK : Hid _ := hbk; clear hbk
 show Calls Tryz.prog 67 #[.pointer (some ⟨P, 0, none⟩), .pointer (some ⟨T, 0, none⟩)] W _
 go_enter Tryz.func67, Tryz.ntmps67
 go_wp2_with fail
 refine (LV z P b' nm i f n W hI hzW (hpg.lk.fit hft) (by rw [hpg.lk.len]; omega) (by rw [hpg.now]; exact hnow.1) (by rw [hpg.now]; exact hnow.2)).mono ?_; rintro e w1 ⟨b'', rfl, e1, e2, e3, hI1, hb1⟩; go_wp2
 go_ret; exact ⟨_, _, rfl, ⟨rfl, e1, e2, e3⟩, hI1, hb1⟩
theorem vF {l m : List Hx} (frm : Int) (h : aI l m) : iQ frm l = iQ frm m := by
 unfold iQ; rw [h.map (gK frm) (fun a c g => by unfold gK; rw [g.n, g.t, g.x])]
theorem xO {b b' : Bk} (n : Int) (hn : b'.now = b.now) (h : aI b.hl b'.hl) : cQ b' n = cQ b n /\ iS b' n = iS b n /\ aI (fX b n) (fX b' n) := by
 have ec : cQ b' n = cQ b n := by unfold cQ; rw [hn]
 refine ⟨ec, by unfold iS; rw [ec, hn], ?_⟩; unfold fX; rw [ec, hn, vF _ h]
 split
 · exact aI.refl _
 · exact h
end Go.Proofs.YtiojdbffjdoniaaGreatDoor
