import Derived.Test.YtiojdbffjdoniaaGreatDoorDq
import Derived.Test.YtiojdbffjdoniaaGreatDoorCut
namespace Go.Proofs.YtiojdbffjdoniaaGreatDoor
set_option maxRecDepth 100000
set_option maxHeartbeats 4000000
open Go.RowKit Go.Shelf
attribute [local go_sem] Oper.semAt_some
def eO (frm : Int) (x : Hx) : Hx := if aQ frm x.tl = [] then ⟨x.n, none, aQ frm x.nl, 0, none, [], 0⟩ else ⟨x.n, none, aQ frm x.tl, 0, none, aQ frm x.nl, 0⟩
def F8 (H : Nat) (x : Hx) (frm : Int) (Z : Nat) (j : Nat) (vs : Nat -> Value) (w : World) : Prop :=
 match j with
 | 0 => vs 0 = .pointer (some ⟨H, 1, none⟩)
 | 1 => vs 1 = .slice x.ta x.tl.length x.tc
 | 2 => vs 2 = .int .i64 frm
 | 3 => aG w Z (vs 3) (aQ frm x.tl)
 | 4 => vs 4 = .pointer (some ⟨H, 2, none⟩)
 | 5 => vs 5 = .slice x.na x.nl.length x.nc
 | 6 => vs 6 = .int .i64 frm
 | 7 => aG w Z (vs 7) (aQ frm x.nl) /\ ∀ q, (vs 3).ownBlock = some q -> (vs 7).ownBlock ≠ some q
 | 8 => vs 8 = .pointer (some ⟨H, 1, none⟩)
 | _ => True
def RJ (j : Nat) : List Nat := if j = 7 then [7, 3] else [j]
def SH (_ : Nat) : Bool := false
def SE (_ : Nat) (_ : Value) : Prop := True
theorem F8.zL {H : Nat} {x : Hx} {frm : Int} {Z : Nat} (j : Nat) (vs : Nat -> Value) (w w' : World) (h : F8 H x frm Z j vs w) (hb : Below w.heap.size w w') : F8 H x frm Z j vs w' := by
 unfold F8 at h ⊢
 split
 all_goals first
  | exact h
  | exact aG.zL h hb
  | exact ⟨aG.zL h.1 hb, h.2⟩
  | trivial
theorem F8.loc {H : Nat} {x : Hx} {frm : Int} {Z : Nat} (j : Nat) (vs vs' : Nat -> Value) (w : World) (he : ∀ q ∈ RJ j, vs q = vs' q) (h : F8 H x frm Z j vs w) : F8 H x frm Z j vs' w := by
 unfold F8 at h ⊢
 split at h
 all_goals first
  | (rw [← he _ (by simp [RJ])];exact h)
  | (rw [← he 7 (by simp [RJ]), ← he 3 (by simp [RJ])];exact h)
  | trivial
theorem F8.free {H : Nat} {x : Hx} {frm : Int} {Z : Nat} (j : Nat) (vs : Nat -> Value) (w : World) (_ : SH j = true) (_ : F8 H x frm Z j vs w) : SE j (vs j) := trivial
def SK (W0 : World) (H : Nat) (x : Hx) (frm : Int) (vs : Nat -> Value) (w' : World) : Prop :=
 Below W0.heap.size W0 w' /\ aG w' W0.heap.size (vs 3) (aQ frm x.tl) /\ aG w' W0.heap.size (vs 7) (aQ frm x.nl) /\ (∀ q, (vs 3).ownBlock = some q -> (vs 7).ownBlock ≠ some q) /\ vs 8 = .pointer (some ⟨H, 1, none⟩)
def G8 (W0 : World) (H : Nat) (x : Hx) (frm : Int) (t : Nat) (vs : Nat -> Value) (w' : World) : Prop :=
 ∃ w0, SK W0 H x frm vs w0 /\ w' = if t = 10 then w0.setCell ⟨H, 1, none⟩ (vs 3) else w0
theorem BV (x : Hx) (frm : Int) (w : World) (hx : x.In w) (hf : x.Fit) :
 Calls Tryz.prog 161 #[x.val, .int .i64 frm] w fun e w' => (∃ x' : Hx, e = .returned x'.val /\ (eO frm x).Like x' /\ dC w.heap.size w' x' /\ x'.bs.Nodup) /\ Below w.heap.size w w' := by
 have N0 : Below w.heap.size w ((w.alloc (.cells #[.string x.n, .slice x.ta x.tl.length x.tc, .slice x.na x.nl.length x.nc] 42)).alloc (.cells #[.string ⟨#[]⟩, .slice none 0 0, .slice none 0 0] 42)) := aB (aB (br _ _) _) _;have A0 := (halq (w.alloc (.cells #[.string x.n, .slice x.ta x.tl.length x.tc, .slice x.na x.nl.length x.nc] 42)) (.cells #[.string ⟨#[]⟩, .slice none 0 0, .slice none 0 0] 42) w.heap.size (by simp)).trans (wnq w (.cells #[.string x.n, .slice x.ta x.tl.length x.tc, .slice x.na x.nl.length x.nc] 42));have R0 := wnq (w.alloc (.cells #[.string x.n, .slice x.ta x.tl.length x.tc, .slice x.na x.nl.length x.nc] 42)) (.cells #[.string ⟨#[]⟩, .slice none 0 0, .slice none 0 0] 42);rw [wsa] at R0
 go_enter Tryz.func161, Tryz.ntmps161
 go_wp2_with fail
 obtain ⟨W0, hW0⟩ : ∃ W0, (w.alloc (.cells #[.string x.n, .slice x.ta x.tl.length x.tc, .slice x.na x.nl.length x.nc] 42)).alloc (.cells #[.string ⟨#[]⟩, .slice none 0 0, .slice none 0 0] 42) = W0 := ⟨_, rfl⟩;rw [hW0] at N0 A0 R0 ⊢;have hz1 : w.heap.size + 1 < W0.heap.size := (bP R0);obtain ⟨k0, k1, k2⟩ := aJ A0;have HA0 : Hid _ := A0;have HR0 : Hid _ := R0;clear hW0 A0 R0;refine wpIn_wide.1 (eL (F := Fence.wide) (n := 0) (by kernel_rfl) 4 9 10 [some 5, some 6, some 7, some 8, some 9, some 10, some 11, some 12, some 13] (by decide) (by decide) SH RJ (F8 w.heap.size x frm W0.heap.size) SE (G8 W0 w.heap.size x frm) F8.zL F8.loc F8.free (by kernel_rfl) (by kernel_rfl) (by kernel_rfl) (by kernel_rfl) (by kernel_rfl) ?step ?free ?g0 ?gf ?store ?fin)
 case step =>
  intro ii o vs w' hi' ho hB hd
  match ii, hi' with
  | 0, _ | 2, _ | 4, _ | 6, _ | 8, _ =>
   simp at ho;subst ho;simp only [aE, Act.put];gi_wp2;exact ⟨_, by simp [aI], rfl, br _ _⟩
  | 1, _ =>
   simp at ho;subst ho;have d0 : vs 0 = _ := Zq hd 0;have k1' := (hB.cell (aA k1)).trans k1;simp only [aE, Act.put];rw [d0];gi_wp2;exact ⟨_, by simp [aI, d0], rfl, br _ _⟩
  | 3, _ =>
   simp at ho;subst ho;have d1 : vs 1 = _ := Zq hd 1;have d2 : vs 2 = _ := Zq hd 2;simp only [aE, Act.put];rw [d1, d2];gi_wp2_with fail
   refine ⟨trivial, rfl, ?_⟩;refine (cw.2 (kZ x.tl x.ta x.tc frm w' (hx.1.zL (aD N0 hB)) hf.tn)).mono ?_;rintro e w5 ⟨v5, rfl, hO5, hb5⟩;have HO5 : Hid _ := aG.weak hO5 (base' := W0.heap.size) hB.size;clear hO5;gi_wp2;exact ⟨_, by simp [aI, d1, d2], HO5.out, hb5⟩
  | 5, _ =>
   simp at ho;subst ho;have d4 : vs 4 = _ := Zq hd 4;have k2' := (hB.cell (aA k2)).trans k2;simp only [aE, Act.put];rw [d4];gi_wp2;exact ⟨_, by simp [aI, d4], rfl, br _ _⟩
  | 7, _ =>
   simp at ho;subst ho;have d5 : vs 5 = _ := Zq hd 5;have d6 : vs 6 = _ := Zq hd 6;have h3 : aG w' W0.heap.size (vs 3) (aQ frm x.tl) := hd { on := 3, ground := Ground.chain } (by simp) rfl;have HL3 : Hid (∀ q, (vs 3).ownBlock = some q -> q < w'.heap.size) := fun q hq => h3.blkLt hq;clear h3;simp only [aE, Act.put];rw [d5, d6];gi_wp2_with fail
   refine ⟨trivial, rfl, ?_⟩;refine (cw.2 (kZ x.nl x.na x.nc frm w' (hx.2.zL (aD N0 hB)) hf.nn)).mono ?_;rintro e w5 ⟨v5, rfl, hO5, hb5⟩;have HO5 : Hid _ := aG.weak hO5 (base' := W0.heap.size) hB.size;have HD5 : Hid (∀ q, (vs 3).ownBlock = some q -> v5.ownBlock ≠ some q) := fun q hq hq2 => Nat.lt_irrefl _ (Nat.lt_of_lt_of_le (HL3.out q hq) (aG.blkGe hO5 hq2));clear hO5;gi_wp2;exact ⟨_, by simp [aI, d5, d6], ⟨HO5.out, HD5.out⟩, hb5⟩
  | q + 9, h => exact absurd h (by omega)
 case free =>
  intro i o vs w' t _ hfi
  cases hfi
 case g0 =>
  intro vs w' hB hp;exact ⟨w', ⟨hB, hp 3 (by decide) rfl, (hp 7 (by decide) rfl).1, (hp 7 (by decide) rfl).2, hp 8 (by decide) rfl⟩, rfl⟩
 case gf =>
  intro t vs w' i v hfi
  cases hfi
 case store =>
  intro t o vs w' h12 h15 ho hG hd;obtain rfl : t = 9 := by omega
  obtain ⟨w0, hgb, hw0⟩ := hG;simp at ho;subst ho;rw [if_neg (by decide)] at hw0;subst hw0;have HG : Hid _ := hgb;obtain ⟨hB, h3, _, _, d8⟩ := hgb;obtain ⟨a3, c3, e3, _⟩ := h3.slice;have A1 := bD HA0.out hB;have k1' : w'.cell? ⟨w.heap.size, 1, none⟩ = some (.slice x.ta x.tl.length x.tc) := aH A1 rfl;have kf : ∀ i, w'.frozen? ⟨w.heap.size, i, none⟩ = false := fun i => by simp [World.frozen?, A1]
  clear h3 hB A1;simp only [aE, Act.put];rw [d8, e3];gi_wp2;exact ⟨undef, by simp [aI, d8, e3], w', HG.out, by rw [if_pos rfl];show _ = w'.setCell _ (vs 3);rw [e3]⟩
 case fin =>
  intro vs w1' hG _;obtain ⟨w1, ⟨hB, h3, h7, hd, d8⟩, hw1⟩ := hG;rw [if_pos rfl] at hw1;subst hw1;obtain ⟨a3, c3, e3, _⟩ := h3.slice;obtain ⟨a7, c7, e7, _⟩ := h7.slice;rw [e3, e7] at hd;rw [e3] at h3;rw [e7] at h7;have N1 := aD N0 hB;have A1 := bD HA0.out hB;have R1 := bD HR0.out hB;have hs1 := hB.size;clear k0 k1 k2 hB;have H3 : Hid (aG w1 W0.heap.size (.slice a3 (aQ frm x.tl).length c3) (aQ frm x.tl)) := h3;have H7 : Hid (aG w1 W0.heap.size (.slice a7 (aQ frm x.nl).length c7) (aQ frm x.nl)) := h7;have HD : Hid (∀ q, (Value.slice a3 (aQ frm x.tl).length c3).ownBlock = some q -> (Value.slice a7 (aQ frm x.nl).length c7).ownBlock ≠ some q) := hd;have hl3 := c6 frm x.tl;have hl7 := c6 frm x.nl;have htn := hf.tn;have hnn := hf.nn
  have HBut : Hid (∀ w2, cA (fun k => k = w.heap.size ∨ k = w.heap.size + 1) w1 w2 -> aG w2 w.heap.size (.slice a3 (aQ frm x.tl).length c3) (aQ frm x.tl) /\ aG w2 w.heap.size (.slice a7 (aQ frm x.nl).length c7) (aQ frm x.nl) /\ Below w.heap.size w w2) := fun w2 hb =>
   ⟨aG.weak (aG.but H3.out hb (fun y e hk => by have := H3.out.blkGe (q := y.block) (by rw [H3.out.adr, e];rfl);rcases hk with hk | hk <;> omega)) (by omega), aG.weak (aG.but H7.out hb (fun y e hk => by have := H7.out.blkGe (q := y.block) (by rw [H7.out.adr, e];rfl);rcases hk with hk | hk <;> omega)) (by omega), hb.under N1 (nlq _) (fun k hk => by rcases hk with rfl | rfl <;> omega)⟩
  have rH : w1.rowIs w.heap.size 42 3 (fun i => (#[.string x.n, .slice x.ta x.tl.length x.tc, .slice x.na x.nl.length x.nc] : Array Value).getD i undef) := ⟨_, A1, rfl, fun i hi => by match i, hi with | 0, _ => rfl | 1, _ => rfl | 2, _ => rfl⟩
  have rR : w1.rowIs (w.heap.size + 1) 42 3 (fun i => (#[.string ⟨#[]⟩, .slice none 0 0, .slice none 0 0] : Array Value).getD i undef) := ⟨_, R1, rfl, fun i hi => by match i, hi with | 0, _ => rfl | 1, _ => rfl | 2, _ => rfl⟩
  simp only [lds, List.drop_zero, aE, Act.put];rw [e3, e7, d8];clear e3 e7 d8 h3 h7 hd A1 R1;obtain ⟨la, hla⟩ : ∃ la, (aQ frm x.tl).length = la := ⟨_, rfl⟩;obtain ⟨lb, hlb⟩ : ∃ lb, (aQ frm x.nl).length = lb := ⟨_, rfl⟩;have HLb : Hid ((aQ frm x.nl).length = lb) := hlb;have HLa : Hid ((aQ frm x.tl).length = la) := hla;rw [hla] at hl3 ⊢;rw [hlb] at hl7 ⊢;clear hla hlb;have ra := rH.set 1 (.slice a3 la c3);have rb := ra.set 2 (.slice a7 lb c7);have hn1 : w.heap.size + 1 ≠ w.heap.size := by omega
  have ba : cA (fun k => k = w.heap.size) w1 (w1.setCell ⟨w.heap.size, 1, none⟩ (.slice a3 la c3)) := (cA.refl (fun k => k = w.heap.size) w1).set (g := w.heap.size) rfl _ _;have bb := ba.set (g := w.heap.size) rfl 2 (.slice a7 lb c7);have ca2 : (w1.setCell ⟨w.heap.size, 1, none⟩ (.slice a3 la c3)).cell? ⟨w.heap.size, 2, none⟩ = some (.slice x.na x.nl.length x.nc) := ra.cell (i := 2) (by decide);have caf := fun i => ra.frozen i;obtain ⟨Wa, hWa⟩ : ∃ Wa, w1.setCell ⟨w.heap.size, 1, none⟩ (.slice a3 la c3) = Wa := ⟨_, rfl⟩;rw [hWa] at rb bb ca2 caf ⊢;have cb1 : (Wa.setCell ⟨w.heap.size, 2, none⟩ (.slice a7 lb c7)).cell? ⟨w.heap.size, 1, none⟩ = some (.slice a3 la c3) := rb.cell (i := 1) (by decide);have cb2 : (Wa.setCell ⟨w.heap.size, 2, none⟩ (.slice a7 lb c7)).cell? ⟨w.heap.size, 2, none⟩ = some (.slice a7 lb c7) := rb.cell (i := 2) (by decide);have cb0 : (Wa.setCell ⟨w.heap.size, 2, none⟩ (.slice a7 lb c7)).cell? ⟨w.heap.size, 0, none⟩ = some (.string x.n) := rb.cell (i := 0) (by decide);have cbf := fun i => rb.frozen i;obtain ⟨Wb, hWb⟩ : ∃ Wb, Wa.setCell ⟨w.heap.size, 2, none⟩ (.slice a7 lb c7) = Wb := ⟨_, rfl⟩;rw [hWb] at rb bb cb0 cb1 cb2 cbf;clear ra ba rH;generalize vs 0 = v0;generalize vs 1 = v1;generalize vs 2 = v2;generalize vs 4 = v4;generalize vs 5 = v5;generalize vs 6 = v6
  by_cases hz : aQ frm x.tl = []
  · have HC : Hid (eO frm x = ⟨x.n, none, aQ frm x.nl, 0, none, [], 0⟩) := by
     have : eO frm x = ⟨x.n, none, aQ frm x.nl, 0, none, [], 0⟩ := by unfold eO;rw [if_pos hz]
     exact this
    obtain rfl : la = 0 := by rw [← HLa.out, hz];rfl
    clear hz;have rc := rb.set 1 (.slice a7 lb c7);have bc := bb.set (g := w.heap.size) rfl 1 (.slice a7 lb c7);have cc2 : (Wb.setCell ⟨w.heap.size, 1, none⟩ (.slice a7 lb c7)).cell? ⟨w.heap.size, 2, none⟩ = some (.slice a7 lb c7) := rc.cell (i := 2) (by decide);have ccf := fun i => rc.frozen i;obtain ⟨Wc, hWc⟩ : ∃ Wc, Wb.setCell ⟨w.heap.size, 1, none⟩ (.slice a7 lb c7) = Wc := ⟨_, rfl⟩;rw [hWc] at rc bc cc2 ccf;have rd := rc.set 2 (.slice none 0 0);have bd := bc.set (g := w.heap.size) rfl 2 (.slice none 0 0);have cd0 : (Wc.setCell ⟨w.heap.size, 2, none⟩ (.slice none 0 0)).cell? ⟨w.heap.size, 0, none⟩ = some (.string x.n) := rd.cell (i := 0) (by decide);have cd1 : (Wc.setCell ⟨w.heap.size, 2, none⟩ (.slice none 0 0)).cell? ⟨w.heap.size, 1, none⟩ = some (.slice a7 lb c7) := rd.cell (i := 1) (by decide);have cd2 : (Wc.setCell ⟨w.heap.size, 2, none⟩ (.slice none 0 0)).cell? ⟨w.heap.size, 2, none⟩ = some (.slice none 0 0) := rd.cell (i := 2) (by decide);have rR2 := rR.of_block (bd.block _ rR.lt hn1);have r0 := rR2.cell (i := 0) (by decide);have r1 := rR2.cell (i := 1) (by decide);have r2 := rR2.cell (i := 2) (by decide);have rf := fun i => rR2.frozen i;obtain ⟨Wd, hWd⟩ : ∃ Wd, Wc.setCell ⟨w.heap.size, 2, none⟩ (.slice none 0 0) = Wd := ⟨_, rfl⟩;rw [hWd] at bd cd0 cd1 cd2 r0 r1 r2 rf;clear rb bb rc bc rd rR rR2;have HBd : Hid _ := bd;clear bd;gi_wp2_with fail
    go_wp2_with fail
    exact bpr (v := Hx.val ⟨x.n, a7, aQ frm x.nl, c7, none, [], 0⟩) (by simp [results, Tryz.results161, go_sem, r0, r1, r2, HLb.out]) rfl (by
     obtain ⟨o3, o7, hN⟩ := HBut.out _ ((((HBd.out.wide (S' := fun k => k = w.heap.size ∨ k = w.heap.size + 1) (fun k hk => .inl hk)).set (g := w.heap.size + 1) (.inr rfl) 0 (.string x.n)).set (g := w.heap.size + 1) (.inr rfl) 1 (.slice a7 lb c7)).set (g := w.heap.size + 1) (.inr rfl) 2 (.slice none 0 0))
     exact ⟨⟨_, rfl, by rw [HC.out];exact ⟨rfl, rfl, rfl⟩, ⟨o7, .inl ⟨rfl, rfl⟩⟩, by simp only [Hx.bs, Option.map_none, Option.toList_none, List.append_nil];exact fA _⟩, hN⟩)
  · have HC : Hid (eO frm x = ⟨x.n, none, aQ frm x.tl, 0, none, aQ frm x.nl, 0⟩) := by
     have : eO frm x = ⟨x.n, none, aQ frm x.tl, 0, none, aQ frm x.nl, 0⟩ := by unfold eO;rw [if_neg hz]
     exact this
    have hpos : 0 < la := by rw [← HLa.out];exact List.length_pos_iff.2 hz
    have hz0 : ((la : Int) == 0) = false := beq_false_of_ne (by omega);clear hz;have rR2 := rR.of_block (bb.block _ rR.lt hn1);have r0 := rR2.cell (i := 0) (by decide);have r1 := rR2.cell (i := 1) (by decide);have r2 := rR2.cell (i := 2) (by decide);have rf := fun i => rR2.frozen i;have HBd : Hid _ := bb;clear bb rb rR rR2;gi_wp2_with fail
    go_wp2_with fail
    exact bpr (v := Hx.val ⟨x.n, a3, aQ frm x.tl, c3, a7, aQ frm x.nl, c7⟩) (by simp [results, Tryz.results161, go_sem, r0, r1, r2, HLb.out, HLa.out]) rfl (by
     obtain ⟨o3, o7, hN⟩ := HBut.out _ ((((HBd.out.wide (S' := fun k => k = w.heap.size ∨ k = w.heap.size + 1) (fun k hk => .inl hk)).set (g := w.heap.size + 1) (.inr rfl) 0 (.string x.n)).set (g := w.heap.size + 1) (.inr rfl) 1 (.slice a3 la c3)).set (g := w.heap.size + 1) (.inr rfl) 2 (.slice a7 lb c7));refine ⟨⟨_, rfl, by rw [HC.out];exact ⟨rfl, rfl, rfl⟩, ⟨o3, o7⟩, ?_⟩, hN⟩;have hd := HD.out;rw [H3.out.adr, H7.out.adr] at hd;simp only [Hx.bs];rw [List.nodup_append];refine ⟨fA _, fA _, fun q hq r hr e => ?_⟩;subst e;simp only [Option.mem_toList] at hq hr
     exact hd q hq hr)
set_option maxHeartbeats 8000000
theorem oL : ∀ (l : List Hx) (i : Nat) (x' : Hx) (s r : List Nat) (h : i < l.length), x'.bs = s ++ r -> s.Sublist l[i].bs -> ∃ m, m.Sublist (l.flatMap Hx.bs) /\ ((l.set i x').flatMap Hx.bs).Perm (m ++ r)
 | [], _, _, _, _, h, _, _ => by simp at h
 | a :: q, 0, x', s, r, _, e, hs => by
  refine ⟨s ++ q.flatMap Hx.bs, ?_, ?_⟩
  · simp only [List.flatMap_cons]
    exact List.Sublist.append hs (List.Sublist.refl _)
  · simp only [List.set_cons_zero, List.flatMap_cons, e, List.append_assoc]
    exact List.Perm.append_left s List.perm_append_comm
 | a :: q, i + 1, x', s, r, h, e, hs => by
  obtain ⟨m, h1, h2⟩ := oL q i x' s r (by simpa using h) e (by simpa using hs);refine ⟨a.bs ++ m, ?_, ?_⟩
  · simp only [List.flatMap_cons]
    exact List.Sublist.append (List.Sublist.refl _) h1
  · simp only [List.set_cons_succ, List.flatMap_cons, List.append_assoc]
    exact List.Perm.append_left _ h2
theorem yT (l : List Hx) (i : Nat) (x' : Hx) (s r : List Nat) (h : i < l.length) (e : x'.bs = s ++ r) (hs : s.Sublist l[i].bs) (hd : (l.flatMap Hx.bs).Nodup) (hr : r.Nodup) (hn : ∀ q ∈ r, q ∉ l.flatMap Hx.bs) : ((l.set i x').flatMap Hx.bs).Nodup := by
 obtain ⟨m, h1, h2⟩ := oL l i x' s r h e hs;rw [h2.nodup_iff, List.nodup_append];exact ⟨hd.sublist h1, hr, fun a ha c hc e => hn c hc (e ▸ h1.subset ha)⟩
theorem aL.refl (l : List Hx) : aL l l := ⟨rfl, fun _ _ => ⟨rfl, rfl, rfl⟩⟩
theorem aL.set {l m : List Hx} (h : aL l m) (i : Nat) {a b : Hx} (g : a.Like b) : aL (l.set i a) (m.set i b) := by
 refine ⟨by simp [h.len], fun k hk => ?_⟩
 by_cases e : i = k
 · subst e
   rw [List.getElem_set_self, List.getElem_set_self];exact g
 · rw [List.getElem_set_ne e, List.getElem_set_ne e]
   exact h.like k (by simpa using hk)
def IW (tl : List Bx) (x : Hx) : Hx := ⟨x.n, x.ta, x.tl, x.tc, none, tl, 0⟩
def gP (b : Bk) (nm : ByteArray) (i : Nat) (f : Bool) (tl : List Bx) : Int :=
 if (aK b.fl tl && eE b.now tl) = false then 2 else if f then (match b.hl[i]? with | some x => if x.nl = [] then (if iE nm tl b.hl then 0 else 5) else 7 | none => 6) else 6
def iN (b : Bk) (nm : ByteArray) (i : Nat) (f : Bool) (tl : List Bx) : List Hx := if gP b nm i f tl = 0 then (match b.hl[i]? with | some x => b.hl.set i (IW tl x) | none => b.hl) else b.hl
def A7 (P : Nat) (b : Bk) (nm : ByteArray) (tv : Value) (fr : Bool) (j : Nat) (v : Value) (_w : World) : Prop :=
 match j with
 | 0 => v = .pointer (some ⟨P, 0, none⟩)
 | 1 => v = .pointer (some ⟨P, 0, none⟩)
 | 2 => v = .pointer (some ⟨P, 0, none⟩)
 | 3 => v = b.val
 | 4 => v = .pointer (some ⟨P, 0, none⟩)
 | 5 => v = .pointer (some ⟨P, 0, none⟩)
 | 6 => v = .pointer (some ⟨P, 3, none⟩)
 | 7 => v = .string nm
 | 8 => v = tv
 | 9 => v = .bool fr
 | _ => True
theorem A7.zL {P : Nat} {b : Bk} {nm : ByteArray} {tv : Value} {fr : Bool} (j : Nat) (v : Value) (w w' : World) (h : A7 P b nm tv fr j v w) (_ : Below w.heap.size w w') : A7 P b nm tv fr j v w' := h
def A9 (P : Nat) (b : Bk) (g i : Nat) (tv : Value) (Z : Nat) (tl : List Bx) (j : Nat) (v : Value) (w : World) : Prop :=
 match j with
 | 0 => v = .pointer (some ⟨P, 0, none⟩)
 | 1 => v = .pointer (some ⟨P, 0, none⟩)
 | 2 => v = .pointer (some ⟨P, 0, none⟩)
 | 3 => v = .pointer (some ⟨P, 2, none⟩)
 | 4 => v = .slice (some ⟨g, 0, none⟩) b.hl.length b.hc
 | 5 => v = .pointer (some ⟨P, 0, none⟩)
 | 6 => v = .pointer (some ⟨P, 0, none⟩)
 | 7 => v = .pointer (some ⟨P, 4, none⟩)
 | 8 => v = .int .i64 (i : Int)
 | 9 => v = tv
 | 10 => aG w Z v tl
 | _ => True
theorem A9.zL {P : Nat} {b : Bk} {g i : Nat} {tv : Value} {Z : Nat} {tl : List Bx} (j : Nat) (v : Value) (w w' : World) (h : A9 P b g i tv Z tl j v w) (hb : Below w.heap.size w w') : A9 P b g i tv Z tl j v w' := by
 unfold A9 at h ⊢
 split
 all_goals first
  | exact h
  | exact aG.zL h hb
  | trivial
theorem I1 (z P : Nat) (b : Bk) (nm : ByteArray) (i : Nat) (f : Bool) (tl : List Bx) (ta : Option Addr) (tc : Nat) (w : World) (hI : iV z P w b nm i f) (hzw : z <= w.heap.size) (hfi : f = true -> i < b.hl.length) (hft : ∀ h ∈ b.hl, h.Fit) (hnf : b.fl.length <= 1048576) (hnh : b.hl.length <= 64) (ht : iH w ta tl) (hnt : tl.length <= 1048576) :
 Calls Tryz.prog 118 #[.pointer (some ⟨P, 0, none⟩), .slice ta tl.length tc] w fun e w' => ∃ b'' : Bk, e = .returned (lF (gP b nm i f tl)) /\ b''.now = b.now /\ b''.fl = b.fl /\ aL (iN b nm i f tl) b''.hl /\ iV z P w' b'' nm i f /\ cA (fun k => z <= k) w w' := by
 have p0 : w.cell? ⟨P, 0, none⟩ = some (.int .i64 b.now) := aH hI.p rfl;have p1 : w.cell? ⟨P, 1, none⟩ = some (.slice b.fa b.fl.length b.fc) := aH hI.p rfl;have p2 : w.cell? ⟨P, 2, none⟩ = some (.slice b.ha b.hl.length b.hc) := aH hI.p rfl;have HI : Hid _ := hI;have HFt : Hid _ := hft;clear hI hft
 go_enter Tryz.func118, Tryz.ntmps118
 go_wp2_with fail
 refine (qS b tl ta tc w HI.out.a.ans.fs hnf ht hnt).mono ?_;rintro e w1 ⟨rfl, hb1⟩;obtain ⟨v1, hv1⟩ : ∃ v, (aK b.fl tl && eE b.now tl) = v := ⟨_, rfl⟩;rw [hv1];have HV1 : Hid _ := hv1;have NN := hb1;clear hb1 hv1 p0 p1 p2
 cases v1 with
 | false =>
  go_wp2_with fail
  go_ret;have HC : gP b nm i f tl = 2 := by unfold gP;rw [HV1.out];rfl
  have HL : iN b nm i f tl = b.hl := by unfold iN;rw [HC];rfl
  rw [HC];exact ⟨b, rfl, rfl, rfl, by rw [HL];exact aL.refl _, HI.out.zL NN, cA.below NN⟩
 | true =>
 have P1 := bD HI.out.p NN;obtain ⟨p0, p1, p2, p3, p4, p5⟩ := nN P1;clear P1
 cases f with
 | false =>
  go_wp2_with fail
  go_ret;have HC : gP b nm i false tl = 6 := by unfold gP;rw [HV1.out];rfl
  have HL : iN b nm i false tl = b.hl := by unfold iN;rw [HC];rfl
  rw [HC];exact ⟨b, rfl, rfl, rfl, by rw [HL];exact aL.refl _, HI.out.zL NN, cA.below NN⟩
 | true =>
 have hi := hfi rfl;obtain ⟨x, hx⟩ : ∃ x, x = b.hl[i] := ⟨_, rfl⟩;have hxi : b.hl[i]? = some x := by rw [hx];exact lge hi
 have hxf := HFt.out x (by rw [hx];exact lgm hi);obtain ⟨g, ha, hgz, hcap, fv, hrow, hf⟩ := HI.out.a.held hi;rw [ha] at p2;have hrw1 := hrow.of_block (NN.block _ hrow.lt);have e2 := hrw1.cell (i := i * 3 + 2) (by omega);rw [show fv (i * 3 + 2) = .slice x.na x.nl.length x.nc from by rw [hx];exact hf i hi hi 2 _ rfl] at e2
 have hPg : P ≠ g := fun e => by
  subst e;obtain ⟨cs, hcs, _⟩ := hrow;rw [HI.out.p] at hcs
  cases hcs
 have hnn := hxf.nn;have HX : Hid (x = b.hl[i]) := hx;have HXi : Hid _ := hxi;have HR : Hid (w.rowIs g 42 (b.hc * 3) fv) := hrow;have HF : Hid _ := hf;have HA : Hid _ := ha;clear hf hx hxi hrow hrw1 ha
 cases hnl : x.nl with
 | cons y ys =>
  have hlen : 0 < x.nl.length := by rw [hnl];simp
  have HC : Hid (gP b nm i true tl = 7) := by
   have : gP b nm i true tl = 7 := by unfold gP;rw [HV1.out, HXi.out];simp [hnl]
   exact this
  have hgt : decide ((0 : Int) < (x.nl.length : Int)) = true := by simp;omega
  clear hnl;go_wp2_with fail
  go_quiet (fail)
  go_wp2_with fail
  go_ret;have HL : iN b nm i true tl = b.hl := by unfold iN;rw [HC.out];rfl
  rw [HC.out];exact ⟨b, rfl, rfl, rfl, by rw [HL];exact aL.refl _, HI.out.zL (aD NN (kN _ _)), cA.below (aD NN (kN _ _))⟩
 | nil =>
 have HNl : Hid (x.nl = []) := hnl;rw [hnl] at e2;clear hnl;go_wp2_with fail
 go_quiet (fail)
 obtain ⟨fr, hfr⟩ : ∃ fr, iE nm tl b.hl = fr := ⟨_, rfl⟩;have HFr : Hid _ := hfr;have NN := aD NN (kN w1 nq);have p0 := ((kN w1 nq).cell (aA p0)).trans p0;have p1 := ((kN w1 nq).cell (aA p1)).trans p1;have p2 := ((kN w1 nq).cell (aA p2)).trans p2;rw [← HA.out] at p2;have p3 := ((kN w1 nq).cell (aA p3)).trans p3;have p4 := ((kN w1 nq).cell (aA p4)).trans p4;have p5 := ((kN w1 nq).cell (aA p5)).trans p5;clear hfr e2;go_wp2_with fail
 refine wpIn_wide.1 (aT (F := Fence.wide) (n := 0) (by kernel_rfl) 10 [some 34, some 35, some 36, some 37, some 38, some 39, some 40, some 41, some 42, some 43] (by decide) (A7 P b nm (.slice ta tl.length tc) fr) A7.zL (by kernel_rfl) (by kernel_rfl) (by kernel_rfl) ?step ?fin)
 case step =>
  intro ii o vs w' hi' ho hB hd
  match ii, hi' with
  | 0, _ =>
   simp at ho;subst ho;simp only [aE, Act.put];gi_wp2;exact ⟨_, by simp [aI], rfl, br _ _⟩
  | 1, _ | 2, _ | 5, _ | 6, _ =>
   simp at ho;subst ho
   simp [Region.binds, A7] at hd
   simp only [aE, Act.put, hd];gi_wp2;exact ⟨_, by simp [aI, hd], rfl, br _ _⟩
  | 3, _ =>
   simp at ho;subst ho;have d2 : vs 2 = _ := Zq hd 2;have k0 := (hB.cell (aA p0)).trans p0;have k1 := (hB.cell (aA p1)).trans p1;have k2 := (hB.cell (aA p2)).trans p2;simp only [aE, Act.put];rw [d2];gi_wp2;exact ⟨_, by simp [aI, d2], rfl, br _ _⟩
  | 4, _ | 8, _ =>
   simp at ho;subst ho;simp only [aE, Act.put];gi_wp2;exact ⟨_, by simp [aI], rfl, br _ _⟩
  | 7, _ =>
   simp at ho;subst ho;have d6 : vs 6 = _ := Zq hd 6;have k3 := (hB.cell (aA p3)).trans p3;simp only [aE, Act.put];rw [d6];gi_wp2;exact ⟨_, by simp [aI, d6], rfl, br _ _⟩
  | 9, _ =>
   simp at ho;subst ho;have d3 : vs 3 = _ := Zq hd 3;have d7 : vs 7 = _ := Zq hd 7;have d8 : vs 8 = _ := Zq hd 8;simp only [aE, Act.put];rw [d3, d7, d8];gi_wp2_with fail
   refine ⟨trivial, rfl, ?_⟩;refine (cw.2 (vR b nm tl ta tc w' (HI.out.a.ans.hs.zL (aD NN hB)) (by omega) (fun h m => ⟨(HI.out.a.ans.inn h m).zL (aD NN hB), HFt.out h m⟩) (ht.zL (aD NN hB)) hnt)).mono ?_;rintro e w5 ⟨rfl, hb5⟩;rw [HFr.out];gi_wp2;exact ⟨_, by simp [aI, d3, d7, d8], rfl, hb5⟩
  | q + 10, h => exact absurd h (by omega)
 case fin =>
  intro vs w2 hB hp;have d9 : vs 9 = _ := hp 9 (by decide);have N2 := aD NN hB;have q2 := (hB.cell (aA p2)).trans p2;rw [HA.out] at q2;have q4 := (hB.cell (aA p4)).trans p4;clear hp hB NN p0 p1 p2 p3 p4 p5;simp only [lds, List.drop_zero, aE, Act.put];rw [d9];clear d9;generalize vs 0 = v0;generalize vs 1 = v1;generalize vs 2 = v2;generalize vs 3 = v3;generalize vs 4 = v4;generalize vs 5 = v5;generalize vs 6 = v6;generalize vs 7 = v7;generalize vs 8 = v8
  cases fr with
  | false =>
   gi_wp2_with fail
   go_wp2_with fail
   go_ret;have HC : gP b nm i true tl = 5 := by unfold gP;rw [HV1.out, HXi.out, HFr.out];simp [HNl.out]
   have HL : iN b nm i true tl = b.hl := by unfold iN;rw [HC];rfl
   rw [HC];exact ⟨b, rfl, rfl, rfl, by rw [HL];exact aL.refl _, HI.out.zL N2, cA.below N2⟩
  | true =>
   gi_wp2_with fail
   go_wp2_with fail
   refine wpIn_wide.1 (aT (F := Fence.wide) (n := 0) (by kernel_rfl) 11 [some 46, some 47, some 48, some 49, some 50, some 51, some 52, some 53, some 54, some 55, some 56] (by decide) (A9 P b g i (.slice ta tl.length tc) w2.heap.size tl) A9.zL (by kernel_rfl) (by kernel_rfl) (by kernel_rfl) ?step ?fin)
   case step =>
    intro ii o vs w' hi' ho hB hd
    match ii, hi' with
    | 0, _ =>
     simp at ho;subst ho;simp only [aE, Act.put];gi_wp2;exact ⟨_, by simp [aI], rfl, br _ _⟩
    | 1, _ | 2, _ | 3, _ | 6, _ | 7, _ =>
     simp at ho;subst ho
     simp [Region.binds, A9] at hd
     simp only [aE, Act.put, hd];gi_wp2;exact ⟨_, by simp [aI, hd], rfl, br _ _⟩
    | 4, _ =>
     simp at ho;subst ho;have d3 : vs 3 = _ := Zq hd 3;have k2 := (hB.cell (aA q2)).trans q2;simp only [aE, Act.put];rw [d3];gi_wp2;exact ⟨_, by simp [aI, d3], rfl, br _ _⟩
    | 5, _ | 9, _ =>
     simp at ho;subst ho;simp only [aE, Act.put];gi_wp2;exact ⟨_, by simp [aI], rfl, br _ _⟩
    | 8, _ =>
     simp at ho;subst ho;have d7 : vs 7 = _ := Zq hd 7;have k4 := (hB.cell (aA q4)).trans q4;simp only [aE, Act.put];rw [d7];gi_wp2;exact ⟨_, by simp [aI, d7], rfl, br _ _⟩
    | 10, _ =>
     simp at ho;subst ho;have d9 : vs 9 = _ := Zq hd 9;simp only [aE, Act.put];rw [d9];gi_wp2_with fail
     refine ⟨trivial, rfl, ?_⟩;refine (cw.2 (oU tl ta tc w' (ht.zL (aD N2 hB)) hnt)).mono ?_;rintro e w5 ⟨⟨v5, rfl, hO5⟩, hb5⟩;have HO5 : Hid _ := hO5.weak (base' := w2.heap.size) hB.size;clear hO5;gi_wp2;exact ⟨_, by simp [aI, d9], HO5.out, hb5⟩
    | q + 11, h => exact absurd h (by omega)
   case fin =>
    intro vs w3 hB hp;have d4 : vs 4 = _ := hp 4 (by decide);have d8 : vs 8 = _ := hp 8 (by decide);have d10 : aG w3 w2.heap.size (vs 10) tl := hp 10 (by decide);obtain ⟨na, nc, hv, _⟩ := d10.slice;rw [hv] at d10;have HO : Hid (aG w3 w2.heap.size (.slice na tl.length nc) tl) := d10;have N3 := aD N2 hB;have hr3 := HR.out.of_block (N3.block _ HR.out.lt);have c3 := hr3.cell (i := i * 3 + 2) (by omega);have cf := fun i => hr3.frozen i;have hs2 := hB.size;have hsN := N2.size;clear hp hB d10 q2 q4;simp only [lds, List.drop_zero, aE, Act.put];rw [d4, d8, hv];clear d4 d8 hv;generalize vs 0 = v0;generalize vs 1 = v1;generalize vs 2 = v2;generalize vs 3 = v3;generalize vs 5 = v5;generalize vs 6 = v6;generalize vs 7 = v7;generalize vs 9 = v9;have HR3 : Hid (w3.rowIs g 42 (b.hc * 3) fv) := hr3;clear hr3;gi_wp2_with fail
    go_wp2_with fail
    go_ret;have HC : gP b nm i true tl = 0 := by unfold gP;rw [HV1.out, HXi.out, HFr.out];simp [HNl.out]
    have HL : iN b nm i true tl = b.hl.set i (IW tl x) := by unfold iN;rw [HC, HXi.out];rfl
    rw [HC];have hbb : cA (fun k => k = g) w (w3.setCell ⟨g, i * 3 + 2, none⟩ (.slice na tl.length nc)) := (cA.below (S := fun k => k = g) N3).set (g := g) rfl _ _;have h1 := HR3.out.set (i * 3 + 2) (.slice na tl.length nc)
    have h2 : (fun j => if j = i * 3 + 2 then Value.slice na tl.length nc else fv j) = (fun j => if j = i * 3 + 2 then Value.slice na tl.length nc else if j = i * 3 + 1 then .slice x.ta x.tl.length x.tc else fv j) := by
     funext j
     by_cases e : j = i * 3 + 1
     · subst e
       rw [if_neg (by omega), if_neg (by omega), if_pos rfl, HX.out];exact HF.out i hi hi 1 _ rfl
     · simp [e]
    rw [h2] at h1;have hR := fE.lists (h := x) (h' := ⟨x.n, x.ta, x.tl, x.tc, na, tl, nc⟩) h1 HF.out HXi.out rfl;have hTx : dC z w x := HI.out.a.t x (by rw [HX.out];exact lgm hi);have hT' : dC z (w3.setCell ⟨g, i * 3 + 2, none⟩ (.slice na tl.length nc)) ⟨x.n, x.ta, x.tl, x.tc, na, tl, nc⟩ := ⟨(hTx.butHeld HR.out hbb).t, ((HO.out.weak (base' := z) (by omega)).setRow HR3.out (by decide) _ _)⟩
    have hnb : ∀ q ∈ (na.map Addr.block).toList, w2.heap.size <= q := fun q hq => by
     rcases HO.out with ⟨e, _⟩ | ⟨g', cap', e, h1', _⟩
     · simp only [Value.slice.injEq] at e;rw [e.1] at hq;simp at hq
     · simp only [Value.slice.injEq] at e;rw [e.1] at hq;simp at hq;omega
    have hnd : ((b.hl.set i ⟨x.n, x.ta, x.tl, x.tc, na, tl, nc⟩).flatMap Hx.bs).Nodup := yT b.hl i _ ((x.ta.map Addr.block).toList) ((na.map Addr.block).toList) hi rfl (by rw [← HX.out];simp [Hx.bs]) HI.out.a.d (fA _) (fun q hq hq' => by
     obtain ⟨y, hy, hq'⟩ := List.mem_flatMap.1 hq';have h1 := ((HI.out.a.t y hy).bs_in q hq').2;have h2 := hnb q hq
     omega)
    refine ⟨⟨b.now, b.fa, b.fl, b.fc, b.ha, b.hl.set i ⟨x.n, x.ta, x.tl, x.tc, na, tl, nc⟩, b.hc⟩, rfl, rfl, rfl, ?_, ⟨?_, HI.out.a.put HA.out hi hbb hR hT' hnd, HI.out.zp⟩, hbb.wide (fun k hk => by rw [hk];exact hgz)⟩
    · rw [HL]
      exact (aL.refl b.hl).set i ⟨rfl, rfl, rfl⟩
    · have := dA HI.out.p hbb hPg
      rw [this]
      simp
end Go.Proofs.YtiojdbffjdoniaaGreatDoor
