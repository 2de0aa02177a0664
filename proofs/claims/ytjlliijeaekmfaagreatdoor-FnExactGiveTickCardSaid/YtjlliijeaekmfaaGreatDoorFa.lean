import Derived.Test.YtjlliijeaekmfaaGreatDoorDq
import Derived.Test.YtjlliijeaekmfaaGreatDoorCut
namespace Go.Proofs.YtjlliijeaekmfaaGreatDoor
open Go.RowKit Go.Shelf
attribute [local go_sem] Oper.semAt_some
/-- What somebody holds from a tick on. -/
def cutH (frm : Int) (x : Hx) : Hx := if cutL frm x.tl = [] then ⟨x.n, none, cutL frm x.nl, 0, none, [], 0⟩ else ⟨x.n, none, cutL frm x.tl, 0, none, cutL frm x.nl, 0⟩
def F8 (H : Nat) (x : Hx) (frm : Int) (Z : Nat) (j : Nat) (vs : Nat → Value) (w : World) : Prop :=
  match j with
  | 0 => vs 0 = .pointer (some ⟨H, 1, none⟩)
  | 1 => vs 1 = .slice x.ta x.tl.length x.tc
  | 2 => vs 2 = .int .i64 frm
  | 3 => OwnBx w Z (vs 3) (cutL frm x.tl)
  | 4 => vs 4 = .pointer (some ⟨H, 2, none⟩)
  | 5 => vs 5 = .slice x.na x.nl.length x.nc
  | 6 => vs 6 = .int .i64 frm
  | 7 => OwnBx w Z (vs 7) (cutL frm x.nl) ∧ ∀ q, (vs 3).ownBlock = some q → (vs 7).ownBlock ≠ some q
  | 8 => vs 8 = .pointer (some ⟨H, 1, none⟩)
  | _ => True
def dp8 (j : Nat) : List Nat := if j = 7 then [7, 3] else [j]
def fr8 (_ : Nat) : Bool := false
def Pf8 (_ : Nat) (_ : Value) : Prop := True
theorem F8.later {H : Nat} {x : Hx} {frm : Int} {Z : Nat} (j : Nat) (vs : Nat → Value) (w w' : World) (h : F8 H x frm Z j vs w) (hb : Below w.heap.size w w') : F8 H x frm Z j vs w' := by
  unfold F8 at h ⊢
  split
  all_goals first
    | exact h
    | exact OwnBx.later h hb
    | exact ⟨OwnBx.later h.1 hb, h.2⟩
    | trivial
theorem F8.loc {H : Nat} {x : Hx} {frm : Int} {Z : Nat} (j : Nat) (vs vs' : Nat → Value) (w : World) (he : ∀ q ∈ dp8 j, vs q = vs' q) (h : F8 H x frm Z j vs w) : F8 H x frm Z j vs' w := by
  unfold F8 at h ⊢
  split at h
  all_goals first
    | (rw [← he _ (by simp [dp8])]; exact h)
    | (rw [← he 7 (by simp [dp8]), ← he 3 (by simp [dp8])]; exact h)
    | trivial
theorem F8.free {H : Nat} {x : Hx} {frm : Int} {Z : Nat} (j : Nat) (vs : Nat → Value) (w : World) (_ : fr8 j = true) (_ : F8 H x frm Z j vs w) : Pf8 j (vs j) := trivial
def GB8 (W0 : World) (H : Nat) (x : Hx) (frm : Int) (vs : Nat → Value) (w' : World) : Prop :=
  Below W0.heap.size W0 w' ∧ OwnBx w' W0.heap.size (vs 3) (cutL frm x.tl) ∧ OwnBx w' W0.heap.size (vs 7) (cutL frm x.nl) ∧ (∀ q, (vs 3).ownBlock = some q → (vs 7).ownBlock ≠ some q) ∧ vs 8 = .pointer (some ⟨H, 1, none⟩)
def G8 (W0 : World) (H : Nat) (x : Hx) (frm : Int) (t : Nat) (vs : Nat → Value) (w' : World) : Prop :=
  ∃ w0, GB8 W0 H x frm vs w0 ∧ w' = if t = 10 then w0.setCell ⟨H, 1, none⟩ (vs 3) else w0
set_option maxRecDepth 100000 in
set_option maxHeartbeats 4000000 in
theorem cutHeld_any (x : Hx) (frm : Int) (w : World) (hx : x.In w) (hf : x.Fit) :
    Calls Tryz.prog 198 #[x.val, .int .i64 frm] w fun e w' => (∃ x' : Hx, e = .returned x'.val ∧ (cutH frm x).Like x' ∧ TOwn w.heap.size w' x' ∧ x'.bs.Nodup) ∧ Below w.heap.size w w' := by
  have N0 : Below w.heap.size w ((w.alloc (.cells #[.string x.n, .slice x.ta x.tl.length x.tc, .slice x.na x.nl.length x.nc] 87)).alloc (.cells #[.string ⟨#[]⟩, .slice none 0 0, .slice none 0 0] 87)) := balloc (balloc (Below.refl _ _) _) _
  have A0 := (Below.heap_alloc (w.alloc (.cells #[.string x.n, .slice x.ta x.tl.length x.tc, .slice x.na x.nl.length x.nc] 87)) (.cells #[.string ⟨#[]⟩, .slice none 0 0, .slice none 0 0] 87) w.heap.size (by simp)).trans (World.alloc_heap_new w (.cells #[.string x.n, .slice x.ta x.tl.length x.tc, .slice x.na x.nl.length x.nc] 87))
  have R0 := World.alloc_heap_new (w.alloc (.cells #[.string x.n, .slice x.ta x.tl.length x.tc, .slice x.na x.nl.length x.nc] 87)) (.cells #[.string ⟨#[]⟩, .slice none 0 0, .slice none 0 0] 87)
  rw [World.size_alloc] at R0
  go_enter Tryz.func198, Tryz.ntmps198
  go_wp2_with fail
  obtain ⟨W0, hW0⟩ : ∃ W0, (w.alloc (.cells #[.string x.n, .slice x.ta x.tl.length x.tc, .slice x.na x.nl.length x.nc] 87)).alloc (.cells #[.string ⟨#[]⟩, .slice none 0 0, .slice none 0 0] 87) = W0 := ⟨_, rfl⟩
  rw [hW0] at N0 A0 R0 ⊢
  have hz1 : w.heap.size + 1 < W0.heap.size := (Array.getElem?_eq_some_iff.1 R0).1
  have k0 : W0.cell? ⟨w.heap.size, 0, none⟩ = some (.string x.n) := objc A0 rfl
  have k1 : W0.cell? ⟨w.heap.size, 1, none⟩ = some (.slice x.ta x.tl.length x.tc) := objc A0 rfl
  have k2 : W0.cell? ⟨w.heap.size, 2, none⟩ = some (.slice x.na x.nl.length x.nc) := objc A0 rfl
  have HA0 : Hid _ := A0
  have HR0 : Hid _ := R0
  clear hW0 A0 R0
  refine wpIn_wide.1 (wpIn_region_valsC (F := Fence.wide) (n := 0) (by kernel_rfl) 4 9 10 [some 5, some 6, some 7, some 8, some 9, some 10, some 11, some 12, some 13] (by decide) (by decide) fr8 dp8 (F8 w.heap.size x frm W0.heap.size) Pf8 (G8 W0 w.heap.size x frm) F8.later F8.loc F8.free (by kernel_rfl) (by kernel_rfl) (by kernel_rfl) (by kernel_rfl) (by kernel_rfl) ?step ?free ?g0 ?gf ?store ?fin)
  case step =>
    intro ii o vs w' hi' ho hB hd
    match ii, hi' with
    | 0, _ =>
      simp at ho
      subst ho
      simp only [putD, Act.put]
      gi_wp2
      exact ⟨_, by simp [upd], rfl, Below.refl _ _⟩
    | 1, _ =>
      simp at ho
      subst ho
      have d0 : vs 0 = _ := hd { on := 0, ground := Ground.data } (by simp) rfl
      have k1' := (hB.cell (cell_lt k1)).trans k1
      simp only [putD, Act.put]
      rw [d0]
      gi_wp2
      exact ⟨_, by simp [upd, d0], rfl, Below.refl _ _⟩
    | 2, _ =>
      simp at ho
      subst ho
      simp only [putD, Act.put]
      gi_wp2
      exact ⟨_, by simp [upd], rfl, Below.refl _ _⟩
    | 3, _ =>
      simp at ho
      subst ho
      have d1 : vs 1 = _ := hd { on := 1, ground := Ground.data } (by simp) rfl
      have d2 : vs 2 = _ := hd { on := 2, ground := Ground.data } (by simp) rfl
      simp only [putD, Act.put]
      rw [d1, d2]
      gi_wp2_with fail
      refine ⟨trivial, rfl, ?_⟩
      refine (callsIn_wide.2 (implCut_any x.tl x.ta x.tc frm w' (hx.1.later (bstep N0 hB)) hf.tn)).mono ?_
      rintro e w5 ⟨v5, rfl, hO5, hb5⟩
      have HO5 : Hid _ := OwnBx.weak hO5 (base' := W0.heap.size) hB.size
      clear hO5
      gi_wp2
      exact ⟨_, by simp [upd, d1, d2], HO5.out, hb5⟩
    | 4, _ =>
      simp at ho
      subst ho
      simp only [putD, Act.put]
      gi_wp2
      exact ⟨_, by simp [upd], rfl, Below.refl _ _⟩
    | 5, _ =>
      simp at ho
      subst ho
      have d4 : vs 4 = _ := hd { on := 4, ground := Ground.data } (by simp) rfl
      have k2' := (hB.cell (cell_lt k2)).trans k2
      simp only [putD, Act.put]
      rw [d4]
      gi_wp2
      exact ⟨_, by simp [upd, d4], rfl, Below.refl _ _⟩
    | 6, _ =>
      simp at ho
      subst ho
      simp only [putD, Act.put]
      gi_wp2
      exact ⟨_, by simp [upd], rfl, Below.refl _ _⟩
    | 7, _ =>
      simp at ho
      subst ho
      have d5 : vs 5 = _ := hd { on := 5, ground := Ground.data } (by simp) rfl
      have d6 : vs 6 = _ := hd { on := 6, ground := Ground.data } (by simp) rfl
      have h3 : OwnBx w' W0.heap.size (vs 3) (cutL frm x.tl) := hd { on := 3, ground := Ground.chain } (by simp) rfl
      have HL3 : Hid (∀ q, (vs 3).ownBlock = some q → q < w'.heap.size) := fun q hq => h3.blkLt hq
      clear h3
      simp only [putD, Act.put]
      rw [d5, d6]
      gi_wp2_with fail
      refine ⟨trivial, rfl, ?_⟩
      refine (callsIn_wide.2 (implCut_any x.nl x.na x.nc frm w' (hx.2.later (bstep N0 hB)) hf.nn)).mono ?_
      rintro e w5 ⟨v5, rfl, hO5, hb5⟩
      have HO5 : Hid _ := OwnBx.weak hO5 (base' := W0.heap.size) hB.size
      have HD5 : Hid (∀ q, (vs 3).ownBlock = some q → v5.ownBlock ≠ some q) := fun q hq hq2 => Nat.lt_irrefl _ (Nat.lt_of_lt_of_le (HL3.out q hq) (OwnBx.blkGe hO5 hq2))
      clear hO5
      gi_wp2
      exact ⟨_, by simp [upd, d5, d6], ⟨HO5.out, HD5.out⟩, hb5⟩
    | 8, _ =>
      simp at ho
      subst ho
      simp only [putD, Act.put]
      gi_wp2
      exact ⟨_, by simp [upd], rfl, Below.refl _ _⟩
    | q + 9, h => exact absurd h (by omega)
  case free =>
    intro i o vs w' t _ hfi
    cases hfi
  case g0 =>
    intro vs w' hB hp
    exact ⟨w', ⟨hB, hp 3 (by decide) rfl, (hp 7 (by decide) rfl).1, (hp 7 (by decide) rfl).2, hp 8 (by decide) rfl⟩, rfl⟩
  case gf =>
    intro t vs w' i v hfi
    cases hfi
  case store =>
    intro t o vs w' h12 h15 ho hG hd
    obtain rfl : t = 9 := by omega
    obtain ⟨w0, hgb, hw0⟩ := hG
    simp at ho
    subst ho
    rw [if_neg (by decide)] at hw0
    subst hw0
    have HG : Hid _ := hgb
    obtain ⟨hB, h3, _, _, d8⟩ := hgb
    obtain ⟨a3, c3, e3, _⟩ := h3.slice
    have A1 := blk HA0.out hB
    have k1' : w'.cell? ⟨w.heap.size, 1, none⟩ = some (.slice x.ta x.tl.length x.tc) := objc A1 rfl
    have kf : ∀ i, w'.frozen? ⟨w.heap.size, i, none⟩ = false := fun i => by simp [World.frozen?, A1]
    clear h3 hB A1
    simp only [putD, Act.put]
    rw [d8, e3]
    gi_wp2
    exact ⟨undef, by simp [upd, d8, e3], w', HG.out, by rw [if_pos rfl]; show _ = w'.setCell _ (vs 3); rw [e3]⟩
  case fin =>
    intro vs w1' hG _
    obtain ⟨w1, ⟨hB, h3, h7, hd, d8⟩, hw1⟩ := hG
    rw [if_pos rfl] at hw1
    subst hw1
    obtain ⟨a3, c3, e3, _⟩ := h3.slice
    obtain ⟨a7, c7, e7, _⟩ := h7.slice
    rw [e3, e7] at hd
    rw [e3] at h3
    rw [e7] at h7
    have N1 := bstep N0 hB
    have A1 := blk HA0.out hB
    have R1 := blk HR0.out hB
    have hs1 := hB.size
    clear k0 k1 k2 hB
    have H3 : Hid (OwnBx w1 W0.heap.size (.slice a3 (cutL frm x.tl).length c3) (cutL frm x.tl)) := h3
    have H7 : Hid (OwnBx w1 W0.heap.size (.slice a7 (cutL frm x.nl).length c7) (cutL frm x.nl)) := h7
    have HD : Hid (∀ q, (Value.slice a3 (cutL frm x.tl).length c3).ownBlock = some q → (Value.slice a7 (cutL frm x.nl).length c7).ownBlock ≠ some q) := hd
    have hl3 := cutL_length frm x.tl
    have hl7 := cutL_length frm x.nl
    have htn := hf.tn
    have hnn := hf.nn
    have HBut : Hid (∀ w2, But (fun k => k = w.heap.size ∨ k = w.heap.size + 1) w1 w2 → OwnBx w2 w.heap.size (.slice a3 (cutL frm x.tl).length c3) (cutL frm x.tl) ∧ OwnBx w2 w.heap.size (.slice a7 (cutL frm x.nl).length c7) (cutL frm x.nl) ∧ Below w.heap.size w w2) := fun w2 hb =>
      ⟨OwnBx.weak (OwnBx.but H3.out hb (fun y e hk => by have := H3.out.blkGe (q := y.block) (by rw [H3.out.adr, e]; rfl); rcases hk with hk | hk <;> omega)) (by omega), OwnBx.weak (OwnBx.but H7.out hb (fun y e hk => by have := H7.out.blkGe (q := y.block) (by rw [H7.out.adr, e]; rfl); rcases hk with hk | hk <;> omega)) (by omega), hb.under N1 (Nat.le_refl _) (fun k hk => by rcases hk with rfl | rfl <;> omega)⟩
    have rH : w1.rowIs w.heap.size 87 3 (fun i => (#[.string x.n, .slice x.ta x.tl.length x.tc, .slice x.na x.nl.length x.nc] : Array Value).getD i undef) := ⟨_, A1, rfl, fun i hi => by match i, hi with | 0, _ => rfl | 1, _ => rfl | 2, _ => rfl⟩
    have rR : w1.rowIs (w.heap.size + 1) 87 3 (fun i => (#[.string ⟨#[]⟩, .slice none 0 0, .slice none 0 0] : Array Value).getD i undef) := ⟨_, R1, rfl, fun i hi => by match i, hi with | 0, _ => rfl | 1, _ => rfl | 2, _ => rfl⟩
    simp only [List.drop_succ_cons, List.drop_zero, putD, Act.put]
    rw [e3, e7, d8]
    clear e3 e7 d8 h3 h7 hd A1 R1
    obtain ⟨la, hla⟩ : ∃ la, (cutL frm x.tl).length = la := ⟨_, rfl⟩
    obtain ⟨lb, hlb⟩ : ∃ lb, (cutL frm x.nl).length = lb := ⟨_, rfl⟩
    have HLb : Hid ((cutL frm x.nl).length = lb) := hlb
    have HLa : Hid ((cutL frm x.tl).length = la) := hla
    rw [hla] at hl3 ⊢
    rw [hlb] at hl7 ⊢
    clear hla hlb
    have ra := rH.set 1 (.slice a3 la c3)
    have rb := ra.set 2 (.slice a7 lb c7)
    have hn1 : w.heap.size + 1 ≠ w.heap.size := by omega
    have ba : But (fun k => k = w.heap.size) w1 (w1.setCell ⟨w.heap.size, 1, none⟩ (.slice a3 la c3)) := (But.refl (fun k => k = w.heap.size) w1).set (g := w.heap.size) rfl _ _
    have bb := ba.set (g := w.heap.size) rfl 2 (.slice a7 lb c7)
    have ca2 : (w1.setCell ⟨w.heap.size, 1, none⟩ (.slice a3 la c3)).cell? ⟨w.heap.size, 2, none⟩ = some (.slice x.na x.nl.length x.nc) := ra.cell (i := 2) (by decide)
    have caf := fun i => ra.frozen i
    obtain ⟨Wa, hWa⟩ : ∃ Wa, w1.setCell ⟨w.heap.size, 1, none⟩ (.slice a3 la c3) = Wa := ⟨_, rfl⟩
    rw [hWa] at rb bb ca2 caf ⊢
    have cb1 : (Wa.setCell ⟨w.heap.size, 2, none⟩ (.slice a7 lb c7)).cell? ⟨w.heap.size, 1, none⟩ = some (.slice a3 la c3) := rb.cell (i := 1) (by decide)
    have cb2 : (Wa.setCell ⟨w.heap.size, 2, none⟩ (.slice a7 lb c7)).cell? ⟨w.heap.size, 2, none⟩ = some (.slice a7 lb c7) := rb.cell (i := 2) (by decide)
    have cb0 : (Wa.setCell ⟨w.heap.size, 2, none⟩ (.slice a7 lb c7)).cell? ⟨w.heap.size, 0, none⟩ = some (.string x.n) := rb.cell (i := 0) (by decide)
    have cbf := fun i => rb.frozen i
    obtain ⟨Wb, hWb⟩ : ∃ Wb, Wa.setCell ⟨w.heap.size, 2, none⟩ (.slice a7 lb c7) = Wb := ⟨_, rfl⟩
    rw [hWb] at rb bb cb0 cb1 cb2 cbf
    clear ra ba rH
    generalize vs 0 = v0
    generalize vs 1 = v1
    generalize vs 2 = v2
    generalize vs 4 = v4
    generalize vs 5 = v5
    generalize vs 6 = v6
    by_cases hz : cutL frm x.tl = []
    · have HC : Hid (cutH frm x = ⟨x.n, none, cutL frm x.nl, 0, none, [], 0⟩) := by
        have : cutH frm x = ⟨x.n, none, cutL frm x.nl, 0, none, [], 0⟩ := by unfold cutH; rw [if_pos hz]
        exact this
      obtain rfl : la = 0 := by rw [← HLa.out, hz]; rfl
      clear hz
      have rc := rb.set 1 (.slice a7 lb c7)
      have bc := bb.set (g := w.heap.size) rfl 1 (.slice a7 lb c7)
      have cc2 : (Wb.setCell ⟨w.heap.size, 1, none⟩ (.slice a7 lb c7)).cell? ⟨w.heap.size, 2, none⟩ = some (.slice a7 lb c7) := rc.cell (i := 2) (by decide)
      have ccf := fun i => rc.frozen i
      obtain ⟨Wc, hWc⟩ : ∃ Wc, Wb.setCell ⟨w.heap.size, 1, none⟩ (.slice a7 lb c7) = Wc := ⟨_, rfl⟩
      rw [hWc] at rc bc cc2 ccf
      have rd := rc.set 2 (.slice none 0 0)
      have bd := bc.set (g := w.heap.size) rfl 2 (.slice none 0 0)
      have cd0 : (Wc.setCell ⟨w.heap.size, 2, none⟩ (.slice none 0 0)).cell? ⟨w.heap.size, 0, none⟩ = some (.string x.n) := rd.cell (i := 0) (by decide)
      have cd1 : (Wc.setCell ⟨w.heap.size, 2, none⟩ (.slice none 0 0)).cell? ⟨w.heap.size, 1, none⟩ = some (.slice a7 lb c7) := rd.cell (i := 1) (by decide)
      have cd2 : (Wc.setCell ⟨w.heap.size, 2, none⟩ (.slice none 0 0)).cell? ⟨w.heap.size, 2, none⟩ = some (.slice none 0 0) := rd.cell (i := 2) (by decide)
      have rR2 := rR.of_block (bd.block _ rR.lt hn1)
      have r0 := rR2.cell (i := 0) (by decide)
      have r1 := rR2.cell (i := 1) (by decide)
      have r2 := rR2.cell (i := 2) (by decide)
      have rf := fun i => rR2.frozen i
      obtain ⟨Wd, hWd⟩ : ∃ Wd, Wc.setCell ⟨w.heap.size, 2, none⟩ (.slice none 0 0) = Wd := ⟨_, rfl⟩
      rw [hWd] at bd cd0 cd1 cd2 r0 r1 r2 rf
      clear rb bb rc bc rd rR rR2
      have HBd : Hid _ := bd
      clear bd
      gi_wp2_with fail
      go_wp2_with fail
      exact bodyPost_ret (v := Hx.val ⟨x.n, a7, cutL frm x.nl, c7, none, [], 0⟩) (by simp [results, Tryz.results198, go_sem, r0, r1, r2, HLb.out]) rfl (by
        obtain ⟨o3, o7, hN⟩ := HBut.out _ ((((HBd.out.wide (S' := fun k => k = w.heap.size ∨ k = w.heap.size + 1) (fun k hk => .inl hk)).set (g := w.heap.size + 1) (.inr rfl) 0 (.string x.n)).set (g := w.heap.size + 1) (.inr rfl) 1 (.slice a7 lb c7)).set (g := w.heap.size + 1) (.inr rfl) 2 (.slice none 0 0))
        exact ⟨⟨_, rfl, by rw [HC.out]; exact ⟨rfl, rfl, rfl⟩, ⟨o7, .inl ⟨rfl, rfl⟩⟩, by simp only [Hx.bs, Option.map_none, Option.toList_none, List.append_nil]; exact nodup_opt _⟩, hN⟩)
    · have HC : Hid (cutH frm x = ⟨x.n, none, cutL frm x.tl, 0, none, cutL frm x.nl, 0⟩) := by
        have : cutH frm x = ⟨x.n, none, cutL frm x.tl, 0, none, cutL frm x.nl, 0⟩ := by unfold cutH; rw [if_neg hz]
        exact this
      have hpos : 0 < la := by rw [← HLa.out]; exact List.length_pos_iff.2 hz
      have hz0 : ((la : Int) == 0) = false := beq_false_of_ne (by omega)
      clear hz
      have rR2 := rR.of_block (bb.block _ rR.lt hn1)
      have r0 := rR2.cell (i := 0) (by decide)
      have r1 := rR2.cell (i := 1) (by decide)
      have r2 := rR2.cell (i := 2) (by decide)
      have rf := fun i => rR2.frozen i
      have HBd : Hid _ := bb
      clear bb rb rR rR2
      gi_wp2_with fail
      go_wp2_with fail
      exact bodyPost_ret (v := Hx.val ⟨x.n, a3, cutL frm x.tl, c3, a7, cutL frm x.nl, c7⟩) (by simp [results, Tryz.results198, go_sem, r0, r1, r2, HLb.out, HLa.out]) rfl (by
        obtain ⟨o3, o7, hN⟩ := HBut.out _ ((((HBd.out.wide (S' := fun k => k = w.heap.size ∨ k = w.heap.size + 1) (fun k hk => .inl hk)).set (g := w.heap.size + 1) (.inr rfl) 0 (.string x.n)).set (g := w.heap.size + 1) (.inr rfl) 1 (.slice a3 la c3)).set (g := w.heap.size + 1) (.inr rfl) 2 (.slice a7 lb c7))
        refine ⟨⟨_, rfl, by rw [HC.out]; exact ⟨rfl, rfl, rfl⟩, ⟨o3, o7⟩, ?_⟩, hN⟩
        have hd := HD.out
        rw [H3.out.adr, H7.out.adr] at hd
        simp only [Hx.bs]
        rw [List.nodup_append]
        refine ⟨nodup_opt _, nodup_opt _, fun q hq r hr e => ?_⟩
        subst e
        simp only [Option.mem_toList] at hq hr
        exact hd q hq hr)
end Go.Proofs.YtjlliijeaekmfaaGreatDoor
