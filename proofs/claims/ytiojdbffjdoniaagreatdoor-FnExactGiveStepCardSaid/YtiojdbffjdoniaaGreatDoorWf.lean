import Derived.Test.YtiojdbffjdoniaaGreatDoorWp
import Derived.Test.YtiojdbffjdoniaaGreatDoorWs
namespace Go.Proofs.YtiojdbffjdoniaaGreatDoor
set_option maxRecDepth 100000
set_option maxHeartbeats 1000000
open Go.RowKit
theorem QV (w : World) (t : Nat) (v0 : Value) : (w.alloc (.cells #[v0] t)).rowIs w.heap.size t 1 (fun i => (#[v0] : Array Value).getD i undef) :=
 World.rowIs_alloc w #[v0] t _ (fun i hi => by simp at hi; subst hi; rfl)
theorem KM (y : Yx) (w : World) (hi : y.In w) (hn : y.l.length <= 1048576) :
 Calls Tryz.prog 146 #[y.val] w fun e w' => (∃ y', e = .returned y'.val /\ kW w.heap.size w' y y') /\ Below w.heap.size w w' := by
 obtain ⟨ao, l, cap⟩ := y; have hl : Xs 2 Cx.cells w ao l := hi; simp only at hn; clear hi; have rR := (QV (w.alloc (.cells #[.slice ao l.length cap] 212)) 174 (.slice none 0 0)).alloc (.cells #[.slice none 0 0] 174); have rO := QV ((w.alloc (.cells #[.slice ao l.length cap] 212)).alloc (.cells #[.slice none 0 0] 174)) 174 (.slice none 0 0); have hB0 : Below w.heap.size w (((w.alloc (.cells #[.slice ao l.length cap] 212)).alloc (.cells #[.slice none 0 0] 174)).alloc (.cells #[.slice none 0 0] 174)) := aA (aA (aA (br _ _) _) _) _; have hz : (((w.alloc (.cells #[.slice ao l.length cap] 212)).alloc (.cells #[.slice none 0 0] 174)).alloc (.cells #[.slice none 0 0] 174)).heap.size = w.heap.size + 3 := by simp
 simp only [wsa] at rR rO
 go_enter Tryz.func146, Tryz.ntmps146
 go_wp2_with fail
 obtain ⟨W0, hW0⟩ : ∃ W0, ((w.alloc (.cells #[.slice ao l.length cap] 212)).alloc (.cells #[.slice none 0 0] 174)).alloc (.cells #[.slice none 0 0] 174) = W0 := ⟨_, rfl⟩; rw [hW0] at rR rO hB0 hz ⊢; clear hW0; refine (CU l ao cap W0 (hl.zL hB0) hn).mono ?_; rintro e w1 ⟨rfl, hr1, hb1⟩; rw [hz] at hr1 ⊢; have rR1 := rR.of_block (hb1.block _ rR.lt); have rO1 := rO.of_block (hb1.block _ rO.lt); have hz1 : w.heap.size + 3 < w1.heap.size := hr1.lt; have hB1 : Below w.heap.size w w1 := aD hB0 hb1; clear rR rO hb1 hB0 hz; have o0 := rO1.cell (i := 0) (by omega); have fO := fun i => rO1.frozen i; have p0 := rR1.cell (i := 0) (by omega); have fR := fun i => rR1.frozen i; go_wp2
 refine bpr (v := Yx.val ⟨some ⟨w.heap.size + 3, 0, none⟩, l, l.length⟩) (by simp [results, Tryz.results146, go_sem, p0]) rfl ?_; refine ⟨⟨_, rfl, rfl, rfl, _, rfl, by omega, ?_⟩, ?_⟩
 · exact (hr1.setOther (by simp) _).setOther (by simp) _
 · exact (hB1.setCell (by simp; omega) _).setCell (by simp) _
theorem ES (l : List Yx) (ao : Option Addr) (cap : Nat) (w : World) (hl : Xs 1 Yx.cells w ao l) (hn : l.length <= 1048576) (hg : ∀ h ∈ l, h.In w /\ h.l.length <= 1048576) :
 Calls Tryz.prog 101 #[.slice ao l.length cap] w fun e w' => (∃ m, e = .returned (.slice (some ⟨w.heap.size, 0, none⟩) l.length l.length) /\ bJ 174 1 Yx.cells w' w.heap.size l.length m l.length /\ iT (w.heap.size + 1) w' l m l.length) /\ Below w.heap.size w w' := by
 have hmk := RF l.length hn
 go_enter Tryz.func101, Tryz.ntmps101
 go_wp2
 go_loopw [4] (fun i wr => ∃ (k : Nat) (L : List Yx), k <= l.length /\ i = .int .i64 k /\ bJ 174 1 Yx.cells wr w.heap.size l.length L k /\ Hid (iT (w.heap.size + 1) wr l L k) /\ Below w.heap.size w wr) (fun i _ => l.length - (intOf i).toNat)
 case atStart => exact ⟨0, l, nz _, rfl, bJ.start1 _ _ _ _ _, ⟨rfl, fun j _ h => absurd h (by omega)⟩, aA (br _ _) _⟩
 case round =>
  clear hmk; obtain ⟨k, L, hk, rfl, hR, hM, hN⟩ := hrel
  by_cases hlt : k < l.length
  · rcases hl with h | ⟨bl, off, rfl, hc⟩
    · subst h; simp at hlt
    · have hbx := (hc k hlt).zL hN
      have hgk := hg l[k] (lgm hlt); obtain ⟨b, hbe⟩ : ∃ b, b = l[k] := ⟨_, rfl⟩; rw [← hbe] at hbx hgk; have HB : Hid (b = l[k]) := hbe; clear hbe hc; have c0 := p9 hbx; rw [Nat.mul_one] at c0; clear hbx; obtain ⟨f, hrow, hf⟩ := hR; have HF : Hid (∀ i (h : i < L.length), i < k -> ∀ j v, (Yx.cells L[i])[j]? = some v -> f (i * 1 + j) = v) := hf; clear hf
      go_wp2_with (go_at_call 146; refine (KM b _ (hgk.1.zL hN) hgk.2).mono ?_; rintro e w1 ⟨⟨h', rfl, hmade⟩, hb1⟩; have hrow1 := hrow.of_block (hb1.block _ hrow.lt); have hN1 : Below w.heap.size w w1 := aT hN (nlq _) hb1; have hM1 : Hid (iT (w.heap.size + 1) w1 l L k) := ⟨hM.out.1, fun j hj hjk => (hM.out.2 j hj hjk).zL hb1⟩; have hmade := hmade.weak (z' := w.heap.size + 1) hrow.lt; clear hM hN hrow c0 hb1; have hfr := fun i => hrow1.frozen i; have hz : w.heap.size < w1.heap.size := hrow1.lt; have e0 := hrow1.cell (i := k) (by omega))
      obtain ⟨hLl, hMk⟩ := hM1.out; have hkL : k < (L.set k h').length := by rw [List.length_set]; omega
      refine ⟨⟨k + 1, L.set k h', by omega, by go_num, bJ.store1 (l := L.set k h') (hk := hkL) hrow1 ?_ Yx.cells_length (by rw [List.getElem_set_self]; rfl), ?_, ?_⟩, by simp [intOf]; omega⟩
      · intro i hi hik j v hj
        rw [List.getElem_set_ne (by omega)] at hj; exact HF.out i (by rw [List.length_set] at hi; exact hi) hik j v hj
      · refine ⟨by rw [List.length_set]; exact hLl, fun j hj hjk => ?_⟩
        refine kW.other ?_ (Nat.lt_succ_self _) _ _
        by_cases e : j = k
        · subst e
          rw [List.getElem_set_self, ← HB.out]; exact hmade
        · rw [List.getElem_set_ne (by omega)]
          exact hMk j hj (by omega)
      · exact hN1.setCell (by exact nlq _) _
  · have hkk : k = l.length := by omega
    go_wp2
    go_ret; exact ⟨⟨L, rfl, by rw [hkk] at hR; exact hR, by rw [hkk] at hM; exact hM.out⟩, hN⟩
set_option maxHeartbeats 2000000
theorem RG (w : World) (t : Nat) (v0 v1 v2 v3 v4 v5 v6 v7 : Value) : (w.alloc (.cells #[v0, v1, v2, v3, v4, v5, v6, v7] t)).rowIs w.heap.size t 8 (fun i => (#[v0, v1, v2, v3, v4, v5, v6, v7] : Array Value).getD i undef) :=
 World.rowIs_alloc w #[v0, v1, v2, v3, v4, v5, v6, v7] t _ (fun i hi => by simp at hi; match i, hi with | 0, _ => rfl | 1, _ => rfl | 2, _ => rfl | 3, _ => rfl | 4, _ => rfl | 5, _ => rfl | 6, _ => rfl | 7, _ => rfl)
structure dO (z : Nat) (w : World) (x x' : Wx) : Prop where
 n : x'.n = x.n
 q : x'.q = x.q
 s : x'.s = x.s
 f : x'.f = x.f
 b : x'.b = x.b
 l : x'.l = x.l
 ll : x'.ll = x.ll
 wc : x'.wc = x.wl.length
 lc : x'.lc = x.ll.length
 mem : ∃ p r, x'.wa = some ⟨p, 0, none⟩ /\ x'.la = some ⟨r, 0, none⟩ /\ z <= p /\ p < r /\ bJ 174 1 Yx.cells w p x.wl.length x'.wl x.wl.length /\ iT (p + 1) w x.wl x'.wl x.wl.length /\ (∀ y ∈ x'.wl, ∀ g, y.a = some ⟨g, 0, none⟩ -> g < r) /\ bJ 3 1 i6 w r x.ll.length x.ll x.ll.length
theorem dO.zL {z : Nat} {w w' : World} {x x' : Wx} (h : dO z w x x') (hb : Below w.heap.size w w') : dO z w' x x' := by
 obtain ⟨h1, h2, h3, h4, h5, h6, h7, h8, h9, p, r, e1, e2, hz, hpr, R1, M, hlt, R2⟩ := h; exact ⟨h1, h2, h3, h4, h5, h6, h7, h8, h9, p, r, e1, e2, hz, hpr, R1.zL hb, M.zL hb, hlt, R2.zL hb⟩
theorem dO.inn {z : Nat} {w : World} {x x' : Wx} (h : dO z w x x') : x'.In w := by
 obtain ⟨h1, h2, h3, h4, h5, h6, h7, h8, h9, p, r, e1, e2, hz, hpr, R1, M, hlt, R2⟩ := h; have hml : x'.wl.length = x.wl.length := M.1; refine ⟨?_, M.inn, ?_⟩
 · rw [e1]; exact R1.xs Yx.cells_length (by omega) (by omega)
 · rw [e2, h7]; exact R2.xs (fun _ => rfl) (nlq _) (nlq _)
theorem dO.likes {z : Nat} {w : World} {x x' : Wx} (h : dO z w x x') : iN x.wl x'.wl := by
 obtain ⟨h1, h2, h3, h4, h5, h6, h7, h8, h9, p, r, e1, e2, hz, hpr, R1, M, hlt, R2⟩ := h; exact M.likes
theorem iN.all {l m : List Yx} (h : iN l m) (p : List Cx -> Bool) : (m.all fun y => p y.l) = l.all fun y => p y.l := by
 have e : m.map Yx.l = l.map Yx.l := List.ext_getElem (by simp [h.len]) (fun i h1 h2 => by simp only [List.getElem_map]; exact h.like i (by simpa using h2)); have g : ∀ k : List Yx, (k.all fun y => p y.l) = (k.map Yx.l).all p := fun k => by rw [List.all_map]; rfl
 rw [g, g, e]
theorem dO.fit {z : Nat} {w : World} {x x' : Wx} (h : dO z w x x') (hf : x.Fit) : x'.Fit := by
 have hl := h.likes; refine ⟨by rw [hl.len]; exact hf.wn, fun y hy => ?_, by rw [h.ll]; exact hf.ln, by rw [h.n]; exact hf.sn⟩; obtain ⟨k, hk, rfl⟩ := lgo hy; have hkl : k < x.wl.length := by rw [← hl.len]; exact hk
 rw [hl.like k hkl]; exact hf.yn _ (lgm hkl)
theorem wP {z : Nat} {w : World} {x x' : Wx} (h : dO z w x x') (fl : List Fx) : dE fl x' = dE fl x := by
 unfold dE lO gO lJ; rw [h.n, h.q, h.s, h.f, h.b, h.l, h.ll, h.likes.all (fG fl), h.likes.len]
theorem EG (x : Wx) (w : World) (hi : x.In w) (hf : x.Fit) :
 Calls Tryz.prog 50 #[x.val] w fun e w' => (∃ x', e = .returned x'.val /\ dO w.heap.size w' x x') /\ Below w.heap.size w w' := by
 have hwn := hf.wn; have hln := hf.ln; have a7 := aK (z := w.heap.size) (j := 7) (v := .slice x.la x.ll.length x.lc) ((halq ((w.alloc (.cells #[.string x.n, .int .i64 x.q, .int .i64 x.s, .int .i64 x.f, .int .i64 x.b, .int .i64 x.l, .slice x.wa x.wl.length x.wc, .slice x.la x.ll.length x.lc] 52)).alloc (.cells #[.string ⟨#[]⟩, .int .i64 0, .int .i64 0, .int .i64 0, .int .i64 0, .int .i64 0, .slice none 0 0, .slice none 0 0] 33)) (.cells #[.string x.n, .int .i64 x.q, .int .i64 x.s, .int .i64 x.f, .int .i64 x.b, .int .i64 x.l, .slice none 0 0, .slice none 0 0] 33) w.heap.size (by simp; omega)).trans ((halq (w.alloc (.cells #[.string x.n, .int .i64 x.q, .int .i64 x.s, .int .i64 x.f, .int .i64 x.b, .int .i64 x.l, .slice x.wa x.wl.length x.wc, .slice x.la x.ll.length x.lc] 52)) (.cells #[.string ⟨#[]⟩, .int .i64 0, .int .i64 0, .int .i64 0, .int .i64 0, .int .i64 0, .slice none 0 0, .slice none 0 0] 33) w.heap.size (by simp)).trans (wnq w _))) rfl; have rR := (RG (w.alloc (.cells #[.string x.n, .int .i64 x.q, .int .i64 x.s, .int .i64 x.f, .int .i64 x.b, .int .i64 x.l, .slice x.wa x.wl.length x.wc, .slice x.la x.ll.length x.lc] 52)) 33 (.string ⟨#[]⟩) (.int .i64 0) (.int .i64 0) (.int .i64 0) (.int .i64 0) (.int .i64 0) (.slice none 0 0) (.slice none 0 0)).alloc (.cells #[.string x.n, .int .i64 x.q, .int .i64 x.s, .int .i64 x.f, .int .i64 x.b, .int .i64 x.l, .slice none 0 0, .slice none 0 0] 33); have rO := RG ((w.alloc (.cells #[.string x.n, .int .i64 x.q, .int .i64 x.s, .int .i64 x.f, .int .i64 x.b, .int .i64 x.l, .slice x.wa x.wl.length x.wc, .slice x.la x.ll.length x.lc] 52)).alloc (.cells #[.string ⟨#[]⟩, .int .i64 0, .int .i64 0, .int .i64 0, .int .i64 0, .int .i64 0, .slice none 0 0, .slice none 0 0] 33)) 33 (.string x.n) (.int .i64 x.q) (.int .i64 x.s) (.int .i64 x.f) (.int .i64 x.b) (.int .i64 x.l) (.slice none 0 0) (.slice none 0 0); have hB0 : Below w.heap.size w (((w.alloc (.cells #[.string x.n, .int .i64 x.q, .int .i64 x.s, .int .i64 x.f, .int .i64 x.b, .int .i64 x.l, .slice x.wa x.wl.length x.wc, .slice x.la x.ll.length x.lc] 52)).alloc (.cells #[.string ⟨#[]⟩, .int .i64 0, .int .i64 0, .int .i64 0, .int .i64 0, .int .i64 0, .slice none 0 0, .slice none 0 0] 33)).alloc (.cells #[.string x.n, .int .i64 x.q, .int .i64 x.s, .int .i64 x.f, .int .i64 x.b, .int .i64 x.l, .slice none 0 0, .slice none 0 0] 33)) := aA (aA (aA (br _ _) _) _) _; have hz : (((w.alloc (.cells #[.string x.n, .int .i64 x.q, .int .i64 x.s, .int .i64 x.f, .int .i64 x.b, .int .i64 x.l, .slice x.wa x.wl.length x.wc, .slice x.la x.ll.length x.lc] 52)).alloc (.cells #[.string ⟨#[]⟩, .int .i64 0, .int .i64 0, .int .i64 0, .int .i64 0, .int .i64 0, .slice none 0 0, .slice none 0 0] 33)).alloc (.cells #[.string x.n, .int .i64 x.q, .int .i64 x.s, .int .i64 x.f, .int .i64 x.b, .int .i64 x.l, .slice none 0 0, .slice none 0 0] 33)).heap.size = w.heap.size + 3 := by simp
 simp only [wsa] at rR rO
 go_enter Tryz.func50, Tryz.ntmps50
 go_wp2_with fail
 obtain ⟨W0, hW0⟩ : ∃ W0, (((w.alloc (.cells #[.string x.n, .int .i64 x.q, .int .i64 x.s, .int .i64 x.f, .int .i64 x.b, .int .i64 x.l, .slice x.wa x.wl.length x.wc, .slice x.la x.ll.length x.lc] 52)).alloc (.cells #[.string ⟨#[]⟩, .int .i64 0, .int .i64 0, .int .i64 0, .int .i64 0, .int .i64 0, .slice none 0 0, .slice none 0 0] 33)).alloc (.cells #[.string x.n, .int .i64 x.q, .int .i64 x.s, .int .i64 x.f, .int .i64 x.b, .int .i64 x.l, .slice none 0 0, .slice none 0 0] 33)) = W0 := ⟨_, rfl⟩; rw [hW0] at a7 rR rO hB0 hz ⊢; clear hW0; refine (ES x.wl x.wa x.wc W0 (hi.ws.zL hB0) hwn (fun y m => ⟨(hi.yn y m).zL hB0, hf.yn y m⟩)).mono ?_; rintro e w1 ⟨⟨m, rfl, hr1, hM1⟩, hb1⟩; rw [hz] at hr1 hM1 ⊢; have rR1 := rR.of_block (hb1.block _ rR.lt); have rO1 := rO.of_block (hb1.block _ rO.lt); have a71 := (hb1.cell (aB a7)).trans a7; have hz1 : w.heap.size + 3 < w1.heap.size := hr1.lt; have hB1 : Below w.heap.size w w1 := aD hB0 hb1; clear rR rO a7 hb1 hB0 hz; have fO := fun i => rO1.frozen i; have o6 := rO1.cell (i := 6) (by omega); go_wp2_with fail
 have V6 : Value := .slice (some ⟨w.heap.size + 3, 0, none⟩) x.wl.length x.wl.length; clear V6; have rO2 := rO1.set 6 (.slice (some ⟨w.heap.size + 3, 0, none⟩) x.wl.length x.wl.length); have rR2 := rR1.setOther (a := ⟨w.heap.size + 1 + 1, 6, none⟩) (by simp) (.slice (some ⟨w.heap.size + 3, 0, none⟩) x.wl.length x.wl.length); have hr2 := hr1.setOther (a := ⟨w.heap.size + 1 + 1, 6, none⟩) (by simp) (.slice (some ⟨w.heap.size + 3, 0, none⟩) x.wl.length x.wl.length); have hM2 := hM1.other (g := w.heap.size + 1 + 1) (by omega) 6 (.slice (some ⟨w.heap.size + 3, 0, none⟩) x.wl.length x.wl.length); have hB2 : Below w.heap.size w (w1.setCell ⟨w.heap.size + 1 + 1, 6, none⟩ (.slice (some ⟨w.heap.size + 3, 0, none⟩) x.wl.length x.wl.length)) := hB1.setCell (by simp; omega) _; have hz2 : (w1.setCell ⟨w.heap.size + 1 + 1, 6, none⟩ (.slice (some ⟨w.heap.size + 3, 0, none⟩) x.wl.length x.wl.length)).heap.size = w1.heap.size := by simp
 obtain ⟨W2, hW2⟩ : ∃ W2, w1.setCell ⟨w.heap.size + 1 + 1, 6, none⟩ (.slice (some ⟨w.heap.size + 3, 0, none⟩) x.wl.length x.wl.length) = W2 := ⟨_, rfl⟩; rw [hW2] at rO2 rR2 hr2 hM2 hB2 hz2 ⊢; clear hW2 rO1 rR1 hr1 hM1 hB1 a71 o6 fO; refine (DN x.ll x.la x.lc W2 (hi.ls.zL hB2) hln).mono ?_; rintro e w3 ⟨rfl, hr3, hb3⟩; rw [hz2] at hr3 ⊢; have rR3 := rR2.of_block (hb3.block _ rR2.lt); have rO3 := rO2.of_block (hb3.block _ rO2.lt); have hr4 := hr2.zL hb3; have hM4 := hM2.zL hb3
 have hMlt : Hid (∀ y ∈ m, ∀ g, y.a = some ⟨g, 0, none⟩ -> g < w1.heap.size) := fun y hy g hg => by
  obtain ⟨k, hk, rfl⟩ := lgo hy; obtain ⟨_, _, p, e, _, r⟩ := hM2.2 k (by rw [← hM2.1]; exact hk) (by rw [← hM2.1]; exact hk); rw [e] at hg; simp at hg; have := r.lt; omega
 have hB3 : Below w.heap.size w w3 := aD hB2 hb3; have hz3 : w1.heap.size < w3.heap.size := hr3.lt; clear rR2 rO2 hr2 hM2 hB2 hb3 hz2 hi; have o0 := rO3.cell (i := 0) (by omega); have o1 := rO3.cell (i := 1) (by omega); have o2 := rO3.cell (i := 2) (by omega); have o3 := rO3.cell (i := 3) (by omega); have o4 := rO3.cell (i := 4) (by omega); have o5 := rO3.cell (i := 5) (by omega); have o6 := rO3.cell (i := 6) (by omega); have o7 := rO3.cell (i := 7) (by omega); have fO := fun i => rO3.frozen i; have p0 := rR3.cell (i := 0) (by omega); have p1 := rR3.cell (i := 1) (by omega); have p2 := rR3.cell (i := 2) (by omega); have p3 := rR3.cell (i := 3) (by omega); have p4 := rR3.cell (i := 4) (by omega); have p5 := rR3.cell (i := 5) (by omega); have p6 := rR3.cell (i := 6) (by omega); have p7 := rR3.cell (i := 7) (by omega); have fR := fun i => rR3.frozen i; have o0' : w3.cell? ⟨w.heap.size + 1 + 1, 0, none⟩ = some (.string x.n) := o0; have o1' : w3.cell? ⟨w.heap.size + 1 + 1, 1, none⟩ = some (.int .i64 x.q) := o1; have o2' : w3.cell? ⟨w.heap.size + 1 + 1, 2, none⟩ = some (.int .i64 x.s) := o2; have o3' : w3.cell? ⟨w.heap.size + 1 + 1, 3, none⟩ = some (.int .i64 x.f) := o3; have o4' : w3.cell? ⟨w.heap.size + 1 + 1, 4, none⟩ = some (.int .i64 x.b) := o4; have o5' : w3.cell? ⟨w.heap.size + 1 + 1, 5, none⟩ = some (.int .i64 x.l) := o5; have o6' : w3.cell? ⟨w.heap.size + 1 + 1, 6, none⟩ = some (.slice (some ⟨w.heap.size + 3, 0, none⟩) x.wl.length x.wl.length) := o6; clear o0 o1 o2 o3 o4 o5 o6; go_wp2
 have hml : m.length = x.wl.length := hM4.1; refine bpr (v := Wx.val ⟨x.n, x.q, x.s, x.f, x.b, x.l, some ⟨w.heap.size + 3, 0, none⟩, m, x.wl.length, some ⟨w1.heap.size, 0, none⟩, x.ll, x.ll.length⟩) (by simp [results, Tryz.results50, go_sem, p0, p1, p2, p3, p4, p5, p6, p7, hml]) rfl ?_; refine ⟨⟨_, rfl, rfl, rfl, rfl, rfl, rfl, rfl, rfl, rfl, rfl, _, _, rfl, rfl, by omega, hz1, ?_, ?_, hMlt.out, ?_⟩, ?_⟩
 · exact (((((((((hr4).setOther (by simp) _).setOther (by simp) _).setOther (by simp) _).setOther (by simp) _).setOther (by simp) _).setOther (by simp) _).setOther (by simp) _).setOther (by simp) _).setOther (by simp) _
 · exact (((((((((hM4).other (by omega) _ _).other (by omega) _ _).other (by omega) _ _).other (by omega) _ _).other (by omega) _ _).other (by omega) _ _).other (by omega) _ _).other (by omega) _ _).other (by omega) _ _
 · exact (((((((((hr3).setOther (by simp; omega) _).setOther (by simp; omega) _).setOther (by simp; omega) _).setOther (by simp; omega) _).setOther (by simp; omega) _).setOther (by simp; omega) _).setOther (by simp; omega) _).setOther (by simp; omega) _).setOther (by simp; omega) _
 · exact (((((((((hB3.setCell (by simp; omega) _)).setCell (by simp) _).setCell (by simp) _).setCell (by simp) _).setCell (by simp) _).setCell (by simp) _).setCell (by simp) _).setCell (by simp) _).setCell (by simp) _
structure pA (S : Nat -> Prop) (w w' : World) : Prop where
 os : w'.os = w.os
 tape : w'.tape = w.tape
 output : w'.output = w.output
 size : w.heap.size <= w'.heap.size
 block : ∀ k, k < w.heap.size -> ¬ S k -> w'.heap[k]? = w.heap[k]?
 rows : ∀ b t n f, w.rowIs b t n f -> ∃ f', w'.rowIs b t n f'
theorem pA.refl (S : Nat -> Prop) (w : World) : pA S w w := ⟨rfl, rfl, rfl, nlq _, fun _ _ _ => rfl, fun _ _ _ f h => ⟨f, h⟩⟩
theorem pA.trans {S : Nat -> Prop} {a b c : World} (h : pA S a b) (g : pA S b c) : pA S a c :=
 ⟨g.os.trans h.os, g.tape.trans h.tape, g.output.trans h.output, Nat.le_trans h.size g.size, fun k hk hs => (g.block k (Nat.lt_of_lt_of_le hk h.size) hs).trans (h.block k hk hs), fun b t n f hf => by obtain ⟨f1, h1⟩ := h.rows b t n f hf; exact g.rows b t n f1 h1⟩
theorem pA.below {S : Nat -> Prop} {w w' : World} (h : Below w.heap.size w w') : pA S w w' := ⟨h.os, h.tape, h.output, h.size, fun k hk _ => h.block k hk, fun _ _ _ f hf => ⟨f, hf.of_block (h.block _ hf.lt)⟩⟩
theorem pA.set {S : Nat -> Prop} {a w : World} (h : pA S a w) {g : Nat} (hg : S g) (o : Nat) (u : Value) : pA S a (w.setCell ⟨g, o, none⟩ u) :=
 h.trans ⟨rfl, rfl, rfl, by show w.heap.size <= (w.heap.modify _ _).size; rw [Array.size_modify]; exact nlq _, fun k _ hs => Below.heap_setCell w ⟨g, o, none⟩ u k (fun e => hs (by rw [show k = g from e]; exact hg)), fun b t n f hf => by
  by_cases e : b = g
  · subst e; exact ⟨_, hf.set o u⟩
  · exact ⟨f, hf.setOther (by exact e) u⟩⟩
theorem pA.cell {S : Nat -> Prop} {w w' : World} (h : pA S w w') {p : Addr} {v : Value} (hs : ¬ S p.block) (hc : w.cell? p = some v) : w'.cell? p = some v := by
 have := h.block p.block (aB hc) hs; unfold World.cell? at hc ⊢; rw [this]; exact hc
theorem IP (S : Nat -> Prop) (n capv g : Nat) (k0 : Int) (w : World) (hS : S g) (hR : ∃ f, w.rowIs g 171 (n * 2) f) (hn : n <= 1048576) (h0 : 0 <= k0) (h1 : k0 <= 1152921504606846976) :
 Calls Tryz.prog 148 #[.slice (some ⟨g, 0, none⟩) n capv, .int .i64 k0] w fun e w' => e = .returned (.int .i64 (k0 + 2 * n)) /\ pA S w w' := by
 obtain ⟨f0, hrow0⟩ := hR
 go_enter Tryz.func148, Tryz.ntmps148
 go_wp2
 go_loopw [1, 5] (fun kv i wr => ∃ j : Nat, j <= n /\ i = .int .i64 j /\ kv = .int .i64 (k0 + 2 * (j : Int)) /\ (∃ f, wr.rowIs g 171 (n * 2) f) /\ pA S w wr) (fun _ i _ => n - (intOf i).toNat)
 case atStart => exact ⟨0, nz _, rfl, by simp, ⟨f0, hrow0⟩, pA.refl _ _⟩
 case round =>
  clear hrow0; obtain ⟨j, hj, rfl, rfl, ⟨f, hrow⟩, hO⟩ := hrel
  by_cases hlt : j < n
  · have hfr := fun i => hrow.frozen i
    have e0 := hrow.cell (i := j * 2) (by omega); have e1 := hrow.cell (i := j * 2 + 1) (by omega); go_wp2
    go_roundw
    case rel => exact ⟨j + 1, by omega, by go_num, by go_num, ⟨_, (hrow.set _ _).set _ _⟩, (hO.set hS _ _).set hS _ _⟩
    case measure => simp [intOf]; omega
  · have hjn : j = n := by omega
    go_wp2
    go_ret; subst hjn; exact ⟨rfl, hO⟩
theorem KG (S : Nat -> Prop) (n capv g : Nat) (k0 : Int) (w : World) (hS : S g) (hR : ∃ f, w.rowIs g 3 (n * 1) f) (hn : n <= 1048576) (h0 : 0 <= k0) (h1 : k0 <= 1152921504606846976) :
 Calls Tryz.prog 111 #[.slice (some ⟨g, 0, none⟩) n capv, .int .i64 k0] w fun e w' => e = .returned (.int .i64 (k0 + n)) /\ pA S w w' := by
 obtain ⟨f0, hrow0⟩ := hR
 go_enter Tryz.func111, Tryz.ntmps111
 go_wp2
 go_loopw [1, 5] (fun kv i wr => ∃ j : Nat, j <= n /\ i = .int .i64 j /\ kv = .int .i64 (k0 + (j : Int)) /\ (∃ f, wr.rowIs g 3 (n * 1) f) /\ pA S w wr) (fun _ i _ => n - (intOf i).toNat)
 case atStart => exact ⟨0, nz _, rfl, by simp, ⟨f0, hrow0⟩, pA.refl _ _⟩
 case round =>
  clear hrow0; obtain ⟨j, hj, rfl, rfl, ⟨f, hrow⟩, hO⟩ := hrel
  by_cases hlt : j < n
  · have hfr := fun i => hrow.frozen i
    have e0 := hrow.cell (i := j) (by omega); go_wp2
    go_roundw
    case rel => exact ⟨j + 1, by omega, by go_num, by go_num, ⟨_, hrow.set _ _⟩, hO.set hS _ _⟩
    case measure => simp [intOf]; omega
  · have hjn : j = n := by omega
    go_wp2
    go_ret; subst hjn; exact ⟨rfl, hO⟩
theorem IV (S : Nat -> Prop) (l : List Yx) (capv p : Nat) (k0 : Int) (w : World) (hp : ¬ S p) (hl : ∀ i (h : i < l.length), aN w p (0 + i * 1) l[i].cells) (hn : l.length <= 1048576)
 (hy : ∀ y ∈ l, y.l.length <= 1048576 /\ ∃ g f, y.a = some ⟨g, 0, none⟩ /\ S g /\ w.rowIs g 171 (y.l.length * 2) f) (h0 : 0 <= k0) (h1 : k0 <= 1000000000000000) :
 Calls Tryz.prog 110 #[.slice (some ⟨p, 0, none⟩) l.length capv, .int .i64 k0] w fun e w' => (∃ r : Int, e = .returned (.int .i64 r) /\ 0 <= r /\ r <= 1000000000000000 + 2097152 * l.length) /\ pA S w w' := by
 go_enter Tryz.func110, Tryz.ntmps110
 go_wp2
 go_loopw [1, 5] (fun kv i wr => ∃ (j : Nat) (r : Int), j <= l.length /\ i = .int .i64 j /\ kv = .int .i64 r /\ 0 <= r /\ r <= 1000000000000000 + 2097152 * (j : Int) /\ pA S w wr) (fun _ i _ => l.length - (intOf i).toNat)
 case atStart => exact ⟨0, k0, nz _, rfl, rfl, h0, by omega, pA.refl _ _⟩
 case round =>
  obtain ⟨j, r, hj, rfl, rfl, hr0, hr1, hO⟩ := hrel
  by_cases hlt : j < l.length
  · have hc := p9 (hl j hlt)
    rw [Nat.mul_one, Nat.zero_add] at hc; obtain ⟨hyn, g, f, hya, hSg, hrow⟩ := hy l[j] (lgm hlt); generalize l[j] = y at hc hyn hya hrow; have hc1 := hO.cell (p := ⟨p, j, none⟩) hp hc; rw [hya] at hc1; have hrow1 := hO.rows _ _ _ _ hrow; have hi1 : (j : Int) < (l.length : Int) := by omega
    have hi0 : (0 : Int) <= (j : Int) := by omega
    clear hc hrow hya; go_wp2_with fail
    refine (IP S y.l.length y.c g r _ hSg hrow1 hyn hr0 (by omega)).mono ?_; rintro e w1 ⟨rfl, hO1⟩; have hO2 := hO.trans hO1; clear hO hO1 hrow1 hc1; go_wp2
    go_roundw
    case rel => exact ⟨j + 1, _, by omega, by go_num, rfl, by omega, by omega, hO2⟩
    case measure => simp [intOf]; omega
  · have hjn : j = l.length := by omega
    go_wp2
    go_ret; exact ⟨⟨r, rfl, hr0, by omega⟩, hO⟩
def MS (p B k : Nat) : Prop := p < k /\ k < B
theorem pA.wide {p z B : Nat} {w w' : World} (h : pA (MS p B) w w') (hz : z <= p + 1) : pA (fun k => z <= k /\ k < B) w w' :=
 ⟨h.os, h.tape, h.output, h.size, fun k hk hs => h.block k hk (fun q => hs ⟨by have := q.1; omega, q.2⟩), h.rows⟩
theorem zW {z B : Nat} {w : World} {x x' : Wx} (k0 : Int) (hk0 : 0 <= k0) (hk1 : k0 <= 1000000000000000) (h : dO z w x x') (hB : ∀ p, x'.la = some ⟨p, 0, none⟩ -> p < B) (hBw : B <= w.heap.size) (hf : x.Fit) :
 Calls Tryz.prog 58 #[x'.val, .int .i64 k0] w fun e w' => (∃ r : Int, e = .returned (.int .i64 r) /\ 0 <= r /\ r <= 2000000000000000000) /\ pA (fun k => z <= k /\ k < B) w w' := by
 have hfit := h.fit hf; obtain ⟨h1, h2, h3, h4, h5, h6, h7, h8, h9, p, r, e1, e2, hz, hpr, R1, M, hlt, R2⟩ := h; have hrB := hB r e2; have hml : x'.wl.length = x.wl.length := M.1; have hxs := R1.xs' Yx.cells_length (by omega) (by omega); have hwn := hfit.wn; have hln := hfit.ln; have hll : x'.ll.length = x.ll.length := by rw [h7]
 have hB0 : Below w.heap.size w (w.alloc x'.obj) := aA (br _ _) _; have hO := wnq w x'.obj; have k6 : (w.alloc x'.obj).cell? ⟨w.heap.size, 6, none⟩ = some (.slice (some ⟨p, 0, none⟩) x'.wl.length x'.wc) := by rw [← e1]; exact aK hO rfl
 have k7 : (w.alloc x'.obj).cell? ⟨w.heap.size, 7, none⟩ = some (.slice (some ⟨r, 0, none⟩) x'.ll.length x'.lc) := by rw [← e2]; exact aK hO rfl
 have hy : ∀ y ∈ x'.wl, y.l.length <= 1048576 /\ ∃ g f, y.a = some ⟨g, 0, none⟩ /\ MS p B g /\ (w.alloc x'.obj).rowIs g 171 (y.l.length * 2) f := fun y hy => by
  refine ⟨hfit.yn y hy, ?_⟩; have hlty := hlt y hy; obtain ⟨k, hk, rfl⟩ := lgo hy; obtain ⟨_, _, g, e, hz2, f, hrow, _⟩ := M.2 k (by omega) (by omega); exact ⟨g, f, e, ⟨by omega, by have := hlty g e; omega⟩, hrow.alloc _⟩
 have hxs' : ∀ i (h : i < x'.wl.length), aN (w.alloc x'.obj) p (0 + i * 1) x'.wl[i].cells := fun i h => (hxs i h).zL hB0; have hrz : r < w.heap.size := R2.lt; obtain ⟨fr, hrowr, _⟩ := R2.zL hB0; have HR : Hid ((w.alloc x'.obj).rowIs r 3 (x'.ll.length * 1) fr) := by rw [Hid, hll]; exact hrowr
 have HE1 : Hid (x'.wa = some ⟨p, 0, none⟩) := e1; have HE2 : Hid (x'.la = some ⟨r, 0, none⟩) := e2; have HB0 : Hid _ := hB0; obtain ⟨W0, hW0⟩ : ∃ W0, w.alloc x'.obj = W0 := ⟨_, rfl⟩
 have hv : x'.val = .agg #[.string x'.n, .int .i64 x'.q, .int .i64 x'.s, .int .i64 x'.f, .int .i64 x'.b, .int .i64 x'.l, .slice (some ⟨p, 0, none⟩) x'.wl.length x'.wc, .slice (some ⟨r, 0, none⟩) x'.ll.length x'.lc] := by
  show Value.agg _ = _
  rw [e1, e2]
 have ho : x'.obj = .cells #[.string x'.n, .int .i64 x'.q, .int .i64 x'.s, .int .i64 x'.f, .int .i64 x'.b, .int .i64 x'.l, .slice (some ⟨p, 0, none⟩) x'.wl.length x'.wc, .slice (some ⟨r, 0, none⟩) x'.ll.length x'.lc] 33 := by
  show Obj.cells _ _ = _
  rw [e1, e2]
 rw [hv]; have hW0' := hW0; rw [ho] at hW0'; rw [hW0] at k6 k7 hy hxs' HR HB0; clear hv ho hW0 hO M R1 R2 hxs hrowr e1 e2 h1 h2 h3 h4 h5 h6 h7 h8 h9 hlt hB0 HE1 HE2 hml hll
 go_enter Tryz.func58, Tryz.ntmps58
 go_wp2_with fail
 refine (IV (MS p B) x'.wl x'.wc p k0 W0 (fun h => by have := h.1; omega) hxs' hwn hy hk0 hk1).mono ?_; rintro e w1 ⟨⟨r1, rfl, hr0, hr1⟩, hM1⟩; have k71 : w1.cell? ⟨w.heap.size, 7, none⟩ = some (.slice (some ⟨r, 0, none⟩) x'.ll.length x'.lc) := hM1.cell (p := ⟨w.heap.size, 7, none⟩) (fun h => by have h2 : w.heap.size < B := h.2; omega) k7; have hrow1 := hM1.rows _ _ _ _ HR.out; clear k6 k7 hy hxs' hW0'; go_wp2_with fail
 refine (KG (MS p B) x'.ll.length x'.lc r r1 w1 ⟨hpr, hrB⟩ hrow1 hln hr0 (by omega)).mono ?_; rintro e w2 ⟨rfl, hM2⟩; have HM : Hid (pA (fun k => z <= k /\ k < B) w w2) := (pA.below HB0.out).trans ((hM1.trans hM2).wide (by omega)); go_wp2
 go_ret; exact ⟨⟨_, rfl, by omega, by omega⟩, HM.out⟩
theorem AM (x : Wx) (wa : Option Addr) (m : List Yx) (wc : Nat) (la : Option Addr) (lc : Nat) (w : World) (hi : x.In w) (hf : x.Fit) (hws : Xs 1 Yx.cells w wa m) (hmi : ∀ y ∈ m, y.In w) (hls : Xs 1 i6 w la x.ll) (hlk : iN x.wl m) :
 Calls Tryz.prog 54 #[x.val, .agg #[.string x.n, .int .i64 x.q, .int .i64 x.s, .int .i64 x.f, .int .i64 x.b, .int .i64 x.l, .slice wa m.length wc, .slice la x.ll.length lc]] w fun e w' => e = .returned (.bool true) /\ Below w.heap.size w w' := by
 have hB0 : Below w.heap.size w ((w.alloc x.obj).alloc (.cells #[.string x.n, .int .i64 x.q, .int .i64 x.s, .int .i64 x.f, .int .i64 x.b, .int .i64 x.l, .slice wa m.length wc, .slice la x.ll.length lc] 33)) := aA (aA (br _ _) _) _; have hO1 := (halq (w.alloc x.obj) (.cells #[.string x.n, .int .i64 x.q, .int .i64 x.s, .int .i64 x.f, .int .i64 x.b, .int .i64 x.l, .slice wa m.length wc, .slice la x.ll.length lc] 33) w.heap.size (by simp)).trans (wnq w x.obj); have hO2 := wnq (w.alloc x.obj) (.cells #[.string x.n, .int .i64 x.q, .int .i64 x.s, .int .i64 x.f, .int .i64 x.b, .int .i64 x.l, .slice wa m.length wc, .slice la x.ll.length lc] 33); rw [wsa] at hO2
 go_enter Tryz.func54, Tryz.ntmps54
 go_wp2_with fail
 refine (z7 x.wl m _ _ _ _ _ (hi.ws.zL hB0) (hws.zL hB0) hf.wn (fun y hy => ⟨(hi.yn y hy).zL hB0, hf.yn y hy⟩) (fun y hy => (hmi y hy).zL hB0) hlk).mono ?_; rintro e w1 ⟨rfl, hb1⟩; have A1 := (hb1.block _ (bH hO1)).trans hO1; have A2 := (hb1.block _ (bH hO2)).trans hO2; have hN := aD hB0 hb1; have k7 : w1.cell? ⟨w.heap.size, 7, none⟩ = some (.slice x.la x.ll.length x.lc) := aK A1 rfl; have j7 : w1.cell? ⟨w.heap.size + 1, 7, none⟩ = some (.slice la x.ll.length lc) := aK A2 rfl; clear hb1 hB0 hO1 hO2 A1 A2; go_wp2_with fail
 refine (CA x.ll _ _ _ _ _ (hi.ls.zL hN) (hls.zL hN) hf.ln).mono ?_; rintro e w2 ⟨rfl, hb2⟩; go_wp2
 go_ret; exact ⟨rfl, aD hN hb2⟩
theorem iN.symm {l m : List Yx} (h : iN l m) : iN m l := ⟨h.len.symm, fun k hk => (h.like k (by have := h.len; omega)).symm⟩
theorem iN.trans {l m n : List Yx} (h : iN l m) (g : iN m n) : iN l n := ⟨g.len.trans h.len, fun k hk => (g.like k (by have := h.len; omega)).trans (h.like k hk)⟩
theorem zT {x x2 x3 : Wx} {z2 z3 : Nat} {w : World} (h : dO z2 w x x2) (g : dO z3 w x x3) (hf : x.Fit) :
 Calls Tryz.prog 54 #[x2.val, x3.val] w fun e w' => e = .returned (.bool true) /\ Below w.heap.size w w' := by
 have hl := g.inn.ls; have e := g.ll.trans h.ll.symm; rw [e] at hl; have := AM x2 x3.wa x3.wl x3.wc x3.la x3.lc w h.inn (h.fit hf) g.inn.ws g.inn.yn hl (h.likes.symm.trans g.likes)
 have ev : x3.val = .agg #[.string x2.n, .int .i64 x2.q, .int .i64 x2.s, .int .i64 x2.f, .int .i64 x2.b, .int .i64 x2.l, .slice x3.wa x3.wl.length x3.wc, .slice x3.la x2.ll.length x3.lc] := by
  show Value.agg _ = _
  rw [g.n, g.q, g.s, g.f, g.b, g.l, h.n, h.q, h.s, h.f, h.b, h.l, ← e]
 rw [ev]; exact this
end Go.Proofs.YtiojdbffjdoniaaGreatDoor
