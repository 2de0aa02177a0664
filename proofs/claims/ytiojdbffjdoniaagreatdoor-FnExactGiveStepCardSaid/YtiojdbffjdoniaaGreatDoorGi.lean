import Derived.Test.YtiojdbffjdoniaaGreatDoorGh
import Derived.Test.YtiojdbffjdoniaaGreatDoorLw
namespace Go.Proofs.YtiojdbffjdoniaaGreatDoor
open Go.RowKit Go.Shelf
attribute [local go_sem] Oper.semAt_some
abbrev QY : Obj := .cells #[.int .i64 0, .slice none 0 0, .slice none 0 0] 29
def QQ (w : World) (k : Nat) : Prop := ∃ cs t, w.heap[k]? = some (.cells cs t) /\ t ≠ 82 /\ t ≠ 42 /\ t ≠ 89
theorem QQ.no {w : World} {k t n : Nat} {f : Nat -> Value} (h : QQ w k) (hr : w.rowIs k t n f) (ht : t = 82 ∨ t = 42 ∨ t = 89) : False := by
 obtain ⟨cs, t', e, h1, h2, h3⟩ := h; obtain ⟨cs', e', _⟩ := hr; rw [e] at e'
 cases e'
 rcases ht with ht | ht | ht
 · exact h1 ht
 · exact h2 ht
 · exact h3 ht
theorem cS.odd {S : Nat -> Prop} {z : Nat} {w w' : World} {b : Bk} (h : cS z w b) (hb : bC S w w') (hs : ∀ k, S k -> QQ w k) : cS z w' b :=
 ⟨h.f.butRow hb (fun k _ _ _ hr g => (hs k g).no hr (.inl rfl)), h.h.butRow hb (fun k _ _ _ hr g => (hs k g).no hr (.inr (.inl rfl))), fun x hx => (h.t x hx).but hb (fun q hq g => by
  obtain ⟨_, _, r⟩ := (h.t x hx).bs_row q hq
  exact (hs q g).no r (.inr (.inr rfl)))⟩
theorem cP.odd {S : Nat -> Prop} {z : Nat} {w w' : World} {b : Bk} (h : cP z w b) (hb : bC S w w') (hs : ∀ k, S k -> QQ w k) : cP z w' b := by
 refine ⟨?_, ?_, fun x hx => (h.t x hx).but hb (fun q hq g => ?_), h.d, h.z⟩
 · rcases h.f with e | ⟨p, cap, e, h1, h2, f, hr, hf⟩
   · exact .inl e
   · exact .inr ⟨p, cap, e, h1, h2, f, hr.of_block (hb.block _ hr.lt (fun g => (hs p g).no hr (.inl rfl))), hf⟩
 · rcases h.h with e | ⟨p, cap, e, h1, h2, f, hr, hf⟩
   · exact .inl e
   · exact .inr ⟨p, cap, e, h1, h2, f, hr.of_block (hb.block _ hr.lt (fun g => (hs p g).no hr (.inr (.inl rfl)))), hf⟩
 · obtain ⟨_, _, r⟩ := (h.t x hx).bs_row q hq
   exact (hs q g).no r (.inr (.inr rfl))
abbrev RK (p : Nat) (W : World) (y : Bk) : World := ((W.setCell ⟨p, 0, none⟩ (.int .i64 y.now)).setCell ⟨p, 1, none⟩ (.slice y.fa y.fl.length y.fc)).setCell ⟨p, 2, none⟩ (.slice y.ha y.hl.length y.hc)
theorem OH (p : Nat) (W : World) (y : Bk) : bC (fun k => k = p) W (RK p W y) := (((bC.refl (fun k => k = p) W).set (g := p) rfl _ _).set (g := p) rfl _ _).set (g := p) rfl _ _
theorem NV {p : Nat} {W : World} (y : Bk) (h : W.heap[p]? = some QY) : (RK p W y).heap[p]? = some y.obj := aX (aX (aX h 0 (.int .i64 y.now)) 1 (.slice y.fa y.fl.length y.fc)) 2 (.slice y.ha y.hl.length y.hc)
set_option maxRecDepth 100000
set_option maxHeartbeats 4000000
abbrev Ev.objL (v : Ev) : Obj := .cells #[.int .i64 v.k, .string v.n, .bool v.t, .string v.x.n, .int .i64 v.x.q, .int .i64 v.x.s, .int .i64 v.x.f, .int .i64 v.x.b, .int .i64 v.x.l, .slice v.x.wa v.x.wl.length v.x.wc, .slice v.x.la v.x.ll.length v.x.lc, .slice v.ta v.tl.length v.tc] 55
structure gD (z : Nat) (w : World) (v v' : Ev) : Prop where
 k : v'.k = v.k
 n : v'.n = v.n
 t : v'.t = v.t
 x : dO z w v.x v'.x
 tl : v'.tl = v.tl
 tu : ∃ g, v'.ta = some ⟨g, 0, none⟩ /\ v'.tc = v.tl.length /\ z <= g /\ (∀ p, v'.x.la = some ⟨p, 0, none⟩ -> p < g) /\ eZ w g v.tl.length v.tl v.tl.length
theorem dO.weak {z z' : Nat} {w : World} {x x' : Wx} (h : dO z w x x') (hz' : z' <= z) : dO z' w x x' := by
 obtain ⟨h1, h2, h3, h4, h5, h6, h7, h8, h9, p, r, e1, e2, hz, hpr, R1, M, hlt, R2⟩ := h; exact ⟨h1, h2, h3, h4, h5, h6, h7, h8, h9, p, r, e1, e2, Nat.le_trans hz' hz, hpr, R1, M, hlt, R2⟩
theorem gD.zL {z : Nat} {w w' : World} {v v' : Ev} (h : gD z w v v') (hb : Below w.heap.size w w') : gD z w' v v' := by
 obtain ⟨h1, h2, h3, h4, h5, g, e1, e2, e3, e4, e5⟩ := h; exact ⟨h1, h2, h3, h4.zL hb, h5, g, e1, e2, e3, e4, e5.zL hb⟩
theorem gD.bxs {z : Nat} {w : World} {v v' : Ev} (h : gD z w v v') : iL w v'.ta v'.tl := by
 obtain ⟨g, e1, e2, e3, _, e4⟩ := h.tu; rw [h.tl, e1]; exact e4.bxs (nlq _) (nlq _)
theorem k8 (v : Ev) (w : World) (hi : v.x.In w) (hf : v.x.Fit) (ht : iL w v.ta v.tl) (hnt : v.tl.length <= 1048576) :
 Calls Tryz.prog 16 #[v.val] w fun e w' => (∃ v' : Ev, e = .returned v'.val /\ gD w.heap.size w' v v') /\ Below w.heap.size w w' := by
 obtain ⟨e0, he0⟩ : ∃ e0 : Obj, e0 = .cells #[.int .i64 0, .string ⟨#[]⟩, .bool false, .string ⟨#[]⟩, .int .i64 0, .int .i64 0, .int .i64 0, .int .i64 0, .int .i64 0, .slice none 0 0, .slice none 0 0, .slice none 0 0] 36 := ⟨_, rfl⟩; obtain ⟨e1, he1⟩ : ∃ e1 : Obj, e1 = .cells #[.int .i64 v.k, .string v.n, .bool v.t, .string ⟨#[]⟩, .int .i64 0, .int .i64 0, .int .i64 0, .int .i64 0, .int .i64 0, .slice none 0 0, .slice none 0 0, .slice none 0 0] 36 := ⟨_, rfl⟩; have N0 : Below w.heap.size w (((w.alloc v.objL).alloc e0).alloc e1) := aA (aA (aA (br _ _) _) _) _; have V0 := (halq ((w.alloc v.objL).alloc e0) e1 w.heap.size (by simp; omega)).trans ((halq (w.alloc v.objL) e0 w.heap.size (by simp)).trans (wnq w v.objL)); have R0 := (halq ((w.alloc v.objL).alloc e0) e1 (w.alloc v.objL).heap.size (by simp)).trans (wnq (w.alloc v.objL) e0); have O0 := wnq ((w.alloc v.objL).alloc e0) e1; simp only [wsa] at R0 O0
 go_enter Tryz.func16, Tryz.ntmps16
 go_wp2_with fail
 rw [← he0, ← he1]; obtain ⟨W0, hW0⟩ : ∃ W0, ((w.alloc v.objL).alloc e0).alloc e1 = W0 := ⟨_, rfl⟩; rw [hW0] at N0 V0 R0 O0 ⊢; rw [he0] at R0; rw [he1] at O0; have hz0 : w.heap.size + 1 + 1 < W0.heap.size := (bH O0); clear hW0 he0 he1; refine (EG v.x W0 (hi.zL N0) hf).mono ?_; rintro e w1 ⟨⟨x1, rfl, hx1⟩, hb1⟩; have N1 := aD N0 hb1; have HV1 : Hid _ := aY V0 hb1; have HR1 : Hid _ := aY R0 hb1; have O1 := aY O0 hb1; have hz1 := hb1.size; obtain ⟨o0, o1, o2, o3, o4, o5, o6, o7, o8, o9, o10, o11⟩ := iZ O1; have fO : ∀ i, w1.frozen? ⟨w.heap.size + 1 + 1, i, none⟩ = false := fun i => by simp [World.frozen?, O1]
 have O2 := (aX (aX (aX (aX (aX (aX (aX (aX O1 3 (.string x1.n)) 4 (.int .i64 x1.q)) 5 (.int .i64 x1.s)) 6 (.int .i64 x1.f)) 7 (.int .i64 x1.b)) 8 (.int .i64 x1.l)) 9 (.slice x1.wa x1.wl.length x1.wc)) 10 (.slice x1.la x1.ll.length x1.lc)); have b2 : bC (fun k => k = w.heap.size + 1 + 1) w1 ((((((((w1.setCell ⟨w.heap.size + 1 + 1, 3, none⟩ (.string x1.n)).setCell ⟨w.heap.size + 1 + 1, 4, none⟩ (.int .i64 x1.q)).setCell ⟨w.heap.size + 1 + 1, 5, none⟩ (.int .i64 x1.s)).setCell ⟨w.heap.size + 1 + 1, 6, none⟩ (.int .i64 x1.f)).setCell ⟨w.heap.size + 1 + 1, 7, none⟩ (.int .i64 x1.b)).setCell ⟨w.heap.size + 1 + 1, 8, none⟩ (.int .i64 x1.l)).setCell ⟨w.heap.size + 1 + 1, 9, none⟩ (.slice x1.wa x1.wl.length x1.wc)).setCell ⟨w.heap.size + 1 + 1, 10, none⟩ (.slice x1.la x1.ll.length x1.lc)) := (((((((((bC.refl (fun k => k = w.heap.size + 1 + 1) w1).set (g := w.heap.size + 1 + 1) rfl 3 (.string x1.n)).set (g := w.heap.size + 1 + 1) rfl 4 (.int .i64 x1.q)).set (g := w.heap.size + 1 + 1) rfl 5 (.int .i64 x1.s)).set (g := w.heap.size + 1 + 1) rfl 6 (.int .i64 x1.f)).set (g := w.heap.size + 1 + 1) rfl 7 (.int .i64 x1.b)).set (g := w.heap.size + 1 + 1) rfl 8 (.int .i64 x1.l)).set (g := w.heap.size + 1 + 1) rfl 9 (.slice x1.wa x1.wl.length x1.wc)).set (g := w.heap.size + 1 + 1) rfl 10 (.slice x1.la x1.ll.length x1.lc)); obtain ⟨W2, hW2⟩ : ∃ W2, ((((((((w1.setCell ⟨w.heap.size + 1 + 1, 3, none⟩ (.string x1.n)).setCell ⟨w.heap.size + 1 + 1, 4, none⟩ (.int .i64 x1.q)).setCell ⟨w.heap.size + 1 + 1, 5, none⟩ (.int .i64 x1.s)).setCell ⟨w.heap.size + 1 + 1, 6, none⟩ (.int .i64 x1.f)).setCell ⟨w.heap.size + 1 + 1, 7, none⟩ (.int .i64 x1.b)).setCell ⟨w.heap.size + 1 + 1, 8, none⟩ (.int .i64 x1.l)).setCell ⟨w.heap.size + 1 + 1, 9, none⟩ (.slice x1.wa x1.wl.length x1.wc)).setCell ⟨w.heap.size + 1 + 1, 10, none⟩ (.slice x1.la x1.ll.length x1.lc)) = W2 := ⟨_, rfl⟩; rw [hW2] at O2 b2; have O2' : W2.heap[w.heap.size + 1 + 1]? = some (.cells #[.int .i64 v.k, .string v.n, .bool v.t, .string x1.n, .int .i64 x1.q, .int .i64 x1.s, .int .i64 x1.f, .int .i64 x1.b, .int .i64 x1.l, .slice x1.wa x1.wl.length x1.wc, .slice x1.la x1.ll.length x1.lc, .slice none 0 0] 36) := by simpa only [List.setIfInBounds_toArray, List.set_cons_succ, List.set_cons_zero] using O2
 have V2 := cA HV1.out b2 (fun e => by have e' : w.heap.size = w.heap.size + 1 + 1 := e; omega); have HR2 : Hid _ := cA HR1.out b2 (fun e => by have e' : w.heap.size + 1 = w.heap.size + 1 + 1 := e; omega); have N2 := b2.under N1 (nlq _) (fun k hk => by have hk' : k = w.heap.size + 1 + 1 := hk; omega); have HLa : Hid (∀ p, x1.la = some ⟨p, 0, none⟩ -> p < w1.heap.size) := hx1.laEnd; have HX2 : Hid (dO W0.heap.size W2 v.x x1) := hx1.keep (fun k h1 h2 => b2.block k h2 (fun e => by have e' : k = w.heap.size + 1 + 1 := e; omega)); have v11 : W2.cell? ⟨w.heap.size, 11, none⟩ = some (.slice v.ta v.tl.length v.tc) := aK V2 rfl; have hz2 : w1.heap.size <= W2.heap.size := b2.size; have HO2 : Hid _ := O2'; clear O1 O2 O2' V2 hx1 b2 V0 R0 O0 HV1 HR1 N0 N1 hb1 hi; go_wp2_with fail
 clear hW2 o0 o1 o2 o3 o4 o5 o6 o7 o8 o9 o10 o11 fO; refine (pB v.tl v.ta v.tc W2 (ht.zL N2) hnt).mono ?_; rintro e w3 ⟨rfl, hT, hb3⟩; have N3 := aD N2 hb3; have HX3 : Hid _ := HX2.out.zL hb3; have O3 := aY HO2.out hb3; have R3 := aY HR2.out hb3; obtain ⟨o0, o1, o2, o3, o4, o5, o6, o7, o8, o9, o10, o11⟩ := iZ O3; have fO : ∀ i, w3.frozen? ⟨w.heap.size + 1 + 1, i, none⟩ = false := fun i => by simp [World.frozen?, O3]
 obtain ⟨r0, r1, r2, r3, r4, r5, r6, r7, r8, r9, r10, r11⟩ := iZ R3; have fR : ∀ i, w3.frozen? ⟨w.heap.size + 1, i, none⟩ = false := fun i => by simp [World.frozen?, R3]
 have HT : Hid (eZ w3 W2.heap.size v.tl.length v.tl v.tl.length) := hT; have hzt : W2.heap.size < w3.heap.size := by obtain ⟨_, hr, _⟩ := hT; exact hr.lt
 have bO : bC (fun k => k = w.heap.size + 1 + 1 ∨ k = w.heap.size + 1) w3 (((((((((((((w3.setCell ⟨w.heap.size + 1 + 1, 11, none⟩ (.slice (some ⟨W2.heap.size, 0, none⟩) v.tl.length v.tl.length)).setCell ⟨w.heap.size + 1, 0, none⟩ (.int .i64 v.k)).setCell ⟨w.heap.size + 1, 1, none⟩ (.string v.n)).setCell ⟨w.heap.size + 1, 2, none⟩ (.bool v.t)).setCell ⟨w.heap.size + 1, 3, none⟩ (.string x1.n)).setCell ⟨w.heap.size + 1, 4, none⟩ (.int .i64 x1.q)).setCell ⟨w.heap.size + 1, 5, none⟩ (.int .i64 x1.s)).setCell ⟨w.heap.size + 1, 6, none⟩ (.int .i64 x1.f)).setCell ⟨w.heap.size + 1, 7, none⟩ (.int .i64 x1.b)).setCell ⟨w.heap.size + 1, 8, none⟩ (.int .i64 x1.l)).setCell ⟨w.heap.size + 1, 9, none⟩ (.slice x1.wa x1.wl.length x1.wc)).setCell ⟨w.heap.size + 1, 10, none⟩ (.slice x1.la x1.ll.length x1.lc)).setCell ⟨w.heap.size + 1, 11, none⟩ (.slice (some ⟨W2.heap.size, 0, none⟩) v.tl.length v.tl.length)) := ((((((((((((((bC.refl (fun k => k = w.heap.size + 1 + 1 ∨ k = w.heap.size + 1) w3).set (g := w.heap.size + 1 + 1) (.inl rfl) 11 _).set (g := w.heap.size + 1) (.inr rfl) 0 _).set (g := w.heap.size + 1) (.inr rfl) 1 _).set (g := w.heap.size + 1) (.inr rfl) 2 _).set (g := w.heap.size + 1) (.inr rfl) 3 _).set (g := w.heap.size + 1) (.inr rfl) 4 _).set (g := w.heap.size + 1) (.inr rfl) 5 _).set (g := w.heap.size + 1) (.inr rfl) 6 _).set (g := w.heap.size + 1) (.inr rfl) 7 _).set (g := w.heap.size + 1) (.inr rfl) 8 _).set (g := w.heap.size + 1) (.inr rfl) 9 _).set (g := w.heap.size + 1) (.inr rfl) 10 _).set (g := w.heap.size + 1) (.inr rfl) 11 _); have HN4 : Hid _ := bO.under N3 (nlq _) (fun k hk => by rcases hk with hk | hk <;> omega); obtain ⟨W4, hW4⟩ : ∃ W4, (((((((((((((w3.setCell ⟨w.heap.size + 1 + 1, 11, none⟩ (.slice (some ⟨W2.heap.size, 0, none⟩) v.tl.length v.tl.length)).setCell ⟨w.heap.size + 1, 0, none⟩ (.int .i64 v.k)).setCell ⟨w.heap.size + 1, 1, none⟩ (.string v.n)).setCell ⟨w.heap.size + 1, 2, none⟩ (.bool v.t)).setCell ⟨w.heap.size + 1, 3, none⟩ (.string x1.n)).setCell ⟨w.heap.size + 1, 4, none⟩ (.int .i64 x1.q)).setCell ⟨w.heap.size + 1, 5, none⟩ (.int .i64 x1.s)).setCell ⟨w.heap.size + 1, 6, none⟩ (.int .i64 x1.f)).setCell ⟨w.heap.size + 1, 7, none⟩ (.int .i64 x1.b)).setCell ⟨w.heap.size + 1, 8, none⟩ (.int .i64 x1.l)).setCell ⟨w.heap.size + 1, 9, none⟩ (.slice x1.wa x1.wl.length x1.wc)).setCell ⟨w.heap.size + 1, 10, none⟩ (.slice x1.la x1.ll.length x1.lc)).setCell ⟨w.heap.size + 1, 11, none⟩ (.slice (some ⟨W2.heap.size, 0, none⟩) v.tl.length v.tl.length)) = W4 := ⟨_, rfl⟩; have R4 := (aX (aX (aX (aX (aX (aX (aX (aX (aX (aX (aX (aX (bE R3 (p := ⟨w.heap.size + 1 + 1, 11, none⟩) (by show w.heap.size + 1 ≠ w.heap.size + 1 + 1; omega) (.slice (some ⟨W2.heap.size, 0, none⟩) v.tl.length v.tl.length)) 0 (.int .i64 v.k)) 1 (.string v.n)) 2 (.bool v.t)) 3 (.string x1.n)) 4 (.int .i64 x1.q)) 5 (.int .i64 x1.s)) 6 (.int .i64 x1.f)) 7 (.int .i64 x1.b)) 8 (.int .i64 x1.l)) 9 (.slice x1.wa x1.wl.length x1.wc)) 10 (.slice x1.la x1.ll.length x1.lc)) 11 (.slice (some ⟨W2.heap.size, 0, none⟩) v.tl.length v.tl.length)); rw [hW4] at bO HN4 R4; have R5 : W4.heap[w.heap.size + 1]? = some (.cells #[.int .i64 v.k, .string v.n, .bool v.t, .string x1.n, .int .i64 x1.q, .int .i64 x1.s, .int .i64 x1.f, .int .i64 x1.b, .int .i64 x1.l, .slice x1.wa x1.wl.length x1.wc, .slice x1.la x1.ll.length x1.lc, .slice (some ⟨W2.heap.size, 0, none⟩) v.tl.length v.tl.length] 36) := by simpa only [List.setIfInBounds_toArray, List.set_cons_succ, List.set_cons_zero] using R4
 have HR4 : Hid _ := R5; have HX4 : Hid (dO W0.heap.size W4 v.x x1) := HX3.out.keep (fun k h1 h2 => bO.block k h2 (fun hk => by rcases hk with hk | hk <;> omega)); have HT4 : Hid (eZ W4 W2.heap.size v.tl.length v.tl v.tl.length) := by obtain ⟨f, hr, hv⟩ := HT.out; exact ⟨f, hr.of_block (bO.block _ hzt (fun hk => by rcases hk with hk | hk <;> omega)), hv⟩
 clear O3 R3 R4 R5 hT HX2 HO2 HR2 v11 N2 hb3 bO ht; go_wp2_with fail
 have R5 := HR4.out; obtain ⟨c0, c1, c2, c3, c4, c5, c6, c7, c8, c9, c10, c11⟩ := iZ R5; exact bpr (v := Ev.val ⟨v.k, v.n, v.t, x1, some ⟨W2.heap.size, 0, none⟩, v.tl, v.tl.length⟩) (by simp [results, Tryz.results16, go_sem, c0, c1, c2, c3, c4, c5, c6, c7, c8, c9, c10, c11]) rfl ⟨⟨_, rfl, ⟨rfl, rfl, rfl, HX4.out.weak (by omega), rfl, W2.heap.size, rfl, rfl, by omega, fun p hp => by have := HLa.out p hp; omega, HT4.out⟩⟩, HN4.out⟩
theorem DH (v : Ev) (left : Int) (w : World) (hi : v.x.In w) (h0 : 0 <= left) (h1 : left <= 1048576) (hw : v.x.Wide) (hn : v.n.size <= 9223372036854775807) (hnt : v.tl.length <= 9223372036854775807) :
 Calls Tryz.prog 14 #[v.val, .int .i64 left] w fun e w' => (∃ r : Int, e = .returned (.int .i64 r) /\ -1 <= r /\ (0 <= r -> v.x.Fit /\ v.tl.length <= 1048576)) /\ Below w.heap.size w w' := by
 have N0 : Below w.heap.size w (w.alloc v.objL) := aA (br _ _) _; have V0 := wnq w v.objL; obtain ⟨W0, hW0⟩ : ∃ W0, w.alloc v.objL = W0 := ⟨_, rfl⟩; rw [hW0] at N0 V0; obtain ⟨e0, e1, e2, e3, e4, e5, e6, e7, e8, e9, e10, e11⟩ := iZ V0; have HV0 : Hid (W0.heap[w.heap.size]? = some v.objL) := V0; clear V0
 by_cases hs : (v.n.size : Int) <= left
 · have hd : decide (left - (v.n.size : Int) < 0) = false := by simp; omega
   go_enter Tryz.func14, Tryz.ntmps14
   go_wp2_with fail
   clear e0 e1 e2 e3 e4 e5 e6 e7 e8 e9 e10 e11 hW0; refine (D7 v.x (left - (v.n.size : Int)) W0 (hi.zL N0) (by omega) (by omega) hw).mono ?_; rintro e w1 ⟨⟨r, rfl, hr0, hr1⟩, hb1⟩; have e11 : w1.cell? ⟨w.heap.size, 11, none⟩ = some (.slice v.ta v.tl.length v.tc) := aK (aY HV0.out hb1) rfl; have N1 := aD N0 hb1; clear hb1 hd
   by_cases hr : 0 <= r
   · obtain ⟨hrl, hfit⟩ := hr1 hr
     have hd : decide (r < 0) = false := by simp; omega
     go_wp2_with fail
     refine (xS v.tl.length v.tc r v.ta w1 hr (by omega) hnt).mono ?_; rintro e w2 ⟨⟨r2, rfl, hq0, hq1⟩, rfl⟩; clear hd
     by_cases hq : 0 <= r2
     · have hd : decide (r2 < 0) = false := by simp; omega
       have hh := hq1 hq; go_wp2_with fail
       go_ret; exact ⟨⟨_, rfl, by omega, fun _ => ⟨hfit, by omega⟩⟩, N1⟩
     · have hd : decide (r2 < 0) = true := by simp; omega
       go_wp2_with fail
       go_ret; exact ⟨⟨_, rfl, by omega, fun h => absurd h (by decide)⟩, N1⟩
   · have hd : decide (r < 0) = true := by simp; omega
     go_wp2_with fail
     go_ret; exact ⟨⟨_, rfl, by omega, fun h => absurd h (by decide)⟩, N1⟩
 · have hd : decide (left - (v.n.size : Int) < 0) = true := by simp; omega
   go_enter Tryz.func14, Tryz.ntmps14
   go_wp2_with fail
   go_ret; exact ⟨⟨_, rfl, by omega, fun h => absurd h (by decide)⟩, N0⟩
theorem zC {v v2 v3 : Ev} {z2 z3 : Nat} {w : World} (h : gD z2 w v v2) (g : gD z3 w v v3) (hf : v.x.Fit) (hnt : v.tl.length <= 1048576) :
 Calls Tryz.prog 18 #[v2.val, v3.val] w fun e w' => e = .returned (.bool true) /\ Below w.heap.size w w' := by
 have N0 : Below w.heap.size w ((w.alloc v2.obj).alloc v3.obj) := aA (aA (br _ _) _) _; have A0 := (halq (w.alloc v2.obj) v3.obj w.heap.size (by simp)).trans (wnq w v2.obj); have B0 := wnq (w.alloc v2.obj) v3.obj; rw [wsa] at B0; obtain ⟨W0, hW0⟩ : ∃ W0, (w.alloc v2.obj).alloc v3.obj = W0 := ⟨_, rfl⟩; rw [hW0] at N0 A0 B0; obtain ⟨e0, e1, e2, e3, e4, e5, e6, e7, e8, e9, e10, e11⟩ := iZ A0; obtain ⟨f0, f1, f2, f3, f4, f5, f6, f7, f8, f9, f10, f11⟩ := iZ B0; have q0 : (v2.k == v3.k) = true := by rw [h.k, g.k]; exact beq_self_eq_true _
 have q1 : v3.n = v2.n := by rw [h.n, g.n]
 have q2 : v3.t = v2.t := by rw [h.t, g.t]
 have HA0 : Hid (W0.heap[w.heap.size]? = some v2.obj) := A0; have HB0 : Hid (W0.heap[w.heap.size + 1]? = some v3.obj) := B0; rw [show v3.k = v2.k from by rw [h.k, g.k]] at f0; rw [q1] at f1; rw [q2] at f2; clear A0 B0 q0 q1 q2
 go_enter Tryz.func18, Tryz.ntmps18
 go_wp2_with fail
 clear e0 f0 e1 f1 e2 f2 e3 f3 e4 f4 e5 f5 e6 f6 e7 f7 e8 f8 e9 f9 e10 f10 e11 f11 hW0; refine (zT (h.x.zL N0) (g.x.zL N0) hf).mono ?_; rintro e w1 ⟨rfl, hb1⟩; have e11 : w1.cell? ⟨w.heap.size, 11, none⟩ = some (.slice v2.ta v2.tl.length v2.tc) := aK (aY HA0.out hb1) rfl; have f11 : w1.cell? ⟨w.heap.size + 1, 11, none⟩ = some (.slice v3.ta v3.tl.length v3.tc) := aK (aY HB0.out hb1) rfl; have N1 := aD N0 hb1; go_wp2_with fail
 refine (oZ v2.tl v3.tl v2.ta v3.ta v2.tc v3.tc w1 (h.bxs.zL N1) (g.bxs.zL N1) (by rw [h.tl]; exact hnt) (by rw [g.tl]; exact hnt)).mono ?_; rintro e w2 ⟨rfl, hb2⟩; have N2 := aD N1 hb2; rw [show v3.tl = v2.tl from by rw [h.tl, g.tl], uZ]; clear e11 f11; go_wp2_with fail
 go_ret; exact ⟨rfl, N2⟩
theorem EL {z B : Nat} {w : World} {v v' : Ev} (k0 : Int) (hk0 : 0 <= k0) (hk1 : k0 <= 1000000000000000) (h : gD z w v v') (hB : ∀ p, v'.ta = some ⟨p, 0, none⟩ -> p < B) (hBw : B <= w.heap.size) (hf : v.x.Fit) (hnt : v.tl.length <= 1048576) :
 Calls Tryz.prog 20 #[v'.val, .int .i64 k0] w fun e w' => (∃ r : Int, e = .returned (.int .i64 r) /\ 0 <= r) /\ bC (fun k => z <= k /\ k < B) w w' := by
 obtain ⟨g, hg, hc, hzg, hla, hR⟩ := h.tu; have hgB := hB g hg; have N0 : Below w.heap.size w (w.alloc v'.obj) := aA (br _ _) _; have V0 := wnq w v'.obj; obtain ⟨W0, hW0⟩ : ∃ W0, w.alloc v'.obj = W0 := ⟨_, rfl⟩; rw [hW0] at N0 V0; obtain ⟨e0, e1, e2, e3, e4, e5, e6, e7, e8, e9, e10, e11⟩ := iZ V0; have HV0 : Hid (W0.heap[w.heap.size]? = some v'.obj) := V0; have HX : Hid (dO z W0 v.x v'.x) := h.x.zL N0; have hR0 := hR.zL N0; have HG : Hid (v'.ta = some ⟨g, 0, none⟩) := hg; have HT : Hid (v'.tl = v.tl) := h.tl; have hs0 := N0.size; clear V0 h hg hR hc
 go_enter Tryz.func20, Tryz.ntmps20
 go_wp2_with fail
 clear e0 e1 e2 e3 e4 e5 e6 e7 e8 e9 e10 e11 hW0; refine (zW (B := B) k0 hk0 hk1 HX.out (fun p hp => by have := hla p hp; omega) (by omega) hf).mono ?_; rintro e w1 ⟨⟨r, rfl, r0, r1⟩, hM⟩
 have e11 : w1.cell? ⟨w.heap.size, 11, none⟩ = some (.slice (some ⟨g, 0, none⟩) v.tl.length v'.tc) := by
  rw [← HG.out, ← HT.out]; exact aK (NX HV0.out hM (fun hk => by omega)) rfl
 obtain ⟨fR, hRr, _⟩ := hR0; have hR1 := hM.rows _ _ _ _ hRr; have hM1 := hM.but; clear hRr hM; go_wp2_with fail
 refine (rM v.tl.length _ g r w1 hR1 hnt r0 (by omega)).mono ?_; rintro e w2 ⟨rfl, _, hOe⟩; have hbe : bC (fun k => z <= k /\ k < B) w1 w2 := (bC.only hOe rfl : bC (fun k => k = g) w1 w2).wide (fun k hk => by have hk' : k = g := hk; omega); have HM : Hid _ := ((bC.below N0).trans hM1).trans hbe; clear e11 hbe hM1 hOe; go_wp2_with fail
 go_ret; exact ⟨⟨_, rfl, by omega⟩, HM.out⟩
end Go.Proofs.YtiojdbffjdoniaaGreatDoor
