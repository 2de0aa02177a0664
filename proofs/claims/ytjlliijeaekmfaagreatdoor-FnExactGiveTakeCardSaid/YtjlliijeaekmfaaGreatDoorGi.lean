import Derived.Test.YtjlliijeaekmfaaGreatDoorGh
import Derived.Test.YtjlliijeaekmfaaGreatDoorWf
import Derived.Test.YtjlliijeaekmfaaGreatDoorMarkT
import Derived.Test.YtjlliijeaekmfaaGreatDoorMkE
import Derived.Test.YtjlliijeaekmfaaGreatDoorBook2
import Derived.Test.YtjlliijeaekmfaaGreatDoorLeaf
namespace Go.Proofs.YtjlliijeaekmfaaGreatDoor
open Go.RowKit Go.Shelf
attribute [local go_sem] Oper.semAt_some
abbrev bk0 : Obj := .cells #[.int .i64 0, .slice none 0 0, .slice none 0 0] 35
def Odd (w : World) (k : Nat) : Prop := ∃ cs t, w.heap[k]? = some (.cells cs t) /\ t ≠ 150 /\ t ≠ 87 /\ t ≠ 111
theorem Odd.no {w : World} {k t n : Nat} {f : Nat -> Value} (h : Odd w k) (hr : w.rowIs k t n f) (ht : t = 150 ∨ t = 87 ∨ t = 111) : False := by
 obtain ⟨cs, t', e, h1, h2, h3⟩ := h; obtain ⟨cs', e', _⟩ := hr; rw [e] at e'
 cases e'
 rcases ht with ht | ht | ht
 · exact h1 ht
 · exact h2 ht
 · exact h3 ht
theorem SpBk.odd {S : Nat -> Prop} {z : Nat} {w w' : World} {b : Bk} (h : SpBk z w b) (hb : But S w w') (hs : ∀ k, S k -> Odd w k) : SpBk z w' b :=
 ⟨h.f.butRow hb (fun k _ _ _ hr g => (hs k g).no hr (.inl rfl)), h.h.butRow hb (fun k _ _ _ hr g => (hs k g).no hr (.inr (.inl rfl))), fun x hx => (h.t x hx).but hb (fun q hq g => by
  obtain ⟨_, _, r⟩ := (h.t x hx).bs_row q hq
  exact (hs q g).no r (.inr (.inr rfl)))⟩
theorem AnsBk.odd {S : Nat -> Prop} {z : Nat} {w w' : World} {b : Bk} (h : AnsBk z w b) (hb : But S w w') (hs : ∀ k, S k -> Odd w k) : AnsBk z w' b := by
 refine ⟨?_, ?_, fun x hx => (h.t x hx).but hb (fun q hq g => ?_), h.d, h.z⟩
 · rcases h.f with e | ⟨p, cap, e, h1, h2, f, hr, hf⟩
   · exact .inl e
   · exact .inr ⟨p, cap, e, h1, h2, f, hr.of_block (hb.block _ hr.lt (fun g => (hs p g).no hr (.inl rfl))), hf⟩
 · rcases h.h with e | ⟨p, cap, e, h1, h2, f, hr, hf⟩
   · exact .inl e
   · exact .inr ⟨p, cap, e, h1, h2, f, hr.of_block (hb.block _ hr.lt (fun g => (hs p g).no hr (.inr (.inl rfl)))), hf⟩
 · obtain ⟨_, _, r⟩ := (h.t x hx).bs_row q hq
   exact (hs q g).no r (.inr (.inr rfl))
abbrev stB (p : Nat) (W : World) (y : Bk) : World := ((W.setCell ⟨p, 0, none⟩ (.int .i64 y.now)).setCell ⟨p, 1, none⟩ (.slice y.fa y.fl.length y.fc)).setCell ⟨p, 2, none⟩ (.slice y.ha y.hl.length y.hc)
abbrev stC (q : Nat) (W : World) (d i k : Int) : World := ((W.setCell ⟨q, 0, none⟩ (.int .i64 d)).setCell ⟨q, 1, none⟩ (.int .i64 i)).setCell ⟨q, 2, none⟩ (.int .i64 k)
theorem stB_but (p : Nat) (W : World) (y : Bk) : But (fun k => k = p) W (stB p W y) := (((But.refl (fun k => k = p) W).set (g := p) rfl _ _).set (g := p) rfl _ _).set (g := p) rfl _ _
theorem stC_but (q : Nat) (W : World) (d i k : Int) : But (fun k => k = q) W (stC q W d i k) := (((But.refl (fun k => k = q) W).set (g := q) rfl _ _).set (g := q) rfl _ _).set (g := q) rfl _ _
theorem stB_obj {p : Nat} {W : World} (y : Bk) (h : W.heap[p]? = some bk0) : (stB p W y).heap[p]? = some y.obj := obj_set (obj_set (obj_set h 0 (.int .i64 y.now)) 1 (.slice y.fa y.fl.length y.fc)) 2 (.slice y.ha y.hl.length y.hc)
theorem stC_obj {q : Nat} {W : World} (d i k : Int) (h : W.heap[q]? = some (cho 0 0 0)) : (stC q W d i k).heap[q]? = some (cho d i k) := obj_set (obj_set (obj_set h 0 (.int .i64 d)) 1 (.int .i64 i)) 2 (.int .i64 k)
def P14 (O : World -> Bk -> Prop) (C : Bk -> Prop) (b : Bk) (x : Wx) (d i k c : Int) (Z : Nat) (j : Nat) (vs : Nat -> Value) (w : World) : Prop :=
 match j with
 | 0 => vs 0 = b.val
 | 1 => ∃ b1 : Bk, vs 1 = b1.val /\ Copied w b b1
 | 2 => vs 2 = x.val
 | 3 => ∃ (x1 : Wx) (z : Nat), vs 3 = x1.val /\ CopyW z w x x1
 | 4 => ∃ bs : Bk, vs 4 = .tuple #[bs.val, chv d i k, .int .i64 c] /\ C bs /\ O w bs
 | 5 => ∃ bs : Bk, vs 5 = .tuple #[bs.val, chv d i k, .int .i64 c] /\ C bs /\ O w bs
 | 6 => ∃ bs : Bk, vs 5 = .tuple #[bs.val, chv d i k, .int .i64 c] /\ vs 6 = bs.val /\ C bs /\ O w bs
 | 7 => vs 7 = chv d i k
 | 8 => vs 8 = .int .i64 c
 | 9 => ∃ p, vs 9 = .pointer (some ⟨p, 0, none⟩) /\ Z <= p /\ w.heap[p]? = some bk0
 | 10 => ∃ p, vs 10 = .pointer (some ⟨p, 0, none⟩) /\ Z <= p /\ w.heap[p]? = some (cho 0 0 0)
 | _ => True
def dp14 (j : Nat) : List Nat := if j = 6 then [6, 5] else [j]
def fr14 (j : Nat) : Bool := j == 7 || j == 8
def Pf14 (d i k c : Int) (j : Nat) (v : Value) : Prop := (j = 7 -> v = chv d i k) /\ (j = 8 -> v = .int .i64 c)
theorem P14.later {O : World -> Bk -> Prop} {C : Bk -> Prop} (hO : ∀ w w' y, O w y -> Below w.heap.size w w' -> O w' y) {b : Bk} {x : Wx} {d i k c : Int} {Z : Nat} (j : Nat) (vs : Nat -> Value) (w w' : World) (h : P14 O C b x d i k c Z j vs w) (hb : Below w.heap.size w w') : P14 O C b x d i k c Z j vs w' := by
 unfold P14 at h ⊢
 split
 all_goals first
  | exact h
  | exact (by obtain ⟨b1, e, hc⟩ := h; exact ⟨b1, e, hc.later hb⟩)
  | exact (by obtain ⟨x1, z, e, hc⟩ := h; exact ⟨x1, z, e, hc.later hb⟩)
  | exact (by obtain ⟨bs, e, hc, ho⟩ := h; exact ⟨bs, e, hc, hO _ _ _ ho hb⟩)
  | exact (by obtain ⟨bs, e, e2, hc, ho⟩ := h; exact ⟨bs, e, e2, hc, hO _ _ _ ho hb⟩)
  | exact (by obtain ⟨p, e, e2, hc⟩ := h; exact ⟨p, e, e2, blk hc hb⟩)
  | trivial
theorem P14.loc {O : World -> Bk -> Prop} {C : Bk -> Prop} {b : Bk} {x : Wx} {d i k c : Int} {Z : Nat} (j : Nat) (vs vs' : Nat -> Value) (w : World) (he : ∀ q ∈ dp14 j, vs q = vs' q) (h : P14 O C b x d i k c Z j vs w) : P14 O C b x d i k c Z j vs' w := by
 unfold P14 at h ⊢
 split
 all_goals first
  | (rw [← he _ (by simp [dp14])]; exact h)
  | exact (by obtain ⟨bs, e5, e6, hc⟩ := h; exact ⟨bs, by rw [← he 5 (by simp [dp14])]; exact e5, by rw [← he 6 (by simp [dp14])]; exact e6, hc⟩)
  | trivial
theorem P14.free {O : World -> Bk -> Prop} {C : Bk -> Prop} {b : Bk} {x : Wx} {d i k c : Int} {Z : Nat} (j : Nat) (vs : Nat -> Value) (w : World) (hf : fr14 j = true) (h : P14 O C b x d i k c Z j vs w) : Pf14 d i k c j (vs j) := by
 simp [fr14] at hf
 rcases hf with rfl | rfl
 · exact ⟨fun _ => h, fun e => absurd e (by decide)⟩
 · exact ⟨fun e => absurd e (by decide), fun _ => h⟩
def G14 (O : World -> Bk -> Prop) (C : Bk -> Prop) (d i k c : Int) (W : World) (t : Nat) (vs : Nat -> Value) (w' : World) : Prop :=
 ∃ (w0 : World) (bs : Bk) (p q : Nat), Below W.heap.size W w0 /\ vs 5 = .tuple #[bs.val, chv d i k, .int .i64 c] /\ vs 6 = bs.val /\ C bs /\ O w0 bs /\ vs 9 = .pointer (some ⟨p, 0, none⟩) /\ vs 10 = .pointer (some ⟨q, 0, none⟩) /\ W.heap.size <= p /\ W.heap.size <= q /\ w0.heap[p]? = some bk0 /\ w0.heap[q]? = some (cho 0 0 0) /\ w' = if t = 11 then w0 else if t = 12 then stB p w0 bs else stC q (stB p w0 bs) d i k
theorem G14.done {O : World -> Bk -> Prop} {C : Bk -> Prop} {d i k c : Int} {W : World} {vs : Nat -> Value} {w' : World} (hO : ∀ (S : Nat -> Prop) w w' y, O w y -> But S w w' -> (∀ k, S k -> Odd w k) -> O w' y) (h : G14 O C d i k c W 13 vs w') :
 ∃ (bs : Bk) (p q : Nat), Below W.heap.size W w' /\ C bs /\ O w' bs /\ vs 9 = .pointer (some ⟨p, 0, none⟩) /\ vs 10 = .pointer (some ⟨q, 0, none⟩) /\ w'.heap[p]? = some bs.obj /\ w'.heap[q]? = some (cho d i k) /\ W.heap.size <= p /\ W.heap.size <= q := by
 obtain ⟨w0, bs, p, q, hb, _, _, hc, ho, e9, e10, hp, hq, hop, hoq, hw⟩ := h; rw [if_neg (by decide), if_neg (by decide)] at hw
 have hpq : ¬ q = p := fun e => by
  rw [e, hop] at hoq
  cases hoq
 have b1 := stB_but p w0 bs; have b2 := stC_but q (stB p w0 bs) d i k
 have bb : But (fun k => k = p ∨ k = q) w0 w' := by
  rw [hw]; exact (b1.wide (fun k e => .inl e)).trans (b2.wide (fun k e => .inr e))
 have o1 : (stB p w0 bs).heap[p]? = some bs.obj := stB_obj bs hop; have o2 : (stB p w0 bs).heap[q]? = some (cho 0 0 0) := blk_but hoq b1 hpq; have o3 : (stC q (stB p w0 bs) d i k).heap[p]? = some bs.obj := blk_but o1 b2 (fun e => hpq e.symm); have o4 : (stC q (stB p w0 bs) d i k).heap[q]? = some (cho d i k) := stC_obj d i k o2; refine ⟨bs, p, q, bb.under hb (Nat.le_refl _) (fun k hk => by rcases hk with rfl | rfl <;> assumption), hc, hO _ _ _ _ ho bb (fun k hk => ?_), e9, e10, by rw [hw]; exact o3, by rw [hw]; exact o4, hp, hq⟩
 rcases hk with rfl | rfl
 · exact ⟨_, _, hop, by decide, by decide, by decide⟩
 · exact ⟨_, _, hoq, by decide, by decide, by decide⟩
end Go.Proofs.YtjlliijeaekmfaaGreatDoor
namespace Go.Proofs.YtjlliijeaekmfaaGreatDoor
set_option maxRecDepth 100000
set_option maxHeartbeats 16000000
open Go.RowKit Go.Shelf
attribute [local go_sem] Oper.semAt_some
theorem Mrk.but {S : Nat -> Prop} {w w' : World} (h : Mrk S w w') : But S w w' := ⟨h.os, h.tape, h.output, h.size, h.block⟩
theorem lawTake_any (b : Bk) (x : Wx) (w : World) (hL : Laid w) (hf : Xs 3 Fx.cells w b.fa b.fl) (hnf : b.fl.length <= 9223372036854775807) (hsf : ∀ f ∈ b.fl, f.n.size <= 9223372036854775807) (hh : Xs 3 Hx.cells w b.ha b.hl) (hn : b.hl.length <= 9223372036854775807) (hs : ∀ h ∈ b.hl, h.Wide) (hin : ∀ h ∈ b.hl, h.In w) (hi : x.In w) (hw : x.Wide) :
 Calls Tryz.prog 3 #[b.val, x.val] w fun e w' => e = .returned (.bool true) /\ Below w.heap.size w w' := by
 have hB0 : Below w.heap.size w ((w.alloc b.objL).alloc x.objC) := balloc (balloc (Below.refl _ _) _) _; have A0 := (Below.heap_alloc (w.alloc b.objL) x.objC w.heap.size (by simp)).trans (World.alloc_heap_new w b.objL); have X0 := World.alloc_heap_new (w.alloc b.objL) x.objC; rw [World.size_alloc] at X0
 go_enter Tryz.func3, Tryz.ntmps3
 go_wp2_with fail
 obtain ⟨W0, hW0⟩ : ∃ W0, (w.alloc b.objL).alloc x.objC = W0 := ⟨_, rfl⟩; rw [hW0] at hB0 A0 X0 ⊢; clear hW0; refine (szBook_any b _ (hf.later hB0) hnf hsf (hh.later hB0) hn hs 1048576 (by omega) (by omega)).mono ?_; rintro e w1 ⟨⟨r, rfl, hr0, hr1⟩, hb1⟩; have N1 : Below w.heap.size w w1 := bstep hB0 hb1; have A1 := blk A0 hb1; have X1 := blk X0 hb1; clear hB0 hb1 A0 X0
 by_cases hr : 0 <= r
 · obtain ⟨hrl, hfl, hhl, hft⟩ := hr1 hr
   have hfl : b.fl.length <= 1048576 := by omega
   have hhl : b.hl.length <= 1048576 := by omega
   obtain ⟨q0, q1, q2, q3, q4, q5, q6, q7⟩ := cells8 X1; go_wp2_with fail
   refine (szWish_any x r w1 (hi.later N1) hr (by omega) hw).mono ?_; rintro e w2 ⟨⟨r2, rfl, hq0, hq1⟩, hb2⟩; have NN : Below w.heap.size w w2 := bstep N1 hb2; have HA : Hid _ := blk A1 hb2; have HX : Hid _ := blk X1 hb2; clear q0 q1 q2 q3 q4 q5 q6 q7 hb2 A1 X1 N1
   by_cases hq : 0 <= r2
   · obtain ⟨_, hxf⟩ := hq1 hq
     have hz2 : w.heap.size + 1 < w2.heap.size := (alt HX.out); obtain ⟨d, iw, kk, hv⟩ := takVT_form b x; have HV : Hid (takVT b x = chv d iw kk) := hv; obtain ⟨c, hc⟩ : ∃ c, takT b x = c := ⟨_, rfl⟩; have HTc : Hid (takT b x = c) := hc; obtain ⟨Cc, hCc⟩ : ∃ Cc, Cc = Cnt (hN b) (hF b) (takLT b x) := ⟨_, rfl⟩; have HCc : Hid (Cc = Cnt (hN b) (hF b) (takLT b x)) := hCc; obtain ⟨lf, hll⟩ := takL_fit (b := b) (x := x) hft hxf; have HLf : Hid (∀ h ∈ takLT b x, h.Fit) := lf; clear hv hc hCc lf; go_wp2_with fail
     generalize decide (r < 0) = t1; generalize decide (r2 < 0) = t2; refine wpIn_wide.1 (wpIn_region_valsC (F := Fence.wide) (n := 0) (by kernel_rfl) 8 11 13 [some 31, some 32, some 33, some 34, some 35, some 30, some 36, some 37, some 38, some 6, some 7] (by decide) (by decide) fr14 dp14 (P14 (SpBk w2.heap.size) Cc b x d iw kk c w2.heap.size) (Pf14 d iw kk c) (G14 (SpBk w2.heap.size) Cc d iw kk c w2) (P14.later (O := (SpBk w2.heap.size)) (fun _ _ _ h hb => SpBk.later h hb)) P14.loc P14.free (by kernel_rfl) (by kernel_rfl) (by kernel_rfl) (by kernel_rfl) (by kernel_rfl) ?step ?free ?g0 ?gf ?store ?fin)
     case step =>
      intro i o vs w' hi' ho hB hd; have hBw := bstep NN hB; have A2 := blk HA.out hB; have X2 := blk HX.out hB
      match i, hi' with
      | 0, _ =>
       simp at ho; subst ho; obtain ⟨k0, k1, k2⟩ := cells3 A2; clear A2 X2; simp only [putD, Act.put]; gi_wp2; exact ⟨_, by simp [upd], rfl, Below.refl _ _⟩
      | 1, _ =>
       simp at ho; subst ho; have d0 : vs 0 = _ := hd (eD 0) (by simp) rfl; clear A2 X2; simp only [putD, Act.put]; rw [d0]; gi_wp2_with fail
       refine ⟨trivial, rfl, ?_⟩; refine (callsIn_wide.2 (toBook_any b w' (hf.later hBw) hfl (hh.later hBw) hhl (fun h m => ⟨(hin h m).later hBw, hft h m⟩))).mono ?_; rintro e w3 ⟨⟨b1, rfl, hc1⟩, hb3⟩; have HC : Hid _ := hc1; clear hc1; gi_wp2; exact ⟨_, by simp [upd, d0], ⟨b1, rfl, HC.out⟩, hb3⟩
      | 2, _ =>
       simp at ho; subst ho; obtain ⟨q0, q1, q2, q3, q4, q5, q6, q7⟩ := cells8 X2; clear A2 X2; simp only [putD, Act.put]; gi_wp2; exact ⟨_, by simp [upd], rfl, Below.refl _ _⟩
      | 3, _ =>
       simp at ho; subst ho; have d2 : vs 2 = _ := hd (eD 2) (by simp) rfl; clear A2 X2; simp only [putD, Act.put]; rw [d2]; gi_wp2_with fail
       refine ⟨trivial, rfl, ?_⟩; refine (callsIn_wide.2 (toWish_any x w' (hi.later hBw) hxf)).mono ?_; rintro e w3 ⟨⟨x1, rfl, hc1⟩, hb3⟩; have HC : Hid _ := hc1; clear hc1; gi_wp2; exact ⟨_, by simp [upd, d2], ⟨x1, _, rfl, HC.out⟩, hb3⟩
      | 4, _ =>
       simp at ho; subst ho; obtain ⟨b1, d1, hc1⟩ : ∃ b1 : Bk, vs 1 = b1.val /\ Copied w' b b1 := hd (eD 1) (by simp) rfl; obtain ⟨x1, z, d3, hx1⟩ : ∃ (x1 : Wx) (z : Nat), vs 3 = x1.val /\ CopyW z w' x x1 := hd (eD 3) (by simp) rfl; clear A2 X2; simp only [putD, Act.put]; rw [d1, d3]; gi_wp2_with fail
       refine ⟨trivial, rfl, ?_⟩; refine (callsIn_wide.2 (specTake_ans hc1 hx1 hfl hsf hhl hft hxf)).mono ?_; rintro e w3 ⟨⟨bs, rfl, hcn, hO⟩, hb3⟩; rw [HV.out, HTc.out]; have HCn : Hid (Cc bs) := by rw [Hid, HCc.out]; exact hcn
       have HO : Hid ((SpBk w2.heap.size) w3 bs) := hO.weak hB.size; clear hc1 hx1 hcn hO; gi_wp2; exact ⟨_, by simp [upd, d1, d3], ⟨bs, rfl, HCn.out, HO.out⟩, hb3⟩
      | 5, _ =>
       simp at ho; subst ho; obtain ⟨bs, d4, hcn, hO⟩ := hd (eD 4) (by simp) rfl; have HCn : Hid (Cc bs) := hcn; have HO : Hid ((SpBk w2.heap.size) w' bs) := hO; clear A2 X2 hcn hO; simp only [putD, Act.put]; rw [d4]; gi_wp2; exact ⟨_, by simp [upd, d4], ⟨bs, rfl, HCn.out, HO.out⟩, Below.refl _ _⟩
      | 6, _ =>
       simp at ho; subst ho; obtain ⟨bs, d5, hcn, hO⟩ := hd (eD 5) (by simp) rfl; have HCn : Hid (Cc bs) := hcn; have HO : Hid ((SpBk w2.heap.size) w' bs) := hO; clear A2 X2 hcn hO; simp only [putD, Act.put]; rw [d5]; gi_wp2; exact ⟨_, by simp [upd, d5], ⟨bs, d5, rfl, HCn.out, HO.out⟩, Below.refl _ _⟩
      | 7, _ =>
       simp at ho; subst ho; obtain ⟨bs, d5, hcn, hO⟩ := hd (eD 5) (by simp) rfl; have HCn : Hid (Cc bs) := hcn; have HO : Hid ((SpBk w2.heap.size) w' bs) := hO; clear A2 X2 hcn hO; simp only [putD, Act.put]; rw [d5]; gi_wp2; exact ⟨_, by simp [upd, d5], rfl, Below.refl _ _⟩
      | 8, _ =>
       simp at ho; subst ho; obtain ⟨bs, d5, hcn, hO⟩ := hd (eD 5) (by simp) rfl; have HCn : Hid (Cc bs) := hcn; have HO : Hid ((SpBk w2.heap.size) w' bs) := hO; clear A2 X2 hcn hO; simp only [putD, Act.put]; rw [d5]; gi_wp2; exact ⟨_, by simp [upd, d5], rfl, Below.refl _ _⟩
      | 9, _ =>
       simp at ho; subst ho; clear A2 X2; simp only [putD, Act.put]; gi_wp2; exact ⟨_, by simp [upd], ⟨w'.heap.size, rfl, hB.size, World.alloc_heap_new w' _⟩, balloc (Below.refl _ _) _⟩
      | 10, _ =>
       simp at ho; subst ho; clear A2 X2; simp only [putD, Act.put]; gi_wp2; exact ⟨_, by simp [upd], ⟨w'.heap.size, rfl, hB.size, World.alloc_heap_new w' _⟩, balloc (Below.refl _ _) _⟩
      | j + 11, h => exact absurd h (by omega)
     case free =>
      intro ii o vs w' t hi' hfi ho ht htM hG hd; have d5 : ∃ bs : Bk, vs 5 = .tuple #[bs.val, chv d iw kk, .int .i64 c] := by obtain ⟨_, bs, _, _, _, d5, _⟩ := hG; exact ⟨bs, d5⟩
      clear hG; obtain ⟨bs, d5⟩ := d5
      rcases (by simpa [fr14] using hfi : ii = 7 ∨ ii = 8) with rfl | rfl
      · simp at ho
        subst ho; simp only [putD, Act.put]; rw [d5]; gi_wp2
        first
         | exact ⟨_, by simp [upd, d5], ⟨fun _ => rfl, fun e => absurd e (by decide)⟩, rfl⟩
         | exact ⟨_, by simp [upd, d5], ⟨fun _ => rfl, fun e => absurd e (by decide)⟩⟩
      · simp at ho
        subst ho; simp only [putD, Act.put]; rw [d5]; gi_wp2
        first
         | exact ⟨_, by simp [upd, d5], ⟨fun e => absurd e (by decide), fun _ => rfl⟩, rfl⟩
         | exact ⟨_, by simp [upd, d5], ⟨fun e => absurd e (by decide), fun _ => rfl⟩⟩
     case g0 =>
      intro vs w' hB hp; obtain ⟨bs, e5, e6, hcn, hO⟩ := hp 6 (by decide) rfl; obtain ⟨p, e9, hz9, ho9⟩ := hp 9 (by decide) rfl; obtain ⟨q, e10, hz10, ho10⟩ := hp 10 (by decide) rfl; exact ⟨w', bs, p, q, hB, e5, e6, hcn, hO, e9, e10, hz9, hz10, ho9, ho10, by rw [if_pos rfl]⟩
     case gf =>
      intro t vs w' ii v hfi hG
      rcases (by simpa [fr14] using hfi : ii = 7 ∨ ii = 8) with rfl | rfl
      · exact hG
      · exact hG
     case store =>
      intro t o vs w' h12 h15 ho hG hd; obtain ⟨w0, bs, p, q, hB0, d5, d6, hcn, hO, d9, d10, hzp, hzq, hop, hoq, hw⟩ := hG; have HCn : Hid (Cc bs) := hcn; have HO : Hid ((SpBk w2.heap.size) w0 bs) := hO; have HOp : Hid (w0.heap[p]? = some bk0) := hop; have HOq : Hid (w0.heap[q]? = some (cho 0 0 0)) := hoq
      rcases (by omega : t = 11 ∨ t = 12) with rfl | rfl
      · simp at ho
        subst ho; rw [if_pos rfl] at hw; subst hw; obtain ⟨c0, c1, c2⟩ := cells3 hop; have cf : ∀ i, w'.frozen? ⟨p, i, none⟩ = false := fun i => by simp [World.frozen?, hop]
        clear hcn hO hop hoq; simp only [putD, Act.put]; rw [d9, d6]; gi_wp2; exact ⟨undef, by simp [upd, d5, d6, d9, d10], w', bs, p, q, hB0, d5, d6, HCn.out, HO.out, d9, d10, hzp, hzq, HOp.out, HOq.out, by rw [if_neg (by decide), if_pos rfl]⟩
      · simp at ho
        subst ho; rw [if_neg (by decide), if_pos rfl] at hw; have d7 : vs 7 = chv d iw kk := (hd (eD 7) (by simp) rfl (by decide) rfl).1 rfl
        have hq1 : (stB p w0 bs).heap[q]? = some (cho 0 0 0) := blk_but hoq (stB_but p w0 bs) (fun e => by
         have e' : q = p := e; rw [e', hop] at hoq
         cases hoq)
        rw [← hw] at hq1; obtain ⟨c0, c1, c2⟩ := cells3 hq1; have cf : ∀ i, w'.frozen? ⟨q, i, none⟩ = false := fun i => by simp [World.frozen?, hq1]
        have HW : Hid (w' = stB p w0 bs) := hw; clear hcn hO hop hoq hq1 hw; simp only [putD, Act.put]; rw [d10, d7]; gi_wp2; exact ⟨undef, by simp [upd, d5, d6, d7, d9, d10], w0, bs, p, q, hB0, d5, d6, HCn.out, HO.out, d9, d10, hzp, hzq, HOp.out, HOq.out, by rw [if_neg (by decide), if_neg (by decide), HW.out]⟩
     case fin =>
      intro vs V3 hG hp; have d8 : vs 8 = .int .i64 c := (hp 8 (by decide) rfl).2 rfl; have d7 : vs 7 = chv d iw kk := (hp 7 (by decide) rfl).1 rfl; obtain ⟨bs, p, q, hB, hcn, hO, d9, d10, hop, hoq, hzp, hzq⟩ := G14.done (O := (SpBk w2.heap.size)) (fun S w w' y h hb hs => SpBk.odd h hb hs) hG; clear hG hp; simp only [List.drop_succ_cons, List.drop_zero, putD, Act.put]; rw [d8, d9, d10]; clear d8 d9 d10 d7; generalize vs 0 = v0; generalize vs 1 = v1; generalize vs 2 = v2; generalize vs 3 = v3; generalize vs 4 = v4; generalize vs 5 = v5; generalize vs 6 = v6; generalize vs 7 = v7; have N3 := bstep NN hB; have HA3 : Hid _ := blk HA.out hB; have HX3 : Hid _ := blk HX.out hB; have HS3 : Hid (V3.heap[p]? = some bs.obj) := hop; have HQ3 : Hid (V3.heap[q]? = some (cho d iw kk)) := hoq; have HSp : Hid (SpBk w2.heap.size V3 bs) := hO; have HCs : Hid (Cnt (hN b) (hF b) (takLT b x) bs) := by have h := hcn; rw [HCc.out] at h; exact h
      have hw3 : w.heap.size + 1 < V3.heap.size := (alt HX3.out); have hp3 : p < V3.heap.size := (alt hop); have hq3 : q < V3.heap.size := (alt hoq); clear hB NN HA HX hcn hO hop hoq hzp hzq hz2; obtain ⟨k0, k1, k2⟩ := cells3 HA3.out; gi_wp2_with fail
      go_wp2_with fail
      clear k0 k1 k2; refine (toBook_own b V3 (hf.later N3) hfl (hh.later N3) hhl (fun h m => ⟨(hin h m).later N3, hft h m⟩)).mono ?_; rintro e w4 ⟨⟨b2, rfl, hc2, hOb⟩, hb4⟩; have hz4 := hb4.size; have hbx : Below w4.heap.size w4 (w4.alloc b2.obj) := balloc (Below.refl _ _) _; have MM := bstep hb4 hbx; have B5 := World.alloc_heap_new w4 b2.obj; have HCb : Hid _ := hc2.later hbx; have HOb : Hid _ := hOb.later hbx; obtain ⟨w5, hw5⟩ : ∃ w5, w4.alloc b2.obj = w5 := ⟨_, rfl⟩; rw [hw5] at MM B5 HCb HOb; have hz5 : w4.heap.size < w5.heap.size := (alt B5); have HBk : Hid _ := B5; have X5 := blk HX3.out MM; obtain ⟨q0, q1, q2, q3, q4, q5, q6, q7⟩ := cells8 X5; clear hbx B5 hc2 hOb hb4 X5; go_wp2_with fail
      clear hw5 q0 q1 q2 q3 q4 q5 q6 q7; refine (toWish_any x w5 (hi.later (bstep N3 MM)) hxf).mono ?_; rintro e w6 ⟨⟨x2, rfl, hx2⟩, hb6⟩; have hz6 := hb6.size; have HLa : Hid (∀ p, x2.la = some ⟨p, 0, none⟩ -> p < w6.heap.size) := hx2.laEnd; have hbx : Below w6.heap.size w6 (w6.alloc x2.obj) := balloc (Below.refl _ _) _; have MM := bstep (bstep MM hb6) hbx; have Y7 := World.alloc_heap_new w6 x2.obj; have HBk : Hid _ := blk (blk HBk.out hb6) hbx; have HCb : Hid _ := (HCb.out.later hb6).later hbx; have HOb : Hid _ := (HOb.out.later hb6).later hbx; have HCw : Hid _ := hx2.later hbx; obtain ⟨w7, hw7⟩ : ∃ w7, w6.alloc x2.obj = w7 := ⟨_, rfl⟩; rw [hw7] at MM Y7 HBk HCb HOb HCw; have hz7 : w6.heap.size < w7.heap.size := (alt Y7); have HYb : Hid _ := Y7; obtain ⟨k0, k1, k2⟩ := cells3 HBk.out; obtain ⟨q0, q1, q2, q3, q4, q5, q6, q7⟩ := cells8 Y7; clear hbx Y7 hx2 hb6; go_wp2_with fail
      clear hw7 k0 k1 k2 q0 q1 q2 q3 q4 q5 q6 q7; refine (implTake_ans (by omega) (hL.later (bstep N3 MM)) HCb.out HCw.out hfl hsf hhl hft hxf).mono ?_; rintro e w8 ⟨⟨bi, rfl, hci, hai⟩, hb8⟩; rw [HV.out, HTc.out]; have hz8 := hb8.size; have HTo : Hid (∀ k, Touched bi k -> w7.heap.size <= k /\ k < w8.heap.size) := hai.touched; have HCi : Hid (Cnt (hN b) (hF b) (takLT b x) bi) := hci
      have hfi : bi.fl.length <= 1048576 := by
       rw [hci.fl]; unfold hF; split
       · exact hfl
       · simp
      have hli : bi.hl.length <= 64 := by rw [hci.lk.len]; exact hll
      have hy1 : Below w8.heap.size w8 (w8.alloc bk0) := balloc (Below.refl _ _) _; have E1 := World.alloc_heap_new w8 bk0; obtain ⟨U8, hU8⟩ : ∃ U, w8.alloc bk0 = U := ⟨_, rfl⟩; have zU8 : U8.heap.size = w8.heap.size + 1 := by rw [← hU8]; simp
      rw [hU8] at hy1 E1; have hy2 : Below U8.heap.size U8 (U8.alloc (cho 0 0 0)) := balloc (Below.refl _ _) _; have E2 := World.alloc_heap_new U8 (cho 0 0 0); obtain ⟨U9, hU9⟩ : ∃ U, U8.alloc (cho 0 0 0) = U := ⟨_, rfl⟩; rw [hU9, zU8] at E2; rw [hU9] at hy2; have E1 := blk E1 hy2; have u1 := stB_but w8.heap.size U9 bi; have o1 := stB_obj bi E1; have o2 := blk_but E2 u1 (by show ¬ (w8.heap.size + 1 = w8.heap.size); omega); have u2 := stC_but (w8.heap.size + 1) (stB w8.heap.size U9 bi) d iw kk; have o3 := blk_but o1 u2 (by show ¬ (w8.heap.size = w8.heap.size + 1); omega); have o4 := stC_obj d iw kk o2; have hb9 : Below w8.heap.size w8 (stC (w8.heap.size + 1) (stB w8.heap.size U9 bi) d iw kk) := u2.under (u1.under (bstep hy1 hy2) (Nat.le_refl _) (fun k hk => by have hk' : k = w8.heap.size := hk; omega)) (Nat.le_refl _) (fun k hk => by have hk' : k = w8.heap.size + 1 := hk; omega); obtain ⟨w9, hw9⟩ : ∃ W, (((((U9.setCell ⟨w8.heap.size, 0, none⟩ (.int .i64 bi.now)).setCell ⟨w8.heap.size, 1, none⟩ (.slice bi.fa bi.fl.length bi.fc)).setCell ⟨w8.heap.size, 2, none⟩ (.slice bi.ha bi.hl.length bi.hc)).setCell ⟨w8.heap.size + 1, 0, none⟩ (.int .i64 d)).setCell ⟨w8.heap.size + 1, 1, none⟩ (.int .i64 iw)).setCell ⟨w8.heap.size + 1, 2, none⟩ (.int .i64 kk) = W := ⟨_, rfl⟩; have G9 : w9.heap[w8.heap.size]? = some bi.obj := by rw [← hw9]; exact o3
      have D9 : w9.heap[w8.heap.size + 1]? = some (cho d iw kk) := by rw [← hw9]; exact o4
      have hb9 : Below w8.heap.size w8 w9 := by rw [← hw9]; exact hb9
      obtain ⟨a0, a1, a2⟩ := cells3 E1; have af : ∀ i, U9.frozen? ⟨w8.heap.size, i, none⟩ = false := fun i => by simp [World.frozen?, E1]
      obtain ⟨c0, c1, c2⟩ := cells3 E2; have cf : ∀ i, U9.frozen? ⟨w8.heap.size + 1, i, none⟩ = false := fun i => by simp [World.frozen?, E2]
      have hbb := bstep hb8 hb9; have HAi : Hid _ := hai.later hb9; have HBk : Hid _ := blk HBk.out hbb; have HYb : Hid _ := blk HYb.out hbb; have HOb : Hid _ := HOb.out.later hbb; have HCb : Hid _ := HCb.out.later hbb; have HCw : Hid _ := HCw.out.later hbb; have MM := bstep MM hbb; have HG : Hid _ := G9; have HD : Hid _ := D9; have S9 := blk HS3.out MM; have T9 := blk HQ3.out MM; obtain ⟨g0, g1, g2⟩ := cells3 G9; obtain ⟨s0, s1, s2⟩ := cells3 S9; obtain ⟨j0, j1, j2⟩ := cells3 D9; obtain ⟨t0, t1, t2⟩ := cells3 T9; clear hbb hb9 hb8 hci hai hy1 hy2 E1 E2 u1 o1 o2 u2 o3 o4 G9 D9 S9 T9; go_wp2_with fail
      clear hw9 hU8 hU9 a0 a1 a2 af c0 c1 c2 cf; refine (eqBook_cnt HCi.out HCs.out HAi.out (HSp.out.later MM) (by rw [← HCi.out.fl]; exact hfi) hll HLf.out).mono ?_; rintro e wa ⟨rfl, hba⟩; have HBk : Hid _ := blk HBk.out hba; have HYb : Hid _ := blk HYb.out hba; have HOb : Hid _ := HOb.out.later hba; have HCb : Hid _ := HCb.out.later hba; have HCw : Hid _ := HCw.out.later hba; have HG : Hid _ := blk HG.out hba; have HD : Hid _ := blk HD.out hba; have HAi : Hid _ := HAi.out.later hba; have MM := bstep MM hba; clear g0 g1 g2 s0 s1 s2 j0 j1 j2 t0 t1 t2 hba; have T9 := blk HQ3.out MM; obtain ⟨j0, j1, j2⟩ := cells3 HD.out; obtain ⟨t0, t1, t2⟩ := cells3 T9; clear T9; go_wp2_with fail
      refine (eqChoice_same d iw kk wa).mono ?_; rintro e wb ⟨rfl, hbb⟩; have HBk : Hid _ := blk HBk.out hbb; have HYb : Hid _ := blk HYb.out hbb; have HOb : Hid _ := HOb.out.later hbb; have HCb : Hid _ := HCb.out.later hbb; have HCw : Hid _ := HCw.out.later hbb; have HG : Hid _ := blk HG.out hbb; have HD : Hid _ := blk HD.out hbb; have HAi : Hid _ := HAi.out.later hbb; have MM := bstep MM hbb; have NN := bstep N3 MM; have HA : Hid _ := blk HA3.out MM; have HZ : Hid _ := HBk; have HC : Hid _ := HCb; clear j0 j1 j2 t0 t1 t2 hbb HBk HCb; go_wp2_with fail
      refine wpIn_wide.1 (wpIn_region_valsB (F := Fence.wide) (n := 0) (by kernel_rfl) 4 [some 65, some 66, some 67, some 68] (by decide) (E8 b b2) E8.later (by kernel_rfl) (by kernel_rfl) (by kernel_rfl) ?step ?fin)
      case step =>
       intro i o vs w' hi' ho hB hd; have hBw := bstep NN hB; have A2 := blk HA.out hB; have Z2 := blk HZ.out hB
       match i, hi' with
       | 0, _ =>
        simp at ho; subst ho; obtain ⟨k0, k1, k2⟩ := cells3 Z2; clear A2 Z2; simp only [putD, Act.put]; gi_wp2; exact ⟨_, by simp [upd], rfl, Below.refl _ _⟩
       | 1, _ =>
        simp at ho; subst ho; obtain ⟨k0, k1, k2⟩ := cells3 A2; clear A2 Z2; simp only [putD, Act.put]; gi_wp2; exact ⟨_, by simp [upd], rfl, Below.refl _ _⟩
       | 2, _ =>
        simp at ho; subst ho; have d1 : vs 1 = _ := hd (eD 1) (by simp) rfl; clear A2 Z2; simp only [putD, Act.put]; rw [d1]; gi_wp2_with fail
        refine ⟨trivial, rfl, ?_⟩; refine (callsIn_wide.2 (toBook_any b w' (hf.later hBw) hfl (hh.later hBw) hhl (fun h m => ⟨(hin h m).later hBw, hft h m⟩))).mono ?_; rintro e w3 ⟨⟨b3, rfl, hc3⟩, hb3⟩; have HD : Hid _ := hc3; clear hc3; gi_wp2; exact ⟨_, by simp [upd, d1], ⟨b3, rfl, HD.out⟩, hb3⟩
       | 3, _ =>
        simp at ho; subst ho; have d0 : vs 0 = _ := hd (eD 0) (by simp) rfl; obtain ⟨b3, d2, hc3⟩ : ∃ b3 : Bk, vs 2 = b3.val /\ Copied w' b b3 := hd (eD 2) (by simp) rfl; clear A2 Z2; simp only [putD, Act.put]; rw [d0, d2]; gi_wp2_with fail
        refine ⟨trivial, rfl, ?_⟩; refine (callsIn_wide.2 (eqBook_copy (HC.out.later hB) hc3 hfl hhl hft)).mono ?_; rintro e w3 ⟨rfl, hb3⟩; clear hc3; gi_wp2; exact ⟨_, by simp [upd, d0, d2], rfl, hb3⟩
       | j + 4, h => exact absurd h (by omega)
      case fin =>
       intro vs W3 hB hp; have d3 : vs 3 = .bool true := hp 3 (by decide); clear hp; simp only [List.drop_succ_cons, List.drop_zero, putD, Act.put]; rw [d3]; clear d3; generalize vs 0 = v0; generalize vs 1 = v1; generalize vs 2 = v2; have MM := bstep MM hB; have HBk : Hid _ := blk HZ.out hB; have HYb : Hid _ := blk HYb.out hB; have HOb : Hid _ := HOb.out.later hB; have HCb : Hid _ := HC.out.later hB; have HCw : Hid _ := HCw.out.later hB; have HG : Hid _ := blk HG.out hB; have HD : Hid _ := blk HD.out hB; have HAi : Hid _ := HAi.out.later hB; clear HA HZ HC NN hB; have NN := bstep N3 MM; have HA : Hid _ := blk HX3.out MM; have HZ : Hid _ := HYb; have HC : Hid _ := HCw; gi_wp2_with fail
       go_wp2_with fail
       clear HYb HCw; refine wpIn_wide.1 (wpIn_region_valsB (F := Fence.wide) (n := 0) (by kernel_rfl) 4 [some 70, some 71, some 72, some 73] (by decide) (Y8 x x2) Y8.later (by kernel_rfl) (by kernel_rfl) (by kernel_rfl) ?step ?fin)
       case step =>
        intro i o vs w' hi' ho hB hd; have hBw := bstep NN hB; have A2 := blk HA.out hB; have Z2 := blk HZ.out hB
        match i, hi' with
        | 0, _ =>
         simp at ho; subst ho; obtain ⟨q0, q1, q2, q3, q4, q5, q6, q7⟩ := cells8 Z2; clear A2 Z2; simp only [putD, Act.put]; gi_wp2; exact ⟨_, by simp [upd], rfl, Below.refl _ _⟩
        | 1, _ =>
         simp at ho; subst ho; obtain ⟨q0, q1, q2, q3, q4, q5, q6, q7⟩ := cells8 A2; clear A2 Z2; simp only [putD, Act.put]; gi_wp2; exact ⟨_, by simp [upd], rfl, Below.refl _ _⟩
        | 2, _ =>
         simp at ho; subst ho; have d1 : vs 1 = _ := hd (eD 1) (by simp) rfl; clear A2 Z2; simp only [putD, Act.put]; rw [d1]; gi_wp2_with fail
         refine ⟨trivial, rfl, ?_⟩; refine (callsIn_wide.2 (toWish_any x w' (hi.later hBw) hxf)).mono ?_; rintro e w3 ⟨⟨x3, rfl, hc3⟩, hb3⟩; have HD : Hid _ := hc3; clear hc3; gi_wp2; exact ⟨_, by simp [upd, d1], ⟨x3, _, rfl, HD.out⟩, hb3⟩
        | 3, _ =>
         simp at ho; subst ho; have d0 : vs 0 = _ := hd (eD 0) (by simp) rfl; obtain ⟨x3, z, d2, hc3⟩ : ∃ (x3 : Wx) (z : Nat), vs 2 = x3.val /\ CopyW z w' x x3 := hd (eD 2) (by simp) rfl; clear A2 Z2; simp only [putD, Act.put]; rw [d0, d2]; gi_wp2_with fail
         refine ⟨trivial, rfl, ?_⟩; refine (callsIn_wide.2 (eqWish_copy (HC.out.later hB) hc3 hxf)).mono ?_; rintro e w3 ⟨rfl, hb3⟩; clear hc3; gi_wp2; exact ⟨_, by simp [upd, d0, d2], rfl, hb3⟩
        | j + 4, h => exact absurd h (by omega)
       case fin =>
        intro vs W3 hB hp; have d3 : vs 3 = .bool true := hp 3 (by decide); clear hp; simp only [List.drop_succ_cons, List.drop_zero, putD, Act.put]; rw [d3]; clear d3; generalize vs 0 = v0; generalize vs 1 = v1; generalize vs 2 = v2; have MM := bstep MM hB; have HBk : Hid _ := blk HBk.out hB; have HYb : Hid _ := blk HZ.out hB; have HOb : Hid _ := HOb.out.later hB; have HCw : Hid _ := HC.out.later hB; have HG : Hid _ := blk HG.out hB; have HD : Hid _ := blk HD.out hB; have HAi : Hid _ := HAi.out.later hB; clear HA HZ HC NN; obtain ⟨k0, k1, k2⟩ := cells3 HBk.out; clear hB; gi_wp2_with fail
        go_wp2_with fail
        refine (markBk_any _ b2 1 _ HOb.out (HCb.out.likes.fit hft) (by rw [HCb.out.fl]; exact hfl) (by rw [HCb.out.likes.len]; exact hhl) (by omega) (by omega)).mono ?_; rintro e wd ⟨⟨r3, rfl, r30, r31⟩, hbd⟩; have MM := hbd.under MM (Nat.le_refl _) (fun k hk => by omega); have HYb : Hid _ := blk_but HYb.out hbd (fun hk => by omega); have HCw : Hid _ := HCw.out.keep (fun k h1 h2 => hbd.block k h2 (fun hk => by omega)); have HG : Hid _ := blk_but HG.out hbd (fun hk => by omega); have HD : Hid _ := blk_but HD.out hbd (fun hk => by omega); have HAi : Hid _ := HAi.out.but hbd (fun k hk => by omega); clear k0 k1 k2 HBk HOb HCb hbd; obtain ⟨q0, q1, q2, q3, q4, q5, q6, q7⟩ := cells8 HYb.out; go_wp2_with fail
        refine (markW_from r3 r30 (by omega) HCw.out HLa.out (by have := (alt HYb.out); omega) hxf).mono ?_; rintro e we ⟨⟨r4, rfl, r40⟩, hbe⟩; have MM := hbe.under MM (Nat.le_refl _) (fun k hk => by omega); have HG : Hid _ := blk_mrk HG.out hbe (fun hk => by omega); have HD : Hid _ := blk_mrk HD.out hbe (fun hk => by omega); have HAi : Hid _ := HAi.out.but hbe.but (fun k hk => by omega); clear q0 q1 q2 q3 q4 q5 q6 q7 HYb HCw hbe; have hdec : decide (r4 < 0) = false := by simp; omega
        have S5 := blk HS3.out MM; obtain ⟨g0, g1, g2⟩ := cells3 HG.out; obtain ⟨s0, s1, s2⟩ := cells3 S5; clear S5; go_wp2_with fail
        refine (eqBook_cnt HCi.out HCs.out HAi.out (HSp.out.later MM) (by rw [← HCi.out.fl]; exact hfi) hll HLf.out).mono ?_; rintro e wf ⟨rfl, hbf⟩; have MM := bstep MM hbf; have HG : Hid _ := blk HG.out hbf; have HD : Hid _ := blk HD.out hbf; have HAi : Hid _ := HAi.out.later hbf; have T5 := blk HQ3.out MM; clear g0 g1 g2 s0 s1 s2 hbf; obtain ⟨j0, j1, j2⟩ := cells3 HD.out; obtain ⟨t0, t1, t2⟩ := cells3 T5; clear T5; go_wp2_with fail
        refine (eqChoice_same d iw kk wf).mono ?_; rintro e wg ⟨rfl, hbg⟩; have MM := bstep MM hbg; have HG : Hid _ := blk HG.out hbg; have HAi : Hid _ := HAi.out.later hbg; clear j0 j1 j2 t0 t1 t2 hbg HD; obtain ⟨g0, g1, g2⟩ := cells3 HG.out; go_wp2_with fail
        refine (markBk_is w7.heap.size bi wg HAi.out (HCi.out.lk.fit HLf.out) hfi hli).mono ?_; rintro e wh ⟨rfl, hAh, hbh⟩; have MM := hbh.under MM (Nat.le_refl _) (fun k hk => by have := HTo.out k hk; omega); have HG : Hid _ := blk_but HG.out hbh (fun hk => by have := HTo.out _ hk; omega); have HAm : Hid _ := hAh; obtain ⟨mm, hmm⟩ : ∃ mm, mm = cH (1 + 3 * (bi.fl.length : Int)) bi.hl := ⟨_, rfl⟩; have hm0 : 0 <= mm := by have := (cH_le bi.hl (1 + 3 * (bi.fl.length : Int)) (HCi.out.lk.fit HLf.out)).1; omega
        have HMM : Hid (mm = cH (1 + 3 * (bi.fl.length : Int)) bi.hl) := hmm; rw [← hmm]; have hmd : decide (mm < 0) = false := by simp; omega
        clear g0 g1 g2 HAi hbh hAh hmm; obtain ⟨g0, g1, g2⟩ := cells3 HG.out; go_wp2_with fail
        refine (heldBk_is w7.heap.size bi wh HAm.out (HCi.out.lk.fit HLf.out) hfi hli).mono ?_; rintro e wi ⟨rfl, hbi⟩; rw [← HMM.out]; have MM := bstep MM hbi; have HG : Hid _ := blk HG.out hbi; have HAm : Hid _ := HAm.out.later hbi; have NN := bstep N3 MM; have HA : Hid _ := blk HA3.out MM; have HX : Hid _ := blk HX3.out MM; clear g0 g1 g2 hbi hdec; go_wp2_with fail
        refine wpIn_wide.1 (wpIn_region_valsC (F := Fence.wide) (n := 0) (by kernel_rfl) 8 11 13 [some 112, some 113, some 114, some 115, some 116, some 111, some 117, some 118, some 119, some 17, some 18] (by decide) (by decide) fr14 dp14 (P14 (AnsBk wi.heap.size) Cc b x d iw kk c wi.heap.size) (Pf14 d iw kk c) (G14 (AnsBk wi.heap.size) Cc d iw kk c wi) (P14.later (O := (AnsBk wi.heap.size)) (fun _ _ _ h hb => AnsBk.later h hb)) P14.loc P14.free (by kernel_rfl) (by kernel_rfl) (by kernel_rfl) (by kernel_rfl) (by kernel_rfl) ?step ?free ?g0 ?gf ?store ?fin)
        case step =>
         intro i o vs w' hi' ho hB hd; have hBw := bstep NN hB; have A2 := blk HA.out hB; have X2 := blk HX.out hB
         match i, hi' with
         | 0, _ =>
          simp at ho; subst ho; obtain ⟨k0, k1, k2⟩ := cells3 A2; clear A2 X2; simp only [putD, Act.put]; gi_wp2; exact ⟨_, by simp [upd], rfl, Below.refl _ _⟩
         | 1, _ =>
          simp at ho; subst ho; have d0 : vs 0 = _ := hd (eD 0) (by simp) rfl; clear A2 X2; simp only [putD, Act.put]; rw [d0]; gi_wp2_with fail
          refine ⟨trivial, rfl, ?_⟩; refine (callsIn_wide.2 (toBook_any b w' (hf.later hBw) hfl (hh.later hBw) hhl (fun h m => ⟨(hin h m).later hBw, hft h m⟩))).mono ?_; rintro e w3 ⟨⟨b1, rfl, hc1⟩, hb3⟩; have HC : Hid _ := hc1; clear hc1; gi_wp2; exact ⟨_, by simp [upd, d0], ⟨b1, rfl, HC.out⟩, hb3⟩
         | 2, _ =>
          simp at ho; subst ho; obtain ⟨q0, q1, q2, q3, q4, q5, q6, q7⟩ := cells8 X2; clear A2 X2; simp only [putD, Act.put]; gi_wp2; exact ⟨_, by simp [upd], rfl, Below.refl _ _⟩
         | 3, _ =>
          simp at ho; subst ho; have d2 : vs 2 = _ := hd (eD 2) (by simp) rfl; clear A2 X2; simp only [putD, Act.put]; rw [d2]; gi_wp2_with fail
          refine ⟨trivial, rfl, ?_⟩; refine (callsIn_wide.2 (toWish_any x w' (hi.later hBw) hxf)).mono ?_; rintro e w3 ⟨⟨x1, rfl, hc1⟩, hb3⟩; have HC : Hid _ := hc1; clear hc1; gi_wp2; exact ⟨_, by simp [upd, d2], ⟨x1, _, rfl, HC.out⟩, hb3⟩
         | 4, _ =>
          simp at ho; subst ho; obtain ⟨b1, d1, hc1⟩ : ∃ b1 : Bk, vs 1 = b1.val /\ Copied w' b b1 := hd (eD 1) (by simp) rfl; obtain ⟨x1, z, d3, hx1⟩ : ∃ (x1 : Wx) (z : Nat), vs 3 = x1.val /\ CopyW z w' x x1 := hd (eD 3) (by simp) rfl; clear A2 X2; simp only [putD, Act.put]; rw [d1, d3]; gi_wp2_with fail
          refine ⟨trivial, rfl, ?_⟩; refine (callsIn_wide.2 (implTake_ans (by have := (alt HG.out); have := hB.size; omega) (hL.later hBw) hc1 hx1 hfl hsf hhl hft hxf)).mono ?_; rintro e w3 ⟨⟨bs, rfl, hcn, hO⟩, hb3⟩; rw [HV.out, HTc.out]; have HCn : Hid (Cc bs) := by rw [Hid, HCc.out]; exact hcn
          have HO : Hid ((AnsBk wi.heap.size) w3 bs) := hO.weak hB.size; clear hc1 hx1 hcn hO; gi_wp2; exact ⟨_, by simp [upd, d1, d3], ⟨bs, rfl, HCn.out, HO.out⟩, hb3⟩
         | 5, _ =>
          simp at ho; subst ho; obtain ⟨bs, d4, hcn, hO⟩ := hd (eD 4) (by simp) rfl; have HCn : Hid (Cc bs) := hcn; have HO : Hid ((AnsBk wi.heap.size) w' bs) := hO; clear A2 X2 hcn hO; simp only [putD, Act.put]; rw [d4]; gi_wp2; exact ⟨_, by simp [upd, d4], ⟨bs, rfl, HCn.out, HO.out⟩, Below.refl _ _⟩
         | 6, _ =>
          simp at ho; subst ho; obtain ⟨bs, d5, hcn, hO⟩ := hd (eD 5) (by simp) rfl; have HCn : Hid (Cc bs) := hcn; have HO : Hid ((AnsBk wi.heap.size) w' bs) := hO; clear A2 X2 hcn hO; simp only [putD, Act.put]; rw [d5]; gi_wp2; exact ⟨_, by simp [upd, d5], ⟨bs, d5, rfl, HCn.out, HO.out⟩, Below.refl _ _⟩
         | 7, _ =>
          simp at ho; subst ho; obtain ⟨bs, d5, hcn, hO⟩ := hd (eD 5) (by simp) rfl; have HCn : Hid (Cc bs) := hcn; have HO : Hid ((AnsBk wi.heap.size) w' bs) := hO; clear A2 X2 hcn hO; simp only [putD, Act.put]; rw [d5]; gi_wp2; exact ⟨_, by simp [upd, d5], rfl, Below.refl _ _⟩
         | 8, _ =>
          simp at ho; subst ho; obtain ⟨bs, d5, hcn, hO⟩ := hd (eD 5) (by simp) rfl; have HCn : Hid (Cc bs) := hcn; have HO : Hid ((AnsBk wi.heap.size) w' bs) := hO; clear A2 X2 hcn hO; simp only [putD, Act.put]; rw [d5]; gi_wp2; exact ⟨_, by simp [upd, d5], rfl, Below.refl _ _⟩
         | 9, _ =>
          simp at ho; subst ho; clear A2 X2; simp only [putD, Act.put]; gi_wp2; exact ⟨_, by simp [upd], ⟨w'.heap.size, rfl, hB.size, World.alloc_heap_new w' _⟩, balloc (Below.refl _ _) _⟩
         | 10, _ =>
          simp at ho; subst ho; clear A2 X2; simp only [putD, Act.put]; gi_wp2; exact ⟨_, by simp [upd], ⟨w'.heap.size, rfl, hB.size, World.alloc_heap_new w' _⟩, balloc (Below.refl _ _) _⟩
         | j + 11, h => exact absurd h (by omega)
        case free =>
         intro ii o vs w' t hi' hfi ho ht htM hG hd; have d5 : ∃ bs : Bk, vs 5 = .tuple #[bs.val, chv d iw kk, .int .i64 c] := by obtain ⟨_, bs, _, _, _, d5, _⟩ := hG; exact ⟨bs, d5⟩
         clear hG; obtain ⟨bs, d5⟩ := d5
         rcases (by simpa [fr14] using hfi : ii = 7 ∨ ii = 8) with rfl | rfl
         · simp at ho
           subst ho; simp only [putD, Act.put]; rw [d5]; gi_wp2
           first
            | exact ⟨_, by simp [upd, d5], ⟨fun _ => rfl, fun e => absurd e (by decide)⟩, rfl⟩
            | exact ⟨_, by simp [upd, d5], ⟨fun _ => rfl, fun e => absurd e (by decide)⟩⟩
         · simp at ho
           subst ho; simp only [putD, Act.put]; rw [d5]; gi_wp2
           first
            | exact ⟨_, by simp [upd, d5], ⟨fun e => absurd e (by decide), fun _ => rfl⟩, rfl⟩
            | exact ⟨_, by simp [upd, d5], ⟨fun e => absurd e (by decide), fun _ => rfl⟩⟩
        case g0 =>
         intro vs w' hB hp; obtain ⟨bs, e5, e6, hcn, hO⟩ := hp 6 (by decide) rfl; obtain ⟨p, e9, hz9, ho9⟩ := hp 9 (by decide) rfl; obtain ⟨q, e10, hz10, ho10⟩ := hp 10 (by decide) rfl; exact ⟨w', bs, p, q, hB, e5, e6, hcn, hO, e9, e10, hz9, hz10, ho9, ho10, by rw [if_pos rfl]⟩
        case gf =>
         intro t vs w' ii v hfi hG
         rcases (by simpa [fr14] using hfi : ii = 7 ∨ ii = 8) with rfl | rfl
         · exact hG
         · exact hG
        case store =>
         intro t o vs w' h12 h15 ho hG hd; obtain ⟨w0, bs, p, q, hB0, d5, d6, hcn, hO, d9, d10, hzp, hzq, hop, hoq, hw⟩ := hG; have HCn : Hid (Cc bs) := hcn; have HO : Hid ((AnsBk wi.heap.size) w0 bs) := hO; have HOp : Hid (w0.heap[p]? = some bk0) := hop; have HOq : Hid (w0.heap[q]? = some (cho 0 0 0)) := hoq
         rcases (by omega : t = 11 ∨ t = 12) with rfl | rfl
         · simp at ho
           subst ho; rw [if_pos rfl] at hw; subst hw; obtain ⟨c0, c1, c2⟩ := cells3 hop; have cf : ∀ i, w'.frozen? ⟨p, i, none⟩ = false := fun i => by simp [World.frozen?, hop]
           clear hcn hO hop hoq; simp only [putD, Act.put]; rw [d9, d6]; gi_wp2; exact ⟨undef, by simp [upd, d5, d6, d9, d10], w', bs, p, q, hB0, d5, d6, HCn.out, HO.out, d9, d10, hzp, hzq, HOp.out, HOq.out, by rw [if_neg (by decide), if_pos rfl]⟩
         · simp at ho
           subst ho; rw [if_neg (by decide), if_pos rfl] at hw; have d7 : vs 7 = chv d iw kk := (hd (eD 7) (by simp) rfl (by decide) rfl).1 rfl
           have hq1 : (stB p w0 bs).heap[q]? = some (cho 0 0 0) := blk_but hoq (stB_but p w0 bs) (fun e => by
            have e' : q = p := e; rw [e', hop] at hoq
            cases hoq)
           rw [← hw] at hq1; obtain ⟨c0, c1, c2⟩ := cells3 hq1; have cf : ∀ i, w'.frozen? ⟨q, i, none⟩ = false := fun i => by simp [World.frozen?, hq1]
           have HW : Hid (w' = stB p w0 bs) := hw; clear hcn hO hop hoq hq1 hw; simp only [putD, Act.put]; rw [d10, d7]; gi_wp2; exact ⟨undef, by simp [upd, d5, d6, d7, d9, d10], w0, bs, p, q, hB0, d5, d6, HCn.out, HO.out, d9, d10, hzp, hzq, HOp.out, HOq.out, by rw [if_neg (by decide), if_neg (by decide), HW.out]⟩
        case fin =>
         intro vs V5 hG hp; have d8 : vs 8 = .int .i64 c := (hp 8 (by decide) rfl).2 rfl; have d7 : vs 7 = chv d iw kk := (hp 7 (by decide) rfl).1 rfl; obtain ⟨bh, p5, q5, hB, hcn, hO, d9, d10, hop, hoq, hzp, hzq⟩ := G14.done (O := (AnsBk wi.heap.size)) (fun S w w' y h hb hs => AnsBk.odd h hb hs) hG; clear hG hp; simp only [List.drop_succ_cons, List.drop_zero, putD, Act.put]; rw [d8, d9, d10]; clear d8 d9 d10 d7; generalize vs 0 = v0; generalize vs 1 = v1; generalize vs 2 = v2; generalize vs 3 = v3; generalize vs 4 = v4; generalize vs 5 = v5; generalize vs 6 = v6; generalize vs 7 = v7; have MM := bstep MM hB; have HG : Hid _ := blk HG.out hB; have HAm : Hid _ := HAm.out.later hB; have HCh : Hid (Cnt (hN b) (hF b) (takLT b x) bh) := by have h := hcn; rw [HCc.out] at h; exact h
         have HAh : Hid (AnsBk wi.heap.size V5 bh) := hO; have S5 := blk HS3.out MM; have T5 := blk HQ3.out MM; have HH5 : Hid (V5.heap[p5]? = some bh.obj) := hop; have HK5 : Hid (V5.heap[q5]? = some (cho d iw kk)) := hoq; obtain ⟨g0, g1, g2⟩ := cells3 hop; obtain ⟨s0, s1, s2⟩ := cells3 S5; obtain ⟨j0, j1, j2⟩ := cells3 hoq; obtain ⟨t0, t1, t2⟩ := cells3 T5; clear hB hcn hO hop hoq hzp hzq S5 T5 NN HA HX; gi_wp2_with fail
         go_wp2_with fail
         refine (eqBook_cnt HCh.out HCs.out HAh.out (HSp.out.later MM) (by rw [← HCi.out.fl]; exact hfi) hll HLf.out).mono ?_; rintro e wj ⟨rfl, hbj⟩; have MM := bstep MM hbj; have HG : Hid _ := blk HG.out hbj; have HAm : Hid _ := HAm.out.later hbj; have T6 := blk HQ3.out MM; have J6 := blk HK5.out hbj; clear g0 g1 g2 s0 s1 s2 j0 j1 j2 t0 t1 t2; obtain ⟨j0, j1, j2⟩ := cells3 J6; obtain ⟨t0, t1, t2⟩ := cells3 T6; clear hbj T6 J6; go_wp2_with fail
         refine (eqChoice_same d iw kk wj).mono ?_; rintro e wk ⟨rfl, hbk⟩; have MM := bstep MM hbk; have HAm : Hid _ := HAm.out.later hbk; have G7 := blk HG.out hbk; clear j0 j1 j2 t0 t1 t2; obtain ⟨g0, g1, g2⟩ := cells3 G7; clear G7 hbk; go_wp2_with fail
         refine (heldBk_is w7.heap.size bi wk HAm.out (HCi.out.lk.fit HLf.out) hfi hli).mono ?_; rintro e wl ⟨rfl, hbl⟩; rw [← HMM.out]; have Nl := bstep N3 (bstep MM hbl); clear g0 g1 g2 hbl; go_wp2_with fail
         go_ret; exact ⟨rfl, Nl⟩
   · go_wp2
     go_ret; exact ⟨rfl, NN⟩
 · go_wp2
   go_ret; exact ⟨rfl, N1⟩
end Go.Proofs.YtjlliijeaekmfaaGreatDoor
