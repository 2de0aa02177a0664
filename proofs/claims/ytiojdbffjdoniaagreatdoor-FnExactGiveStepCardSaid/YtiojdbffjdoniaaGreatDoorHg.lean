import Derived.Test.YtiojdbffjdoniaaGreatDoorHd
import Derived.Test.YtiojdbffjdoniaaGreatDoorGi
import Derived.Test.YtiojdbffjdoniaaGreatDoorFg
namespace Go.Proofs.YtiojdbffjdoniaaGreatDoor
open Go.RowKit Go.Shelf
def sN (b : Bk) (v : Ev) : Int := if aS b then eT b v else 0
def sL (b : Bk) (v : Ev) : List Hx := if aS b then eR b v else []
def sT (b : Bk) (v : Ev) : Int := if aS b then eQ b v else 1
theorem wY {b b' : Bk} {v v' : Ev} {z : Nat} {w : World} (hn : b'.now = b.now) (hf : b'.fl = b.fl) (h : aI b.hl b'.hl) (g : gD z w v v') :
 eQ b' v' = eQ b v /\ eT b' v' = eT b v /\ aI (eR b v) (eR b' v') := by
 unfold eQ eT eR; rw [g.k, g.n, g.t, g.tl]
 by_cases h1 : v.k = 1
 · obtain ⟨m1, _, m3⟩ := I9 hn hf h v'.x
   obtain ⟨n1, _, n3⟩ := MJ g.x b; rw [n3] at m3; simp only [h1, if_true]; exact ⟨m1.trans n1, hn, m3⟩
 by_cases h2 : v.k = 2
 · obtain ⟨m1, m2⟩ := DO hn hf h v.n v.tl
   simp only [h2, if_true]; exact ⟨m1, hn, m2⟩
 by_cases h3 : v.k = 3
 · obtain ⟨m1, m2⟩ := DL h v.n v.t
   simp only [h3, if_true]; exact ⟨m1, hn, m2⟩
 by_cases h4 : v.k = 4
 · obtain ⟨m1, m2, m3⟩ := xO 1 hn h
   simp only [h4, if_true]; exact ⟨m1, m2, m3⟩
 rw [if_neg h1, if_neg h2, if_neg h3, if_neg h4, if_neg h1, if_neg h2, if_neg h3, if_neg h4, if_neg h4, if_neg h4, if_neg h1, if_neg h2, if_neg h3, if_neg h4, if_neg h1, if_neg h2, if_neg h3, if_neg h4]; exact ⟨rfl, hn, h⟩
theorem PT {b : Bk} {v : Ev} (hfit : ∀ h ∈ b.hl, h.Fit) (hf : v.x.Fit) (hnt : v.tl.length <= 1048576) : (∀ h ∈ sL b v, h.Fit) /\ (sL b v).length <= 64 := by
 unfold sL
 split
 · rename_i hbk
   have h16 := iR hbk; unfold eR
   split
   · have := MW (b := b) (x := v.x) hfit hf
     simpa [GP, hbk] using this
   split
   · have := LW (b := b) (nm := v.n) (tl := v.tl) hfit hnt
     simpa [GY, hbk] using this
   split
   · have := JA (b := b) (nm := v.n) (took := v.t) hfit
     simpa [GH, hbk] using this
   split
   · have := OS (b := b) (n := 1) hfit
     simpa [RH, hbk] using this
   · exact ⟨hfit, by omega⟩
 · exact ⟨fun h hm => by simp at hm, by simp⟩
theorem qP {b b2 : Bk} {v v2 : Ev} {z : Nat} {w : World} (hL : oI w) (h : eN w b b2) (g : gD z w v v2) (hnf : b.fl.length <= 1048576) (hs : ∀ f ∈ b.fl, f.n.size <= 9223372036854775807) (hnh : b.hl.length <= 1048576) (hfit : ∀ h ∈ b.hl, h.Fit) (hf : v.x.Fit) (hnt : v.tl.length <= 1048576) :
 Calls Tryz.prog 6 #[b2.val, v2.val] w fun e w' => (∃ bi, e = .returned (.tuple #[Bk.val bi, .int .i64 (sT b v)]) /\ OQ (sN b v) (hF b) (sL b v) bi /\ cP w.heap.size w' bi) /\ Below w.heap.size w w' := by
 refine (zF b2 v2 w hL (zU h hnf hs hnh hfit) (C9 g.x hf) g.bxs (by rw [g.tl]; exact hnt)).mono ?_; rintro e w' ⟨⟨u, rfl, hC⟩, hb⟩; refine ⟨?_, hb⟩; obtain ⟨m1, m2, m3⟩ := wY h.now h.fl h.likes g
 rcases hC with ⟨hbk, rfl⟩ | ⟨hbk, bi, rfl, e1, e2, e3, hO⟩
 · rw [kL h] at hbk
   refine ⟨_, ?_, ⟨?_, ?_, ?_⟩, MX _ _⟩
   · simp [sT, hbk]
   · simp [sN, hbk]
   · simp [hF, hbk]
   · simp only [sL, hbk]; exact wV
 · rw [kL h] at hbk
   refine ⟨bi, ?_, ⟨?_, ?_, ?_⟩, hO.ans⟩
   · rw [m1]; simp [sT, hbk]
   · simp [sN, hbk, e1, m2]
   · simp [hF, hbk, e2, h.fl]
   · simp only [sL, hbk]
     exact m3.trans e3
theorem zB {b b1 : Bk} {v v1 : Ev} {z : Nat} {w : World} (h : eN w b b1) (g : gD z w v v1) (hnf : b.fl.length <= 1048576) (hs : ∀ f ∈ b.fl, f.n.size <= 9223372036854775807) (hnh : b.hl.length <= 1048576) (hfit : ∀ h ∈ b.hl, h.Fit) (hf : v.x.Fit) (hnt : v.tl.length <= 1048576) :
 Calls Tryz.prog 7 #[b1.val, v1.val] w fun e w' => (∃ bi, e = .returned (.tuple #[Bk.val bi, .int .i64 (sT b v)]) /\ OQ (sN b v) (hF b) (sL b v) bi /\ cS w.heap.size w' bi) /\ Below w.heap.size w w' := by
 have hok : mJ b1 w := fun W hb => by
  have := vY (h.zL hb) hnf hs hnh hfit; rw [← kL h] at this; exact this
 refine (zO b1 v1 w hok (zU h hnf hs hnh hfit) (C9 g.x hf) g.bxs (by rw [g.tl]; exact hnt)).mono ?_; rintro e w' ⟨hC, hb⟩; refine ⟨?_, hb⟩; obtain ⟨m1, m2, m3⟩ := wY h.now h.fl h.likes g
 rcases hC with ⟨hbk, rfl⟩ | ⟨hbk, bi, rfl, e1, e2, e3, hA⟩
 · rw [kL h] at hbk
   refine ⟨_, ?_, ⟨?_, ?_, ?_⟩, OA _ _⟩
   · simp [sT, hbk]
   · simp [sN, hbk]
   · simp [hF, hbk]
   · simp only [sL, hbk]; exact wV
 · rw [kL h] at hbk
   refine ⟨bi, ?_, ⟨?_, ?_, ?_⟩, hA⟩
   · rw [m1]; simp [sT, hbk]
   · simp [sN, hbk, e1, m2]
   · simp [hF, hbk, e2, h.fl]
   · simp only [sL, hbk]
     exact m3.trans e3
end Go.Proofs.YtiojdbffjdoniaaGreatDoor
namespace Go.Proofs.YtiojdbffjdoniaaGreatDoor
open Go.RowKit Go.Shelf
attribute [local go_sem] Oper.semAt_some
theorem zP {w : World} {z : Nat} {t : TypeId} {a b c : Value} (h : w.heap[z]? = some (.cells #[a, b, c] t)) : w.cell? ⟨z, 0, none⟩ = some a /\ w.cell? ⟨z, 1, none⟩ = some b /\ w.cell? ⟨z, 2, none⟩ = some c := by simp [World.cell?, h]
theorem BR {w : World} {z : Nat} {t : TypeId} {a0 a1 a2 a3 a4 a5 a6 a7 a8 a9 a10 a11 : Value} (h : w.heap[z]? = some (.cells #[a0, a1, a2, a3, a4, a5, a6, a7, a8, a9, a10, a11] t)) : w.cell? ⟨z, 0, none⟩ = some a0 /\ w.cell? ⟨z, 1, none⟩ = some a1 /\ w.cell? ⟨z, 2, none⟩ = some a2 /\ w.cell? ⟨z, 3, none⟩ = some a3 /\ w.cell? ⟨z, 4, none⟩ = some a4 /\ w.cell? ⟨z, 5, none⟩ = some a5 /\ w.cell? ⟨z, 6, none⟩ = some a6 /\ w.cell? ⟨z, 7, none⟩ = some a7 /\ w.cell? ⟨z, 8, none⟩ = some a8 /\ w.cell? ⟨z, 9, none⟩ = some a9 /\ w.cell? ⟨z, 10, none⟩ = some a10 /\ w.cell? ⟨z, 11, none⟩ = some a11 := by simp [World.cell?, h]
theorem gD.taEnd {z : Nat} {w : World} {v v' : Ev} (h : gD z w v v') : ∀ p, v'.ta = some ⟨p, 0, none⟩ -> p < w.heap.size := fun p e => by
 obtain ⟨g, e1, _, _, _, _, r, _⟩ := h.tu; rw [e1] at e
 cases e
 exact r.lt
theorem gD.keep {z : Nat} {w w' : World} {v v' : Ev} (h : gD z w v v') (hk : ∀ k, z <= k -> k < w.heap.size -> w'.heap[k]? = w.heap[k]?) : gD z w' v v' := by
 obtain ⟨h1, h2, h3, h4, h5, g, e1, e2, e3, e4, f, r, hv⟩ := h; exact ⟨h1, h2, h3, h4.keep hk, h5, g, e1, e2, e3, e4, f, r.of_block (hk g e3 r.lt), hv⟩
def V8 (x x2 : Ev) (j : Nat) (v : Value) (w : World) : Prop :=
 match j with
 | 0 => v = x2.val
 | 1 => v = x.val
 | 2 => ∃ (x3 : Ev) (z : Nat), v = x3.val /\ gD z w x x3
 | 3 => v = .bool true
 | _ => True
theorem V8.zL {x x2 : Ev} (j : Nat) (v : Value) (w w' : World) (h : V8 x x2 j v w) (hb : Below w.heap.size w w') : V8 x x2 j v w' := by
 unfold V8 at h ⊢
 split
 all_goals first
  | exact h
  | (obtain ⟨x1, z, e, hc⟩ := h; exact ⟨x1, z, e, gD.zL hc hb⟩)
  | trivial
def zR (O : World -> Bk -> Prop) (C : Bk -> Prop) (b : Bk) (v : Ev) (c : Int) (Z : Nat) (j : Nat) (vs : Nat -> Value) (w : World) : Prop :=
 match j with
 | 0 => vs 0 = b.val
 | 1 => ∃ b1 : Bk, vs 1 = b1.val /\ eN w b b1
 | 2 => vs 2 = v.val
 | 3 => ∃ (x1 : Ev) (z : Nat), vs 3 = x1.val /\ gD z w v x1
 | 4 => ∃ bs : Bk, vs 4 = .tuple #[bs.val, .int .i64 c] /\ C bs /\ O w bs
 | 5 => ∃ bs : Bk, vs 5 = .tuple #[bs.val, .int .i64 c] /\ C bs /\ O w bs
 | 6 => ∃ bs : Bk, vs 5 = .tuple #[bs.val, .int .i64 c] /\ vs 6 = bs.val /\ C bs /\ O w bs
 | 7 => vs 7 = .int .i64 c
 | 8 => ∃ p, vs 8 = .pointer (some ⟨p, 0, none⟩) /\ Z <= p /\ w.heap[p]? = some QY
 | _ => True
def I8 (j : Nat) : List Nat := if j = 6 then [6, 5] else [j]
def AI (j : Nat) : Bool := j == 7
def PP (c : Int) (_ : Nat) (v : Value) : Prop := v = .int .i64 c
theorem zR.zL {O : World -> Bk -> Prop} {C : Bk -> Prop} (hO : ∀ w w' y, O w y -> Below w.heap.size w w' -> O w' y) {b : Bk} {v : Ev} {c : Int} {Z : Nat} (j : Nat) (vs : Nat -> Value) (w w' : World) (h : zR O C b v c Z j vs w) (hb : Below w.heap.size w w') : zR O C b v c Z j vs w' := by
 unfold zR at h ⊢
 split
 all_goals first
  | exact h
  | exact (by obtain ⟨b1, e, hc⟩ := h; exact ⟨b1, e, hc.zL hb⟩)
  | exact (by obtain ⟨x1, z, e, hc⟩ := h; exact ⟨x1, z, e, hc.zL hb⟩)
  | exact (by obtain ⟨bs, e, hc, ho⟩ := h; exact ⟨bs, e, hc, hO _ _ _ ho hb⟩)
  | exact (by obtain ⟨bs, e, e2, hc, ho⟩ := h; exact ⟨bs, e, e2, hc, hO _ _ _ ho hb⟩)
  | exact (by obtain ⟨p, e, e2, hc⟩ := h; exact ⟨p, e, e2, aY hc hb⟩)
  | trivial
theorem zR.loc {O : World -> Bk -> Prop} {C : Bk -> Prop} {b : Bk} {v : Ev} {c : Int} {Z : Nat} (j : Nat) (vs vs' : Nat -> Value) (w : World) (he : ∀ q ∈ I8 j, vs q = vs' q) (h : zR O C b v c Z j vs w) : zR O C b v c Z j vs' w := by
 unfold zR at h ⊢
 split
 all_goals first
  | (rw [← he _ (by simp [I8])]; exact h)
  | exact (by obtain ⟨bs, e5, e6, hc⟩ := h; exact ⟨bs, by rw [← he 5 (by simp [I8])]; exact e5, by rw [← he 6 (by simp [I8])]; exact e6, hc⟩)
  | trivial
theorem zR.free {O : World -> Bk -> Prop} {C : Bk -> Prop} {b : Bk} {v : Ev} {c : Int} {Z : Nat} (j : Nat) (vs : Nat -> Value) (w : World) (hf : AI j = true) (h : zR O C b v c Z j vs w) : PP c j (vs j) := by
 simp [AI] at hf
 subst hf; exact h
def QG (O : World -> Bk -> Prop) (C : Bk -> Prop) (c : Int) (W : World) (t : Nat) (vs : Nat -> Value) (w' : World) : Prop :=
 ∃ (w0 : World) (bs : Bk) (p : Nat), Below W.heap.size W w0 /\ vs 5 = .tuple #[bs.val, .int .i64 c] /\ vs 6 = bs.val /\ C bs /\ O w0 bs /\ vs 8 = .pointer (some ⟨p, 0, none⟩) /\ W.heap.size <= p /\ w0.heap[p]? = some QY /\ w' = if t = 9 then w0 else RK p w0 bs
theorem QG.done {O : World -> Bk -> Prop} {C : Bk -> Prop} {c : Int} {W : World} {vs : Nat -> Value} {w' : World} (hO : ∀ (S : Nat -> Prop) w w' y, O w y -> bC S w w' -> (∀ k, S k -> QQ w k) -> O w' y) (h : QG O C c W 10 vs w') :
 ∃ (bs : Bk) (p : Nat), Below W.heap.size W w' /\ C bs /\ O w' bs /\ vs 8 = .pointer (some ⟨p, 0, none⟩) /\ w'.heap[p]? = some bs.obj /\ W.heap.size <= p := by
 obtain ⟨w0, bs, p, hb, _, _, hc, ho, e8, hp, hop, hw⟩ := h; rw [if_neg (by decide)] at hw; have b1 := OH p w0 bs; rw [hw]; refine ⟨bs, p, b1.under hb (nlq _) (fun k hk => by rw [hk]; exact hp), hc, hO _ _ _ _ ho b1 (fun k hk => ?_), e8, NV bs hop, hp⟩; rw [hk]; exact ⟨_, _, hop, by decide, by decide, by decide⟩
set_option maxRecDepth 100000
set_option maxHeartbeats 16000000
theorem CW (b : Bk) (v : Ev) (w : World) (hL : oI w) (hf : Xs 3 Fx.cells w b.fa b.fl) (hnf : b.fl.length <= 9223372036854775807) (hsf : ∀ f ∈ b.fl, f.n.size <= 9223372036854775807) (hh : Xs 3 Hx.cells w b.ha b.hl) (hn : b.hl.length <= 9223372036854775807) (hs : ∀ h ∈ b.hl, h.Wide) (hin : ∀ h ∈ b.hl, h.In w) (hi : v.x.In w) (hw : v.x.Wide) (hvn : v.n.size <= 9223372036854775807) (ht : iL w v.ta v.tl) (hnt0 : v.tl.length <= 9223372036854775807) :
 Calls Tryz.prog 4 #[b.val, v.val] w fun e w' => e = .returned (.bool true) /\ Below w.heap.size w w' := by
 have hB0 : Below w.heap.size w ((w.alloc b.objL).alloc v.objL) := aA (aA (br _ _) _) _; have A0 := (halq (w.alloc b.objL) v.objL w.heap.size (by simp)).trans (wnq w b.objL); have X0 := wnq (w.alloc b.objL) v.objL; rw [wsa] at X0
 go_enter Tryz.func4, Tryz.ntmps4
 go_wp2_with fail
 obtain ⟨W0, hW0⟩ : ∃ W0, (w.alloc b.objL).alloc v.objL = W0 := ⟨_, rfl⟩; rw [hW0] at hB0 A0 X0 ⊢; clear hW0; refine (D4 b _ (hf.zL hB0) hnf hsf (hh.zL hB0) hn hs 1048576 (by omega) (by omega)).mono ?_; rintro e w1 ⟨⟨r, rfl, hr0, hr1⟩, hb1⟩; have N1 : Below w.heap.size w w1 := aD hB0 hb1; have A1 := aY A0 hb1; have X1 := aY X0 hb1; clear hB0 hb1 A0 X0
 by_cases hr : 0 <= r
 · obtain ⟨hrl, hfl, hhl, hft⟩ := hr1 hr
   have hfl : b.fl.length <= 1048576 := by omega
   have hhl : b.hl.length <= 1048576 := by omega
   obtain ⟨q0, q1, q2, q3, q4, q5, q6, q7, q8, q9, q10, q11⟩ := BR X1; go_wp2_with fail
   refine (DH v r w1 (hi.zL N1) hr (by omega) hw hvn hnt0).mono ?_; rintro e w2 ⟨⟨r2, rfl, hq0, hq1⟩, hb2⟩; have NN : Below w.heap.size w w2 := aD N1 hb2; have HA : Hid _ := aY A1 hb2; have HX : Hid _ := aY X1 hb2; clear q0 q1 q2 q3 q4 q5 q6 q7 q8 q9 q10 q11 hb2 A1 X1 N1
   by_cases hq : 0 <= r2
   · obtain ⟨hxf, hnt⟩ := hq1 hq
     have hz2 : w.heap.size + 1 < w2.heap.size := (bH HX.out); obtain ⟨c, hc⟩ : ∃ c, sT b v = c := ⟨_, rfl⟩; have HTc : Hid (sT b v = c) := hc; obtain ⟨Cc, hCc⟩ : ∃ Cc, Cc = OQ (sN b v) (hF b) (sL b v) := ⟨_, rfl⟩; have HCc : Hid (Cc = OQ (sN b v) (hF b) (sL b v)) := hCc; obtain ⟨lf, hll⟩ := PT (b := b) (v := v) hft hxf hnt; have HLf : Hid (∀ h ∈ sL b v, h.Fit) := lf; clear hc hCc lf; go_wp2_with fail
     generalize decide (r < 0) = t1; generalize decide (r2 < 0) = t2; refine wpIn_wide.1 (dA (F := Fence.wide) (n := 0) (by kernel_rfl) 8 9 10 [some 28, some 29, some 30, some 31, some 32, some 27, some 33, some 34, some 6] (by decide) (by decide) AI I8 (zR (cS w2.heap.size) Cc b v c w2.heap.size) (PP c) (QG (cS w2.heap.size) Cc c w2) (zR.zL (O := (cS w2.heap.size)) (fun _ _ _ h hb => cS.zL h hb)) zR.loc zR.free (by kernel_rfl) (by kernel_rfl) (by kernel_rfl) (by kernel_rfl) (by kernel_rfl) ?step ?free ?g0 ?gf ?store ?fin)
     case step =>
      intro i o vs w' hi' ho hB hd; have hBw := aD NN hB; have A2 := aY HA.out hB; have X2 := aY HX.out hB
      match i, hi' with
      | 0, _ =>
       simp at ho; subst ho; obtain ⟨k0, k1, k2⟩ := zP A2; clear A2 X2; simp only [aE, Act.put]; gi_wp2; exact ⟨_, by simp [aH], rfl, br _ _⟩
      | 1, _ =>
       simp at ho; subst ho; have d0 : vs 0 = _ := Zq hd 0; clear A2 X2; simp only [aE, Act.put]; rw [d0]; gi_wp2_with fail
       refine ⟨trivial, rfl, ?_⟩; refine (cw.2 (oY b w' (hf.zL hBw) hfl (hh.zL hBw) hhl (fun h m => ⟨(hin h m).zL hBw, hft h m⟩))).mono ?_; rintro e w3 ⟨⟨b1, rfl, hc1⟩, hb3⟩; have HC : Hid _ := hc1; clear hc1; gi_wp2; exact ⟨_, by simp [aH, d0], ⟨b1, rfl, HC.out⟩, hb3⟩
      | 2, _ =>
       simp at ho; subst ho; obtain ⟨q0, q1, q2, q3, q4, q5, q6, q7, q8, q9, q10, q11⟩ := BR X2; clear A2 X2; simp only [aE, Act.put]; gi_wp2; exact ⟨_, by simp [aH], rfl, br _ _⟩
      | 3, _ =>
       simp at ho; subst ho; have d2 : vs 2 = _ := Zq hd 2; clear A2 X2; simp only [aE, Act.put]; rw [d2]; gi_wp2_with fail
       refine ⟨trivial, rfl, ?_⟩; refine (cw.2 (k8 v w' (hi.zL hBw) hxf (ht.zL hBw) hnt)).mono ?_; rintro e w3 ⟨⟨x1, rfl, hc1⟩, hb3⟩; have HC : Hid _ := hc1; clear hc1; gi_wp2; exact ⟨_, by simp [aH, d2], ⟨x1, _, rfl, HC.out⟩, hb3⟩
      | 4, _ =>
       simp at ho; subst ho; obtain ⟨b1, d1, hc1⟩ : ∃ b1 : Bk, vs 1 = b1.val /\ eN w' b b1 := Zq hd 1; obtain ⟨x1, z, d3, hx1⟩ : ∃ (x1 : Ev) (z : Nat), vs 3 = x1.val /\ gD z w' v x1 := Zq hd 3; clear A2 X2; simp only [aE, Act.put]; rw [d1, d3]; gi_wp2_with fail
       refine ⟨trivial, rfl, ?_⟩; refine (cw.2 (zB hc1 hx1 hfl hsf hhl hft hxf hnt)).mono ?_; rintro e w3 ⟨⟨bs, rfl, hcn, hO⟩, hb3⟩; rw [HTc.out]; have HCn : Hid (Cc bs) := by rw [Hid, HCc.out]; exact hcn
       have HO : Hid ((cS w2.heap.size) w3 bs) := hO.weak hB.size; clear hc1 hx1 hcn hO; gi_wp2; exact ⟨_, by simp [aH, d1, d3], ⟨bs, rfl, HCn.out, HO.out⟩, hb3⟩
      | 5, _ =>
       simp at ho; subst ho; obtain ⟨bs, d4, hcn, hO⟩ := Zq hd 4; have HCn : Hid (Cc bs) := hcn; have HO : Hid ((cS w2.heap.size) w' bs) := hO; clear A2 X2 hcn hO; simp only [aE, Act.put]; rw [d4]; gi_wp2; exact ⟨_, by simp [aH, d4], ⟨bs, rfl, HCn.out, HO.out⟩, br _ _⟩
      | 6, _ =>
       simp at ho; subst ho; obtain ⟨bs, d5, hcn, hO⟩ := Zq hd 5; have HCn : Hid (Cc bs) := hcn; have HO : Hid ((cS w2.heap.size) w' bs) := hO; clear A2 X2 hcn hO; simp only [aE, Act.put]; rw [d5]; gi_wp2; exact ⟨_, by simp [aH, d5], ⟨bs, d5, rfl, HCn.out, HO.out⟩, br _ _⟩
      | 7, _ =>
       simp at ho; subst ho; obtain ⟨bs, d5, hcn, hO⟩ := Zq hd 5; have HCn : Hid (Cc bs) := hcn; have HO : Hid ((cS w2.heap.size) w' bs) := hO; clear A2 X2 hcn hO; simp only [aE, Act.put]; rw [d5]; gi_wp2; exact ⟨_, by simp [aH, d5], rfl, br _ _⟩
      | 8, _ =>
       simp at ho; subst ho; clear A2 X2; simp only [aE, Act.put]; gi_wp2; exact ⟨_, by simp [aH], ⟨w'.heap.size, rfl, hB.size, wnq w' _⟩, aA (br _ _) _⟩
      | j + 9, h => exact absurd h (by omega)
     case free =>
      intro ii o vs w' t hi' hfi ho ht htM hG hd; have d5 : ∃ bs : Bk, vs 5 = .tuple #[bs.val, .int .i64 c] := by obtain ⟨_, bs, _, _, d5, _⟩ := hG; exact ⟨bs, d5⟩
      clear hG; obtain ⟨bs, d5⟩ := d5; obtain rfl : ii = 7 := by simpa [AI] using hfi
      simp at ho; subst ho; simp only [aE, Act.put]; rw [d5]; gi_wp2
      first
       | exact ⟨_, by simp [aH, d5], rfl, rfl⟩
       | exact ⟨_, by simp [aH, d5], rfl⟩
     case g0 =>
      intro vs w' hB hp; obtain ⟨bs, e5, e6, hcn, hO⟩ := hp 6 (by decide) rfl; obtain ⟨p, e8, hz8, ho8⟩ := hp 8 (by decide) rfl; exact ⟨w', bs, p, hB, e5, e6, hcn, hO, e8, hz8, ho8, by rw [if_pos rfl]⟩
     case gf =>
      intro t vs w' ii u hfi hG; obtain rfl : ii = 7 := by simpa [AI] using hfi
      exact hG
     case store =>
      intro t o vs w' h12 h15 ho hG hd; obtain ⟨w0, bs, p, hB0, d5, d6, hcn, hO, d8, hzp, hop, hw⟩ := hG; have HCn : Hid (Cc bs) := hcn; have HO : Hid ((cS w2.heap.size) w0 bs) := hO; have HOp : Hid (w0.heap[p]? = some QY) := hop; obtain rfl : t = 9 := by omega
      simp at ho; subst ho; rw [if_pos rfl] at hw; subst hw; obtain ⟨c0, c1, c2⟩ := zP hop; have cf : ∀ i, w'.frozen? ⟨p, i, none⟩ = false := fun i => by simp [World.frozen?, hop]
      clear hcn hO hop; simp only [aE, Act.put]; rw [d8, d6]; gi_wp2; exact ⟨undef, by simp [aH, d5, d6, d8], w', bs, p, hB0, d5, d6, HCn.out, HO.out, d8, hzp, HOp.out, by rw [if_neg (by decide)]⟩
     case fin =>
      intro vs V3 hG hp; have d7 : vs 7 = .int .i64 c := hp 7 (by decide) rfl; obtain ⟨bs, p, hB, hcn, hO, d8, hop, hzp⟩ := QG.done (O := (cS w2.heap.size)) (fun S w w' y h hb hs => cS.odd h hb hs) hG; clear hG hp; simp only [lds, List.drop_zero, aE, Act.put]; rw [d7, d8]; clear d7 d8; generalize vs 0 = v0; generalize vs 1 = v1; generalize vs 2 = v2; generalize vs 3 = v3; generalize vs 4 = v4; generalize vs 5 = v5; generalize vs 6 = v6; have N3 := aD NN hB; have HA3 : Hid _ := aY HA.out hB; have HX3 : Hid _ := aY HX.out hB; have HS3 : Hid (V3.heap[p]? = some bs.obj) := hop; have HSp : Hid (cS w2.heap.size V3 bs) := hO; have HCs : Hid (OQ (sN b v) (hF b) (sL b v) bs) := by have h := hcn; rw [HCc.out] at h; exact h
      have hw3 : w.heap.size + 1 < V3.heap.size := (bH HX3.out); have hp3 : p < V3.heap.size := (bH hop); clear hB NN HA HX hcn hO hop hzp hz2; obtain ⟨k0, k1, k2⟩ := zP HA3.out; gi_wp2_with fail
      go_wp2_with fail
      clear k0 k1 k2; refine (EF b V3 (hf.zL N3) hfl (hh.zL N3) hhl (fun h m => ⟨(hin h m).zL N3, hft h m⟩)).mono ?_; rintro e w4 ⟨⟨b2, rfl, hc2, hOb⟩, hb4⟩; have hz4 := hb4.size; have hbx : Below w4.heap.size w4 (w4.alloc b2.obj) := aA (br _ _) _; have MM := aD hb4 hbx; have B5 := wnq w4 b2.obj; have HCb : Hid _ := hc2.zL hbx; have HOb : Hid _ := hOb.zL hbx; obtain ⟨w5, hw5⟩ : ∃ w5, w4.alloc b2.obj = w5 := ⟨_, rfl⟩; rw [hw5] at MM B5 HCb HOb; have hz5 : w4.heap.size < w5.heap.size := (bH B5); have HBk : Hid _ := B5; have X5 := aY HX3.out MM; obtain ⟨q0, q1, q2, q3, q4, q5, q6, q7, q8, q9, q10, q11⟩ := BR X5; clear hbx B5 hc2 hOb hb4 X5; go_wp2_with fail
      clear hw5 q0 q1 q2 q3 q4 q5 q6 q7 q8 q9 q10 q11; refine (k8 v w5 (hi.zL (aD N3 MM)) hxf (ht.zL (aD N3 MM)) hnt).mono ?_; rintro e w6 ⟨⟨v2, rfl, hx2⟩, hb6⟩; have hz6 := hb6.size; have HLa : Hid (∀ p, v2.ta = some ⟨p, 0, none⟩ -> p < w6.heap.size) := hx2.taEnd; have hbx : Below w6.heap.size w6 (w6.alloc v2.obj) := aA (br _ _) _; have MM := aD (aD MM hb6) hbx; have Y7 := wnq w6 v2.obj; have HBk : Hid _ := aY (aY HBk.out hb6) hbx; have HCb : Hid _ := (HCb.out.zL hb6).zL hbx; have HOb : Hid _ := (HOb.out.zL hb6).zL hbx; have HCw : Hid _ := hx2.zL hbx; obtain ⟨w7, hw7⟩ : ∃ w7, w6.alloc v2.obj = w7 := ⟨_, rfl⟩; rw [hw7] at MM Y7 HBk HCb HOb HCw; have hz7 : w6.heap.size < w7.heap.size := (bH Y7); have HYb : Hid _ := Y7; obtain ⟨k0, k1, k2⟩ := zP HBk.out; obtain ⟨q0, q1, q2, q3, q4, q5, q6, q7, q8, q9, q10, q11⟩ := BR Y7; clear hbx Y7 hx2 hb6; go_wp2_with fail
      clear hw7 k0 k1 k2 q0 q1 q2 q3 q4 q5 q6 q7 q8 q9 q10 q11; refine (qP (hL.zL (aD N3 MM)) HCb.out HCw.out hfl hsf hhl hft hxf hnt).mono ?_; rintro e w8 ⟨⟨bi, rfl, hci, hai⟩, hb8⟩; rw [HTc.out]; have hz8 := hb8.size; have PG : Hid (∀ k, nW bi k -> w7.heap.size <= k /\ k < w8.heap.size) := hai.touched; have HCi : Hid (OQ (sN b v) (hF b) (sL b v) bi) := hci
      have hfi : bi.fl.length <= 1048576 := by
       rw [hci.fl]; unfold hF; split
       · exact hfl
       · simp
      have hli : bi.hl.length <= 64 := by rw [hci.lk.len]; exact hll
      have hb9 : Below w8.heap.size w8 (w8.alloc bi.obj) := aA (br _ _) _; have G9 := wnq w8 bi.obj; have HAi : Hid _ := hai.zL hb9; obtain ⟨w9, hw9⟩ : ∃ w9, w8.alloc bi.obj = w9 := ⟨_, rfl⟩; rw [hw9] at hb9 G9 HAi; have hbb := aD hb8 hb9; have HBk : Hid _ := aY HBk.out hbb; have HYb : Hid _ := aY HYb.out hbb; have HOb : Hid _ := HOb.out.zL hbb; have HCb : Hid _ := HCb.out.zL hbb; have HCw : Hid _ := HCw.out.zL hbb; have MM := aD MM hbb; have HG : Hid _ := G9; have S9 := aY HS3.out MM; obtain ⟨g0, g1, g2⟩ := zP G9; obtain ⟨s0, s1, s2⟩ := zP S9; clear hbb hb9 hb8 hci hai G9 S9; go_wp2_with fail
      clear hw9; refine (pH HCi.out HCs.out HAi.out (HSp.out.zL MM) (by rw [← HCi.out.fl]; exact hfi) hll HLf.out).mono ?_; rintro e wa ⟨rfl, hba⟩; have HBk : Hid _ := aY HBk.out hba; have HYb : Hid _ := aY HYb.out hba; have HOb : Hid _ := HOb.out.zL hba; have HCb : Hid _ := HCb.out.zL hba; have HCw : Hid _ := HCw.out.zL hba; have HAi : Hid _ := HAi.out.zL hba; have HG : Hid _ := aY HG.out hba; have MM := aD MM hba; have NN := aD N3 MM; have HA : Hid _ := aY HA3.out MM; have HZ : Hid _ := HBk; have HC : Hid _ := HCb; clear g0 g1 g2 s0 s1 s2 hba; go_wp2_with fail
      refine wpIn_wide.1 (aP (F := Fence.wide) (n := 0) (by kernel_rfl) 4 [some 54, some 55, some 56, some 57] (by decide) (E8 b b2) E8.zL (by kernel_rfl) (by kernel_rfl) (by kernel_rfl) ?step ?fin)
      case step =>
       intro i o vs w' hi' ho hB hd; have hBw := aD NN hB; have A2 := aY HA.out hB; have Z2 := aY HZ.out hB
       match i, hi' with
       | 0, _ =>
        simp at ho; subst ho; obtain ⟨k0, k1, k2⟩ := zP Z2; clear A2 Z2; simp only [aE, Act.put]; gi_wp2; exact ⟨_, by simp [aH], rfl, br _ _⟩
       | 1, _ =>
        simp at ho; subst ho; obtain ⟨k0, k1, k2⟩ := zP A2; clear A2 Z2; simp only [aE, Act.put]; gi_wp2; exact ⟨_, by simp [aH], rfl, br _ _⟩
       | 2, _ =>
        simp at ho; subst ho; have d1 : vs 1 = _ := Zq hd 1; clear A2 Z2; simp only [aE, Act.put]; rw [d1]; gi_wp2_with fail
        refine ⟨trivial, rfl, ?_⟩; refine (cw.2 (oY b w' (hf.zL hBw) hfl (hh.zL hBw) hhl (fun h m => ⟨(hin h m).zL hBw, hft h m⟩))).mono ?_; rintro e w3 ⟨⟨b3, rfl, hc3⟩, hb3⟩; have HD : Hid _ := hc3; clear hc3; gi_wp2; exact ⟨_, by simp [aH, d1], ⟨b3, rfl, HD.out⟩, hb3⟩
       | 3, _ =>
        simp at ho; subst ho; have d0 : vs 0 = _ := Zq hd 0; obtain ⟨b3, d2, hc3⟩ : ∃ b3 : Bk, vs 2 = b3.val /\ eN w' b b3 := Zq hd 2; clear A2 Z2; simp only [aE, Act.put]; rw [d0, d2]; gi_wp2_with fail
        refine ⟨trivial, rfl, ?_⟩; refine (cw.2 (AH (HC.out.zL hB) hc3 hfl hhl hft)).mono ?_; rintro e w3 ⟨rfl, hb3⟩; clear hc3; gi_wp2; exact ⟨_, by simp [aH, d0, d2], rfl, hb3⟩
       | j + 4, h => exact absurd h (by omega)
      case fin =>
       intro vs W3 hB hp; have d3 : vs 3 = .bool true := hp 3 (by decide); clear hp; simp only [lds, List.drop_zero, aE, Act.put]; rw [d3]; clear d3; generalize vs 0 = v0; generalize vs 1 = v1; generalize vs 2 = v2'; have MM := aD MM hB; have HBk : Hid _ := aY HZ.out hB; have HYb : Hid _ := aY HYb.out hB; have HOb : Hid _ := HOb.out.zL hB; have HCb : Hid _ := HC.out.zL hB; have HCw : Hid _ := HCw.out.zL hB; have HG : Hid _ := aY HG.out hB; have HAi : Hid _ := HAi.out.zL hB; clear HA HZ HC NN hB; have NN := aD N3 MM; have HA : Hid _ := aY HX3.out MM; have HZ : Hid _ := HYb; have HC : Hid _ := HCw; gi_wp2_with fail
       go_wp2_with fail
       clear HYb HCw; refine wpIn_wide.1 (aP (F := Fence.wide) (n := 0) (by kernel_rfl) 4 [some 59, some 60, some 61, some 62] (by decide) (V8 v v2) V8.zL (by kernel_rfl) (by kernel_rfl) (by kernel_rfl) ?step ?fin)
       case step =>
        intro i o vs w' hi' ho hB hd; have hBw := aD NN hB; have A2 := aY HA.out hB; have Z2 := aY HZ.out hB
        match i, hi' with
        | 0, _ =>
         simp at ho; subst ho; obtain ⟨q0, q1, q2, q3, q4, q5, q6, q7, q8, q9, q10, q11⟩ := BR Z2; clear A2 Z2; simp only [aE, Act.put]; gi_wp2; exact ⟨_, by simp [aH], rfl, br _ _⟩
        | 1, _ =>
         simp at ho; subst ho; obtain ⟨q0, q1, q2, q3, q4, q5, q6, q7, q8, q9, q10, q11⟩ := BR A2; clear A2 Z2; simp only [aE, Act.put]; gi_wp2; exact ⟨_, by simp [aH], rfl, br _ _⟩
        | 2, _ =>
         simp at ho; subst ho; have d1 : vs 1 = _ := Zq hd 1; clear A2 Z2; simp only [aE, Act.put]; rw [d1]; gi_wp2_with fail
         refine ⟨trivial, rfl, ?_⟩; refine (cw.2 (k8 v w' (hi.zL hBw) hxf (ht.zL hBw) hnt)).mono ?_; rintro e w3 ⟨⟨x3, rfl, hc3⟩, hb3⟩; have HD : Hid _ := hc3; clear hc3; gi_wp2; exact ⟨_, by simp [aH, d1], ⟨x3, _, rfl, HD.out⟩, hb3⟩
        | 3, _ =>
         simp at ho; subst ho; have d0 : vs 0 = _ := Zq hd 0; obtain ⟨x3, z, d2, hc3⟩ : ∃ (x3 : Ev) (z : Nat), vs 2 = x3.val /\ gD z w' v x3 := Zq hd 2; clear A2 Z2; simp only [aE, Act.put]; rw [d0, d2]; gi_wp2_with fail
         refine ⟨trivial, rfl, ?_⟩; refine (cw.2 (zC (HC.out.zL hB) hc3 hxf hnt)).mono ?_; rintro e w3 ⟨rfl, hb3⟩; clear hc3; gi_wp2; exact ⟨_, by simp [aH, d0, d2], rfl, hb3⟩
        | j + 4, h => exact absurd h (by omega)
       case fin =>
        intro vs W3 hB hp; have d3 : vs 3 = .bool true := hp 3 (by decide); clear hp; simp only [lds, List.drop_zero, aE, Act.put]; rw [d3]; clear d3; generalize vs 0 = v0; generalize vs 1 = v1; generalize vs 2 = v2'; have MM := aD MM hB; have HBk : Hid _ := aY HBk.out hB; have HYb : Hid _ := aY HZ.out hB; have HOb : Hid _ := HOb.out.zL hB; have HCw : Hid _ := HC.out.zL hB; have HG : Hid _ := aY HG.out hB; have HAi : Hid _ := HAi.out.zL hB; clear HA HZ HC NN; obtain ⟨k0, k1, k2⟩ := zP HBk.out; clear hB; gi_wp2_with fail
        go_wp2_with fail
        refine (GG _ b2 1 _ HOb.out (HCb.out.likes.fit hft) (by rw [HCb.out.fl]; exact hfl) (by rw [HCb.out.likes.len]; exact hhl) (by omega) (by omega)).mono ?_; rintro e wd ⟨⟨r3, rfl, r30, r31⟩, hbd⟩; have MM := hbd.under MM (nlq _) (fun k hk => by omega); have HYb : Hid _ := cA HYb.out hbd (fun hk => by omega); have HCw : Hid _ := HCw.out.keep (fun k h1 h2 => hbd.block k h2 (fun hk => by omega)); have HG : Hid _ := cA HG.out hbd (fun hk => by omega); have HAi : Hid _ := HAi.out.but hbd (fun k hk => by omega); clear k0 k1 k2 HBk HOb HCb hbd; obtain ⟨q0, q1, q2, q3, q4, q5, q6, q7, q8, q9, q10, q11⟩ := BR HYb.out; go_wp2_with fail
        refine (EL r3 r30 (by omega) HCw.out HLa.out (by have := (bH HYb.out); omega) hxf hnt).mono ?_; rintro e we ⟨⟨r4, rfl, r40⟩, hbe⟩; have MM := hbe.under MM (nlq _) (fun k hk => by omega); have HG : Hid _ := cA HG.out hbe (fun hk => by omega); have HAi : Hid _ := HAi.out.but hbe (fun k hk => by omega); clear q0 q1 q2 q3 q4 q5 q6 q7 q8 q9 q10 q11 HYb HCw hbe; have hdec : decide (r4 < 0) = false := by simp; omega
        have S5 := aY HS3.out MM; obtain ⟨g0, g1, g2⟩ := zP HG.out; obtain ⟨s0, s1, s2⟩ := zP S5; clear S5; go_wp2_with fail
        refine (pH HCi.out HCs.out HAi.out (HSp.out.zL MM) (by rw [← HCi.out.fl]; exact hfi) hll HLf.out).mono ?_; rintro e wf ⟨rfl, hbf⟩; have MM := aD MM hbf; have HG : Hid _ := aY HG.out hbf; have HAi : Hid _ := HAi.out.zL hbf; clear g0 g1 g2 s0 s1 s2 hbf; obtain ⟨g0, g1, g2⟩ := zP HG.out; go_wp2_with fail
        refine (JK w7.heap.size bi wf HAi.out (HCi.out.lk.fit HLf.out) hfi hli).mono ?_; rintro e wh ⟨rfl, hAh, hbh⟩; have MM := hbh.under MM (nlq _) (fun k hk => by have := PG.out k hk; omega); have HG : Hid _ := cA HG.out hbh (fun hk => by have := PG.out _ hk; omega); have HAm : Hid _ := hAh; obtain ⟨mm, hmm⟩ : ∃ mm, mm = cH (1 + 3 * (bi.fl.length : Int)) bi.hl := ⟨_, rfl⟩; have hm0 : 0 <= mm := by have := (CZ bi.hl (1 + 3 * (bi.fl.length : Int)) (HCi.out.lk.fit HLf.out)).1; omega
        have HMM : Hid (mm = cH (1 + 3 * (bi.fl.length : Int)) bi.hl) := hmm; rw [← hmm]; have hmd : decide (mm < 0) = false := by simp; omega
        clear g0 g1 g2 HAi hbh hAh hmm; obtain ⟨g0, g1, g2⟩ := zP HG.out; go_wp2_with fail
        refine (xH w7.heap.size bi wh HAm.out (HCi.out.lk.fit HLf.out) hfi hli).mono ?_; rintro e wi ⟨rfl, hbi⟩; rw [← HMM.out]; have MM := aD MM hbi; have HG : Hid _ := aY HG.out hbi; have HAm : Hid _ := HAm.out.zL hbi; have NN := aD N3 MM; have HA : Hid _ := aY HA3.out MM; have HX : Hid _ := aY HX3.out MM; clear g0 g1 g2 hbi hdec; go_wp2_with fail
        refine wpIn_wide.1 (dA (F := Fence.wide) (n := 0) (by kernel_rfl) 8 9 10 [some 95, some 96, some 97, some 98, some 99, some 94, some 100, some 101, some 15] (by decide) (by decide) AI I8 (zR (cP wi.heap.size) Cc b v c wi.heap.size) (PP c) (QG (cP wi.heap.size) Cc c wi) (zR.zL (O := (cP wi.heap.size)) (fun _ _ _ h hb => cP.zL h hb)) zR.loc zR.free (by kernel_rfl) (by kernel_rfl) (by kernel_rfl) (by kernel_rfl) (by kernel_rfl) ?step ?free ?g0 ?gf ?store ?fin)
        case step =>
         intro i o vs w' hi' ho hB hd; have hBw := aD NN hB; have A2 := aY HA.out hB; have X2 := aY HX.out hB
         match i, hi' with
         | 0, _ =>
          simp at ho; subst ho; obtain ⟨k0, k1, k2⟩ := zP A2; clear A2 X2; simp only [aE, Act.put]; gi_wp2; exact ⟨_, by simp [aH], rfl, br _ _⟩
         | 1, _ =>
          simp at ho; subst ho; have d0 : vs 0 = _ := Zq hd 0; clear A2 X2; simp only [aE, Act.put]; rw [d0]; gi_wp2_with fail
          refine ⟨trivial, rfl, ?_⟩; refine (cw.2 (oY b w' (hf.zL hBw) hfl (hh.zL hBw) hhl (fun h m => ⟨(hin h m).zL hBw, hft h m⟩))).mono ?_; rintro e w3 ⟨⟨b1, rfl, hc1⟩, hb3⟩; have HC : Hid _ := hc1; clear hc1; gi_wp2; exact ⟨_, by simp [aH, d0], ⟨b1, rfl, HC.out⟩, hb3⟩
         | 2, _ =>
          simp at ho; subst ho; obtain ⟨q0, q1, q2, q3, q4, q5, q6, q7, q8, q9, q10, q11⟩ := BR X2; clear A2 X2; simp only [aE, Act.put]; gi_wp2; exact ⟨_, by simp [aH], rfl, br _ _⟩
         | 3, _ =>
          simp at ho; subst ho; have d2 : vs 2 = _ := Zq hd 2; clear A2 X2; simp only [aE, Act.put]; rw [d2]; gi_wp2_with fail
          refine ⟨trivial, rfl, ?_⟩; refine (cw.2 (k8 v w' (hi.zL hBw) hxf (ht.zL hBw) hnt)).mono ?_; rintro e w3 ⟨⟨x1, rfl, hc1⟩, hb3⟩; have HC : Hid _ := hc1; clear hc1; gi_wp2; exact ⟨_, by simp [aH, d2], ⟨x1, _, rfl, HC.out⟩, hb3⟩
         | 4, _ =>
          simp at ho; subst ho; obtain ⟨b1, d1, hc1⟩ : ∃ b1 : Bk, vs 1 = b1.val /\ eN w' b b1 := Zq hd 1; obtain ⟨x1, z, d3, hx1⟩ : ∃ (x1 : Ev) (z : Nat), vs 3 = x1.val /\ gD z w' v x1 := Zq hd 3; clear A2 X2; simp only [aE, Act.put]; rw [d1, d3]; gi_wp2_with fail
          refine ⟨trivial, rfl, ?_⟩; refine (cw.2 (qP (hL.zL hBw) hc1 hx1 hfl hsf hhl hft hxf hnt)).mono ?_; rintro e w3 ⟨⟨bs, rfl, hcn, hO⟩, hb3⟩; rw [HTc.out]; have HCn : Hid (Cc bs) := by rw [Hid, HCc.out]; exact hcn
          have HO : Hid ((cP wi.heap.size) w3 bs) := hO.weak hB.size; clear hc1 hx1 hcn hO; gi_wp2; exact ⟨_, by simp [aH, d1, d3], ⟨bs, rfl, HCn.out, HO.out⟩, hb3⟩
         | 5, _ =>
          simp at ho; subst ho; obtain ⟨bs, d4, hcn, hO⟩ := Zq hd 4; have HCn : Hid (Cc bs) := hcn; have HO : Hid ((cP wi.heap.size) w' bs) := hO; clear A2 X2 hcn hO; simp only [aE, Act.put]; rw [d4]; gi_wp2; exact ⟨_, by simp [aH, d4], ⟨bs, rfl, HCn.out, HO.out⟩, br _ _⟩
         | 6, _ =>
          simp at ho; subst ho; obtain ⟨bs, d5, hcn, hO⟩ := Zq hd 5; have HCn : Hid (Cc bs) := hcn; have HO : Hid ((cP wi.heap.size) w' bs) := hO; clear A2 X2 hcn hO; simp only [aE, Act.put]; rw [d5]; gi_wp2; exact ⟨_, by simp [aH, d5], ⟨bs, d5, rfl, HCn.out, HO.out⟩, br _ _⟩
         | 7, _ =>
          simp at ho; subst ho; obtain ⟨bs, d5, hcn, hO⟩ := Zq hd 5; have HCn : Hid (Cc bs) := hcn; have HO : Hid ((cP wi.heap.size) w' bs) := hO; clear A2 X2 hcn hO; simp only [aE, Act.put]; rw [d5]; gi_wp2; exact ⟨_, by simp [aH, d5], rfl, br _ _⟩
         | 8, _ =>
          simp at ho; subst ho; clear A2 X2; simp only [aE, Act.put]; gi_wp2; exact ⟨_, by simp [aH], ⟨w'.heap.size, rfl, hB.size, wnq w' _⟩, aA (br _ _) _⟩
         | j + 9, h => exact absurd h (by omega)
        case free =>
         intro ii o vs w' t hi' hfi ho ht htM hG hd; have d5 : ∃ bs : Bk, vs 5 = .tuple #[bs.val, .int .i64 c] := by obtain ⟨_, bs, _, _, d5, _⟩ := hG; exact ⟨bs, d5⟩
         clear hG; obtain ⟨bs, d5⟩ := d5; obtain rfl : ii = 7 := by simpa [AI] using hfi
         simp at ho; subst ho; simp only [aE, Act.put]; rw [d5]; gi_wp2
         first
          | exact ⟨_, by simp [aH, d5], rfl, rfl⟩
          | exact ⟨_, by simp [aH, d5], rfl⟩
        case g0 =>
         intro vs w' hB hp; obtain ⟨bs, e5, e6, hcn, hO⟩ := hp 6 (by decide) rfl; obtain ⟨p, e8, hz8, ho8⟩ := hp 8 (by decide) rfl; exact ⟨w', bs, p, hB, e5, e6, hcn, hO, e8, hz8, ho8, by rw [if_pos rfl]⟩
        case gf =>
         intro t vs w' ii u hfi hG; obtain rfl : ii = 7 := by simpa [AI] using hfi
         exact hG
        case store =>
         intro t o vs w' h12 h15 ho hG hd; obtain ⟨w0, bs, p, hB0, d5, d6, hcn, hO, d8, hzp, hop, hw⟩ := hG; have HCn : Hid (Cc bs) := hcn; have HO : Hid ((cP wi.heap.size) w0 bs) := hO; have HOp : Hid (w0.heap[p]? = some QY) := hop; obtain rfl : t = 9 := by omega
         simp at ho; subst ho; rw [if_pos rfl] at hw; subst hw; obtain ⟨c0, c1, c2⟩ := zP hop; have cf : ∀ i, w'.frozen? ⟨p, i, none⟩ = false := fun i => by simp [World.frozen?, hop]
         clear hcn hO hop; simp only [aE, Act.put]; rw [d8, d6]; gi_wp2; exact ⟨undef, by simp [aH, d5, d6, d8], w', bs, p, hB0, d5, d6, HCn.out, HO.out, d8, hzp, HOp.out, by rw [if_neg (by decide)]⟩
        case fin =>
         intro vs V5 hG hp; have d7 : vs 7 = .int .i64 c := hp 7 (by decide) rfl; obtain ⟨bh, p5, hB, hcn, hO, d8, hop, hzp⟩ := QG.done (O := (cP wi.heap.size)) (fun S w w' y h hb hs => cP.odd h hb hs) hG; clear hG hp; simp only [lds, List.drop_zero, aE, Act.put]; rw [d7, d8]; clear d7 d8; generalize vs 0 = v0; generalize vs 1 = v1; generalize vs 2 = v2; generalize vs 3 = v3; generalize vs 4 = v4; generalize vs 5 = v5; generalize vs 6 = v6; have MM := aD MM hB; have HG : Hid _ := aY HG.out hB; have HAm : Hid _ := HAm.out.zL hB; have HCh : Hid (OQ (sN b v) (hF b) (sL b v) bh) := by have h := hcn; rw [HCc.out] at h; exact h
         have HAh : Hid (cP wi.heap.size V5 bh) := hO; have S5 := aY HS3.out MM; obtain ⟨g0, g1, g2⟩ := zP hop; obtain ⟨s0, s1, s2⟩ := zP S5; clear hB hcn hO hop hzp S5 NN HA HX; gi_wp2_with fail
         go_wp2_with fail
         refine (pH HCh.out HCs.out HAh.out (HSp.out.zL MM) (by rw [← HCi.out.fl]; exact hfi) hll HLf.out).mono ?_; rintro e wj ⟨rfl, hbj⟩; have MM := aD MM hbj; have HAm : Hid _ := HAm.out.zL hbj; have G7 := aY HG.out hbj; clear g0 g1 g2 s0 s1 s2; obtain ⟨g0, g1, g2⟩ := zP G7; clear G7 hbj; go_wp2_with fail
         refine (xH w7.heap.size bi wj HAm.out (HCi.out.lk.fit HLf.out) hfi hli).mono ?_; rintro e wl ⟨rfl, hbl⟩; rw [← HMM.out]; have Nl := aD N3 (aD MM hbl); clear g0 g1 g2 hbl; go_wp2_with fail
         go_ret; exact ⟨rfl, Nl⟩
   · go_wp2
     go_ret; exact ⟨rfl, NN⟩
 · go_wp2
   go_ret; exact ⟨rfl, N1⟩
end Go.Proofs.YtiojdbffjdoniaaGreatDoor
