import Derived.Test.YtjlliijeaekmfaaGreatDoorDq
import Derived.Test.YtjlliijeaekmfaaGreatDoorGc
import Derived.Test.YtjlliijeaekmfaaGreatDoorAny
namespace Go.Proofs.YtjlliijeaekmfaaGreatDoor
set_option maxRecDepth 100000
set_option maxHeartbeats 8000000
open Go.RowKit Go.Shelf
attribute [local go_sem] Oper.semAt_some
theorem But.low {T : Nat} {w w' : World} (h : But (fun q => q = T ∨ w.heap.size <= q) w w') : But (fun q => q = T) w w' := ⟨h.os, h.tape, h.output, h.size, fun k hk hs => h.block k hk (fun e => e.elim hs (fun e => by omega))⟩
theorem Laid.but {S : Nat -> Prop} {w w' : World} (h : Laid w) (hb : But S w w') (hs : ¬ S 0) : Laid w' := hb.cell (p := ⟨0, 0, none⟩) hs h
def ChangesT (k : Nat) (fr : Array Value) (T : Nat) (O : Bk -> Nat -> Bool -> Obj) (b : Bk) (nm : ByteArray) (R : Bk -> Nat -> Bool -> Bk -> Int -> Prop) (w : World) : Prop :=
 ∀ (b' : Bk) (i : Nat) (f : Bool) (P z : Nat) (W : World), bookB b = true -> PageOf b nm b' i f -> w.heap.size <= z -> z <= W.heap.size -> PgIn z P W b' nm i f -> Below w.heap.size w W ->
  Calls Tryz.prog k (#[.pointer (some ⟨P, 0, none⟩)] ++ fr) W fun e W' => ∃ b'' c, e = .returned (errV c) /\ R b' i f b'' c /\ PgIn z P W' b'' nm i f /\ But (fun q => z <= q ∨ q = T) W W' /\ W'.heap[T]? = some (O b' i f)
def ChangedT (T : Nat) (O : Bk -> Nat -> Bool -> Obj) (b : Bk) (nm : ByteArray) (R : Bk -> Nat -> Bool -> Bk -> Int -> Prop) (w : World) (e : Ending) (w' : World) : Prop :=
 (bookB b = false /\ e = .returned (.tuple #[Bk.val ⟨0, none, [], 0, none, [], 0⟩, .int .i64 1]) /\ w'.heap[T]? = w.heap[T]?) ∨
 (bookB b = true /\ ∃ (b' : Bk) (i : Nat) (f : Bool) (b'' : Bk) (c : Int), PageOf b nm b' i f /\ R b' i f b'' c /\ e = .returned (.tuple #[b''.val, .int .i64 c]) /\ PgBk w.heap.size w' b'' /\ w'.heap[T]? = some (O b' i f))
theorem changed_take (v0 : Value) (b : Bk) (nm : ByteArray) (R : Bk -> Nat -> Bool -> Bk -> Int -> Prop) (w : World) (T : Nat) (O : Bk -> Nat -> Bool -> Obj) (hT0 : T ≠ 0) (hTw : T < w.heap.size) (hC : ChangesT 52 #[v0, .pointer (some ⟨T, 0, none⟩)] T O b nm R w) (hL : Laid w) (hf : Xs 3 Fx.cells w b.fa b.fl) (hnf : b.fl.length <= 1048576) (hcf : b.fl.length <= b.fc) (hcf2 : b.fc <= 9223372036854775807) (hsf : ∀ f ∈ b.fl, f.n.size <= 9223372036854775807) (hh : Xs 3 Hx.cells w b.ha b.hl) (hnh : b.hl.length <= 1048576) (hg : ∀ h ∈ b.hl, h.In w /\ h.Fit) :
 Calls Tryz.prog 51 #[b.val, .string nm, .func (.func 52) #[] #[v0, .pointer (some ⟨T, 0, none⟩)]] w fun e w' => ChangedT T O b nm R w e w' /\ But (fun q => q = T) w w' := by
 have hB0 : Below w.heap.size w ((w.alloc b.obj).alloc (.cells #[.int .i64 0, .slice none 0 0, .slice none 0 0] 35)) := balloc (balloc (Below.refl _ _) _) _; have A0 := (Below.heap_alloc (w.alloc b.obj) (.cells #[.int .i64 0, .slice none 0 0, .slice none 0 0] 35) w.heap.size (by simp)).trans (World.alloc_heap_new w b.obj); have R0 := World.alloc_heap_new (w.alloc b.obj) (.cells #[.int .i64 0, .slice none 0 0, .slice none 0 0] 35); rw [World.size_alloc] at R0
 go_enter Tryz.func51, Tryz.ntmps51
 go_wp2_with fail
 obtain ⟨W0, hW0⟩ : ∃ W0, (w.alloc b.obj).alloc (.cells #[.int .i64 0, .slice none 0 0, .slice none 0 0] 35) = W0 := ⟨_, rfl⟩; rw [hW0] at hB0 A0 R0 ⊢; have hz1 : w.heap.size + 1 < W0.heap.size := (alt R0); clear hW0; refine (implBook_any b W0 (hf.later hB0) hnf hcf hcf2 hsf (hh.later hB0) hnh (fun h m => ⟨(hg h m).1.later hB0, (hg h m).2⟩)).mono ?_; rintro e w1 ⟨rfl, hb1⟩; have N1 := bstep hB0 hb1; have A1 := blk A0 hb1; have R1 := blk R0 hb1; have hs1 := hb1.size; clear A0 R0 hb1 hB0
 cases hbk : bookB b with
 | false =>
  have HBK : Hid _ := hbk; have HR1 : Hid _ := R1; clear A1 R1 hbk; go_wp2_with fail
  refine (code_hit 1 w1 (hL.later N1)).mono ?_; rintro e w2 ⟨rfl, hb2⟩; have N2 := bstep N1 hb2; have R2 := blk HR1.out hb2; obtain ⟨r0, r1, r2⟩ := cells3 R2; have rf : ∀ i, w2.frozen? ⟨w.heap.size + 1, i, none⟩ = false := fun i => by simp [World.frozen?, R2]
  clear R2 HR1 hb2; go_wp2_with fail
  have hN3 := ((N2.setCell (p := ⟨w.heap.size + 1, 0, none⟩) (by show w.heap.size <= w.heap.size + 1; omega) (.int .i64 0)).setCell (p := ⟨w.heap.size + 1, 1, none⟩) (by show w.heap.size <= w.heap.size + 1; omega) (.slice none 0 0)).setCell (p := ⟨w.heap.size + 1, 2, none⟩) (by show w.heap.size <= w.heap.size + 1; omega) (.slice none 0 0); exact bodyPost_ret (v := .tuple #[Bk.val ⟨0, none, [], 0, none, [], 0⟩, .int .i64 1]) (by simp [results, Tryz.results51, go_sem, r0, r1, r2]) rfl ⟨.inl ⟨HBK.out, rfl, hN3.block T hTw⟩, But.below hN3⟩
 | true =>
  have HBK : Hid _ := hbk; obtain ⟨k0, k1, k2⟩ := cells3 A1
  have hh16 : b.hl.length <= 64 := by
   have := hbk; simp only [bookB, sixteenB, Bool.and_eq_true, decide_eq_true_eq] at this; omega
  have hasc : ascG Hx.n b.hl = true := by
   have := hbk; simp only [bookB, heldsB, namesG, Bool.and_eq_true] at this; exact this.2.2.2.1.2
  have HR1 : Hid _ := R1; clear A1 R1 hbk; go_wp2_with fail
  refine (pageAt_any b nm w1 (hf.later N1) hnf (hh.later N1) hh16 (fun h m => ⟨(hg h m).1.later N1, (hg h m).2⟩) hasc).mono ?_; rintro e w2 ⟨⟨b', i, f, rfl, hpg, hA⟩, hb2⟩; have hbx : Below w2.heap.size w2 (w2.alloc (pgo b' nm i f)) := balloc (Below.refl _ _) _; have P3 := World.alloc_heap_new w2 (pgo b' nm i f); have N3 := bstep (bstep N1 hb2) hbx; have HR3 : Hid _ := blk (blk HR1.out hb2) hbx; have hA3 := hA.later hbx; have hs2 := hb2.size; obtain ⟨w3, hw3⟩ : ∃ w3, w2.alloc (pgo b' nm i f) = w3 := ⟨_, rfl⟩; rw [hw3] at P3 N3 HR3 hA3; have hs3 : w2.heap.size < w3.heap.size := (alt P3); have HI : Hid (PgIn w1.heap.size w2.heap.size w3 b' nm i f) := ⟨P3, hA3, hs2⟩; have HPg : Hid _ := hpg; clear k0 k1 k2 hA hA3 P3 hbx hb2 N1 HR1 hpg hasc; go_wp2_with fail
  clear hw3; refine (hC b' i f w2.heap.size w1.heap.size w3 HBK.out HPg.out (by omega) (by omega) HI.out N3).mono ?_; rintro e w4 ⟨b'', c, rfl, hR, hI4, hb4, hT4⟩; have N4 : But (fun q => q = T) w w4 := But.low ((But.below N3).trans (hb4.wide (fun q hq => hq.elim (fun hq => .inr (by omega)) (fun hq => .inl hq)))); have HT4 : Hid _ := hT4; have hL4 : Laid w4 := hL.but N4 (fun e => hT0 e.symm); clear hT4; have HR4 : Hid _ := blk_but HR3.out hb4 (fun hq => by rcases hq with hq | hq <;> omega); have HI4 : Hid _ := hI4; have HRR : Hid _ := hR; clear hC HI HR3 N3 hI4 hb4 hR; go_wp2_with fail
  refine wpIn_wide.1 (wpIn_region_valsB (F := Fence.wide) (n := 0) (by kernel_rfl) 4 [some 21, some 22, some 23, some 24] (by decide) (D5 w2.heap.size b'' c) D5.later (by kernel_rfl) (by kernel_rfl) (by kernel_rfl) ?step ?fin)
  case step =>
   intro i o vs w' hi' ho hB hd
   match i, hi' with
   | 0, _ =>
    simp at ho; subst ho; simp only [putD, Act.put]; gi_wp2; exact ⟨_, by simp [upd], rfl, Below.refl _ _⟩
   | 1, _ =>
    simp at ho; subst ho; have d0 : vs 0 = _ := hd (eD 0) (by simp) rfl; have P5 := blk HI4.out.p hB; have k0 : w'.cell? ⟨w2.heap.size, 0, none⟩ = some (.int .i64 b''.now) := objc P5 rfl; have k1 : w'.cell? ⟨w2.heap.size, 1, none⟩ = some (.slice b''.fa b''.fl.length b''.fc) := objc P5 rfl; have k2 : w'.cell? ⟨w2.heap.size, 2, none⟩ = some (.slice b''.ha b''.hl.length b''.hc) := objc P5 rfl; clear P5; simp only [putD, Act.put]; rw [d0]; gi_wp2; exact ⟨_, by simp [upd, d0], rfl, Below.refl _ _⟩
   | 2, _ =>
    simp at ho; subst ho; simp only [putD, Act.put]; gi_wp2; exact ⟨_, by simp [upd], rfl, Below.refl _ _⟩
   | 3, _ =>
    simp at ho; subst ho; have d2 : vs 2 = _ := hd (eD 2) (by simp) rfl; simp only [putD, Act.put]; rw [d2]; gi_wp2_with fail
    refine ⟨trivial, rfl, ?_⟩; refine (callsIn_wide.2 (code_any c w' (hL4.later hB))).mono ?_; rintro e w5 ⟨rfl, hb5⟩; gi_wp2; exact ⟨_, by simp [upd, d2], rfl, hb5⟩
   | j + 4, h => exact absurd h (by omega)
  case fin =>
   intro vs w5 hB hp; have d1 : vs 1 = _ := hp 1 (by decide); have d3 : vs 3 = _ := hp 3 (by decide); have N5 : But (fun q => q = T) w w5 := N4.trans (But.below hB); have HT5 : Hid _ := blk HT4.out hB; have R5 := blk HR4.out hB; have HA5 : Hid _ := HI4.out.a.later hB; obtain ⟨r0, r1, r2⟩ := cells3 R5; have rf : ∀ i, w5.frozen? ⟨w.heap.size + 1, i, none⟩ = false := fun i => by simp [World.frozen?, R5]
   clear hp R5 HR4 hB N4; simp only [List.drop_succ_cons, List.drop_zero, putD, Act.put]; rw [d1, d3]; clear d1 d3; generalize vs 0 = v0; generalize vs 2 = v2; gi_wp2_with fail
   go_wp2_with fail
   have hS : But (fun k => k = w.heap.size + 1) w5 (((w5.setCell ⟨w.heap.size + 1, 0, none⟩ (.int .i64 b''.now)).setCell ⟨w.heap.size + 1, 1, none⟩ (.slice b''.fa b''.fl.length b''.fc)).setCell ⟨w.heap.size + 1, 2, none⟩ (.slice b''.ha b''.hl.length b''.hc)) := (((But.refl (fun k => k = w.heap.size + 1) w5).set (g := w.heap.size + 1) rfl _ _).set (g := w.heap.size + 1) rfl _ _).set (g := w.heap.size + 1) rfl _ _; have hA6 := (HA5.out.but hS (fun k hk => by rw [hk]; omega)).weak (z' := w.heap.size) (by omega); have hN6 := But.low ((N5.wide (S' := fun q => q = T ∨ w.heap.size <= q) (fun q hq => .inl hq)).trans (hS.wide (fun k hk => .inr (by rw [hk]; omega)))); have hT6 := blk_but HT5.out hS (fun e => by have e' : T = w.heap.size + 1 := e; omega); exact bodyPost_ret (v := .tuple #[b''.val, .int .i64 c]) (by simp [results, Tryz.results51, go_sem, r0, r1, r2]) rfl ⟨.inr ⟨HBK.out, b', i, f, b'', c, HPg.out, HRR.out, rfl, hA6, hT6⟩, hN6⟩
def takO (b : Bk) (f : Bool) (x : Wx) : Obj := if takC b f x = 0 then (match chL b x with | [] => cho 0 0 0 | c :: _ => cho c.d c.i c.k) else cho 0 0 0
theorem tak_form (b : Bk) (f : Bool) (x : Wx) : ∃ d i k, takV b f x = chv d i k /\ takO b f x = cho d i k := by
 unfold takV takO
 split
 · cases chL b x with
   | nil => exact ⟨0, 0, 0, rfl, rfl⟩
   | cons c r => exact ⟨c.d, c.i, c.k, rfl, rfl⟩
 · exact ⟨0, 0, 0, rfl, rfl⟩
def TakR (nm : ByteArray) (x : Wx) (b' : Bk) (i : Nat) (f : Bool) (b'' : Bk) (c : Int) : Prop := c = takC b' f x /\ b''.now = b'.now /\ b''.fl = b'.fl /\ Likes (takL b' nm i f x) b''.hl
theorem PgBk.asks {z : Nat} {w : World} {b : Bk} (h : PgBk z w b) (hnf : b.fl.length <= 1048576) (hs : ∀ f ∈ b.fl, f.n.size <= 9223372036854775807) (hnh : b.hl.length <= 1048576) (hft : ∀ h ∈ b.hl, h.Fit) : AsksB w b :=
 ⟨h.ans.fs, hnf, by
  rcases h.f with ⟨e, e2⟩ | ⟨g, cap, e, _, h2, _⟩
  · rw [e2]; exact Nat.zero_le _
  · simp only [Value.slice.injEq] at e
    rw [e.2.2]; exact h2, by have := h.cf; unfold maxLen at this; omega, hs, h.ans.hs, hnh, fun x hx => ⟨h.ans.inn x hx, hft x hx⟩⟩
theorem take1_changes (x : Wx) (X T : Nat) (b : Bk) (nm : ByteArray) (w : World) (hX : w.heap[X]? = some x.obj) (hT : w.heap[T]? = some (cho 0 0 0)) (hx : AsksW w x) (hnf : b.fl.length <= 1048576) (hs : ∀ f ∈ b.fl, f.n.size <= 9223372036854775807) (hft : ∀ h ∈ b.hl, h.Fit) :
 ChangesT 52 #[.pointer (some ⟨X, 0, none⟩), .pointer (some ⟨T, 0, none⟩)] T (fun b' _ f => takO b' f x) b nm (TakR nm x) w := by
 intro b' i f P z W hbk hpg hz hzW hI hN; have h16 := book_len hbk; have X1 := blk hX hN; obtain ⟨q0, q1, q2, q3, q4, q5, q6, q7⟩ := cells8 X1; have hTw : T < w.heap.size := (alt hT); have hTW := blk hT hN; have hA := hI.a.asks (by rw [hpg.fl]; exact hnf) (by rw [hpg.fl]; exact hs) (by rw [hpg.lk.len]; omega) (hpg.lk.fit hft); have hle : i <= b'.hl.length := by rw [hpg.lk.len]; exact hpg.at'.le
 have HBK : Hid _ := hbk; have HI : Hid _ := hI; obtain ⟨d, iw, k, hv, ho⟩ := tak_form b' f x; have HV : Hid (takV b' f x = chv d iw k) := hv; have HO : Hid (takO b' f x = cho d iw k) := ho; clear hbk hI X1 hv ho
 show Calls Tryz.prog 52 #[.pointer (some ⟨P, 0, none⟩), .pointer (some ⟨X, 0, none⟩), .pointer (some ⟨T, 0, none⟩)] W _
 go_enter Tryz.func52, Tryz.ntmps52
 go_wp2_with fail
 refine (takeM_any z P b' nm i f x W HI.out hzW hA (hx.later hN) (by rw [hpg.lk.len]; omega) hle).mono ?_; rintro e w1 ⟨b'', rfl, e1, e2, e3, hI1, hb1⟩; rw [HV.out]; have T1 := blk_but hTW hb1 (fun e => by have e' : z <= T := e; omega); obtain ⟨t0, t1, t2⟩ := cells3 T1; have tf : ∀ i, w1.frozen? ⟨T, i, none⟩ = false := fun i => by simp [World.frozen?, T1]
 have T2 := obj_set (obj_set (obj_set T1 0 (.int .i64 d)) 1 (.int .i64 iw)) 2 (.int .i64 k); have bT := (((But.refl (fun q => q = T) w1).set (g := T) rfl 0 (.int .i64 d)).set (g := T) rfl 1 (.int .i64 iw)).set (g := T) rfl 2 (.int .i64 k); have hI2 : PgIn z P (((w1.setCell ⟨T, 0, none⟩ (.int .i64 d)).setCell ⟨T, 1, none⟩ (.int .i64 iw)).setCell ⟨T, 2, none⟩ (.int .i64 k)) b'' nm i f := ⟨blk_but hI1.p bT (fun e => by have e' : P = T := e; have := hI1.zp; omega), hI1.a.but bT (fun q hq => by have hq' : q = T := hq; omega), hI1.zp⟩; have HI2 : Hid _ := hI2; have HR : Hid (b''.now = b'.now /\ b''.fl = b'.fl /\ Likes (takL b' nm i f x) b''.hl) := ⟨e1, e2, e3⟩; have HB2 : Hid _ := (hb1.wide (S' := fun q => z <= q ∨ q = T) (fun q hq => .inl hq)).trans (bT.wide (fun q hq => .inr hq)); have HT2 : Hid _ := T2; clear T1 T2 bT hI1 hI2 hb1 e1 e2 e3; go_wp2_with fail
 go_ret; exact ⟨b'', takC b' f x, rfl, ⟨rfl, HR.out.1, HR.out.2.1, HR.out.2.2⟩, HI2.out, HB2.out, by rw [HO.out]; exact HT2.out⟩
end Go.Proofs.YtjlliijeaekmfaaGreatDoor
namespace Go.Proofs.YtjlliijeaekmfaaGreatDoor
set_option maxRecDepth 100000
set_option maxHeartbeats 8000000
open Go.RowKit Go.Shelf
attribute [local go_sem] Oper.semAt_some
structure K3 (bv cv iv : Value) (W2 W3 W4 : World) (L : Nat -> Prop) (vs : Nat -> Value) (w' : World) : Prop where
 v0 : L 0 -> vs 0 = bv
 v1 : L 1 -> vs 1 = cv
 v2 : L 2 -> vs 2 = iv
 v5 : L 5 -> vs 5 = iv
 w4 : L 4 -> w' = W4
 w3 : L 3 -> ¬ L 4 -> w' = W3
 w0 : ¬ L 3 -> w' = W2
theorem K3.ext {bv cv iv : Value} {W2 W3 W4 : World} (L L' : Nat -> Prop) (vs : Nat -> Value) (w' : World) (h : ∀ j, L j ↔ L' j) (k : K3 bv cv iv W2 W3 W4 L vs w') : K3 bv cv iv W2 W3 W4 L' vs w' :=
 ⟨fun q => k.v0 ((h 0).2 q), fun q => k.v1 ((h 1).2 q), fun q => k.v2 ((h 2).2 q), fun q => k.v5 ((h 5).2 q), fun q => k.w4 ((h 4).2 q), fun q r => k.w3 ((h 3).2 q) (fun s => r ((h 4).1 s)), fun q => k.w0 (fun s => q ((h 3).1 s))⟩
theorem K3.cases {bv cv iv : Value} {W2 W3 W4 : World} {L : Nat -> Prop} {vs : Nat -> Value} {w' : World} (k : K3 bv cv iv W2 W3 W4 L vs w') : w' = W2 ∨ w' = W3 ∨ w' = W4 := by
 by_cases h3 : L 3
 · by_cases h4 : L 4
   · exact .inr (.inr (k.w4 h4))
   · exact .inr (.inl (k.w3 h3 h4))
 · exact .inl (k.w0 h3)
section
variable {bv cv iv : Value} {W2 W3 W4 : World} {L : Nat -> Prop} {vs : Nat -> Value} {w' : World} {v : Value}
theorem K3.add0 (k : K3 bv cv iv W2 W3 W4 L vs w') (hv : v = bv) : K3 bv cv iv W2 W3 W4 (fun j => L j ∨ j = 0) (upd vs 0 v) w' :=
 ⟨fun _ => hv, fun h => k.v1 (lor h), fun h => k.v2 (lor h), fun h => k.v5 (lor h), fun h => k.w4 (lor h), fun h r => k.w3 (lor h) (fun s => r (.inl s)), fun h => k.w0 (fun s => h (.inl s))⟩
theorem K3.add1 (k : K3 bv cv iv W2 W3 W4 L vs w') (hv : v = cv) : K3 bv cv iv W2 W3 W4 (fun j => L j ∨ j = 1) (upd vs 1 v) w' :=
 ⟨fun h => k.v0 (lor h), fun _ => hv, fun h => k.v2 (lor h), fun h => k.v5 (lor h), fun h => k.w4 (lor h), fun h r => k.w3 (lor h) (fun s => r (.inl s)), fun h => k.w0 (fun s => h (.inl s))⟩
theorem K3.add2 (k : K3 bv cv iv W2 W3 W4 L vs w') (hv : v = iv) : K3 bv cv iv W2 W3 W4 (fun j => L j ∨ j = 2) (upd vs 2 v) w' :=
 ⟨fun h => k.v0 (lor h), fun h => k.v1 (lor h), fun _ => hv, fun h => k.v5 (lor h), fun h => k.w4 (lor h), fun h r => k.w3 (lor h) (fun s => r (.inl s)), fun h => k.w0 (fun s => h (.inl s))⟩
theorem K3.add3 (k : K3 bv cv iv W2 W3 W4 L vs w') (h4 : ¬ L 4) : K3 bv cv iv W2 W3 W4 (fun j => L j ∨ j = 3) (upd vs 3 v) W3 :=
 ⟨fun h => k.v0 (lor h), fun h => k.v1 (lor h), fun h => k.v2 (lor h), fun h => k.v5 (lor h), fun h => absurd (lor h) h4, fun _ _ => rfl, fun h => absurd (.inr rfl) h⟩
theorem K3.add4 (k : K3 bv cv iv W2 W3 W4 L vs w') (h3 : L 3) : K3 bv cv iv W2 W3 W4 (fun j => L j ∨ j = 4) (upd vs 4 v) W4 :=
 ⟨fun h => k.v0 (lor h), fun h => k.v1 (lor h), fun h => k.v2 (lor h), fun h => k.v5 (lor h), fun _ => rfl, fun _ h => absurd (.inr rfl) h, fun h => absurd (.inl h3) h⟩
theorem K3.add5 (k : K3 bv cv iv W2 W3 W4 L vs w') (hv : v = iv) : K3 bv cv iv W2 W3 W4 (fun j => L j ∨ j = 5) (upd vs 5 v) w' :=
 ⟨fun h => k.v0 (lor h), fun h => k.v1 (lor h), fun h => k.v2 (lor h), fun _ => hv, fun h => k.w4 (lor h), fun h r => k.w3 (lor h) (fun s => r (.inl s)), fun h => k.w0 (fun s => h (.inl s))⟩
end
def ToldT (b : Bk) (x : Wx) (z : Nat) (e : Ending) (w' : World) : Prop :=
 (bookB b = false /\ e = .returned (.tuple #[Bk.val ⟨0, none, [], 0, none, [], 0⟩, chv 0 0 0, .int .i64 1])) ∨
 (bookB b = true /\ ∃ (b' : Bk) (i : Nat) (f : Bool) (b'' : Bk) (c : Int), PageOf b x.n b' i f /\ TakR x.n x b' i f b'' c /\ e = .returned (.tuple #[b''.val, takV b' f x, .int .i64 c]) /\ PgBk z w' b'')
theorem implTake_any (b : Bk) (x : Wx) (w : World) (hw0 : 0 < w.heap.size) (hL : Laid w) (hf : Xs 3 Fx.cells w b.fa b.fl) (hnf : b.fl.length <= 1048576) (hcf : b.fl.length <= b.fc) (hcf2 : b.fc <= 9223372036854775807) (hsf : ∀ f ∈ b.fl, f.n.size <= 9223372036854775807) (hh : Xs 3 Hx.cells w b.ha b.hl) (hnh : b.hl.length <= 1048576) (hg : ∀ h ∈ b.hl, h.In w /\ h.Fit) (hx : AsksW w x) :
 Calls Tryz.prog 13 #[b.val, x.val] w fun e w' => ToldT b x w.heap.size e w' /\ Below w.heap.size w w' := by
 have N1 : Below w.heap.size w (w.alloc b.obj) := balloc (Below.refl _ _) _; have A1 := World.alloc_heap_new w b.obj; obtain ⟨U1, hU1⟩ : ∃ U, w.alloc b.obj = U := ⟨_, rfl⟩; have z1 : U1.heap.size = w.heap.size + 1 := by rw [← hU1]; simp
 rw [hU1] at N1 A1; have M2 : Below U1.heap.size U1 (U1.alloc x.obj) := balloc (Below.refl _ _) _; have X2 := World.alloc_heap_new U1 x.obj; obtain ⟨U2, hU2⟩ : ∃ U, U1.alloc x.obj = U := ⟨_, rfl⟩; have z2 : U2.heap.size = w.heap.size + 2 := by rw [← hU2]; simp [z1]
 rw [hU2] at M2 X2; have M3 : Below U2.heap.size U2 (U2.alloc (.cells #[.int .i64 0, .slice none 0 0, .slice none 0 0] 35)) := balloc (Below.refl _ _) _; have R3 := World.alloc_heap_new U2 (.cells #[.int .i64 0, .slice none 0 0, .slice none 0 0] 35); obtain ⟨U3, hU3⟩ : ∃ U, U2.alloc (.cells #[.int .i64 0, .slice none 0 0, .slice none 0 0] 35) = U := ⟨_, rfl⟩; have z3 : U3.heap.size = w.heap.size + 3 := by rw [← hU3]; simp [z2]
 rw [hU3] at M3 R3; have M4 : Below U3.heap.size U3 (U3.alloc (cho 0 0 0)) := balloc (Below.refl _ _) _; have Q4 := World.alloc_heap_new U3 (cho 0 0 0); obtain ⟨U4, hU4⟩ : ∃ U, U3.alloc (cho 0 0 0) = U := ⟨_, rfl⟩; have z4 : U4.heap.size = w.heap.size + 4 := by rw [← hU4]; simp [z3]
 rw [hU4] at M4 Q4; have M5 : Below U4.heap.size U4 (U4.alloc (cho 0 0 0)) := balloc (Below.refl _ _) _; have T5 := World.alloc_heap_new U4 (cho 0 0 0); obtain ⟨U5, hU5⟩ : ∃ U, U4.alloc (cho 0 0 0) = U := ⟨_, rfl⟩; have z5 : U5.heap.size = w.heap.size + 5 := by rw [← hU5]; simp [z4]
 rw [hU5] at M5 T5; have N5 : Below w.heap.size w U5 := bstep (bstep (bstep (bstep N1 M2) M3) M4) M5; have A5 := blk (blk (blk (blk A1 M2) M3) M4) M5; have X5 := blk (blk (blk X2 M3) M4) M5; have R5 := blk (blk R3 M4) M5; have Q5 := blk Q4 M5; rw [z1] at X5; rw [z2] at R5; rw [z3] at Q5; rw [z4] at T5; obtain ⟨k0, k1, k2⟩ := cells3 A5; obtain ⟨q0, q1, q2, q3, q4, q5, q6, q7⟩ := cells8 X5; have HR5 : Hid _ := R5; have HQ5 : Hid _ := Q5; have HX5 : Hid _ := X5; have HT5 : Hid _ := T5; clear N1 M2 M3 M4 M5 A1 X2 R3 Q4 A5 X5 R5 Q5 T5
 go_enter Tryz.func13, Tryz.ntmps13
 go_wp2_with fail
 clear hU1 hU2 hU3 hU4 hU5; refine (changed_take (.pointer (some ⟨w.heap.size + 1, 0, none⟩)) b x.n (TakR x.n x) U5 (w.heap.size + 4) (fun b' _ f => takO b' f x) (by omega) (by omega) (take1_changes x (w.heap.size + 1) (w.heap.size + 4) b x.n U5 HX5.out HT5.out (hx.later N5) hnf hsf (fun h m => (hg h m).2)) (hL.later N5) (hf.later N5) hnf hcf hcf2 hsf (hh.later N5) hnh (fun h m => ⟨(hg h m).1.later N5, (hg h m).2⟩)).mono ?_; rintro e w1 ⟨hC, hb1⟩; have hs1 := hb1.size; have HR1 : Hid _ := blk_but HR5.out hb1 (by show ¬ (w.heap.size + 2 = w.heap.size + 4); omega); have HQ1 : Hid _ := blk_but HQ5.out hb1 (by show ¬ (w.heap.size + 3 = w.heap.size + 4); omega); have HN1 : Hid (But (fun q => w.heap.size <= q) w w1) := (But.below N5).trans (hb1.wide (fun q hq => by have hq' : q = w.heap.size + 4 := hq; show w.heap.size <= q; omega)); clear k0 k1 k2 q0 q1 q2 q3 q4 q5 q6 q7 HR5 HQ5 HX5
 rcases hC with ⟨hbk, rfl, hTo⟩ | ⟨hbk, b', i, f, b'', c, hpg, hR, rfl, hA, hTo⟩
 · have HBK : Hid _ := hbk
   have T1 := hTo.trans HT5.out; obtain ⟨bz, hbz⟩ : ∃ bz : Bk, bz = ⟨0, none, [], 0, none, [], 0⟩ := ⟨_, rfl⟩; have HBZ : Hid (bz = ⟨0, none, [], 0, none, [], 0⟩) := hbz; rw [← hbz]; clear hbk hTo hb1 hbz; have hbx : Below w1.heap.size w1 (w1.alloc bz.obj) := balloc (Below.refl _ _) _; have L2 := World.alloc_heap_new w1 bz.obj; have R2 := blk HR1.out hbx; have Q2 := blk HQ1.out hbx; have T2 := blk T1 hbx; have HN2 : Hid (But (fun q => w.heap.size <= q) w (w1.alloc bz.obj)) := HN1.out.trans (But.below hbx); obtain ⟨W2, hW2⟩ : ∃ W2, w1.alloc bz.obj = W2 := ⟨_, rfl⟩; rw [hW2] at hbx L2 R2 Q2 T2 HN2; have l0 : W2.drew.cell? ⟨w1.heap.size, 0, none⟩ = some (.int .i64 bz.now) := objc (w := W2.drew) L2 rfl; have l1 : W2.drew.cell? ⟨w1.heap.size, 1, none⟩ = some (.slice bz.fa bz.fl.length bz.fc) := objc (w := W2.drew) L2 rfl; have l2 : W2.drew.cell? ⟨w1.heap.size, 2, none⟩ = some (.slice bz.ha bz.hl.length bz.hc) := objc (w := W2.drew) L2 rfl; have t0 : W2.drew.cell? ⟨w.heap.size + 4, 0, none⟩ = some (.int .i64 0) := objc (w := W2.drew) T2 rfl; have t1 : W2.drew.cell? ⟨w.heap.size + 4, 1, none⟩ = some (.int .i64 0) := objc (w := W2.drew) T2 rfl; have t2 : W2.drew.cell? ⟨w.heap.size + 4, 2, none⟩ = some (.int .i64 0) := objc (w := W2.drew) T2 rfl; have q0 : W2.drew.cell? ⟨w.heap.size + 3, 0, none⟩ = some (.int .i64 0) := objc (w := W2.drew) Q2 rfl; have q1 : W2.drew.cell? ⟨w.heap.size + 3, 1, none⟩ = some (.int .i64 0) := objc (w := W2.drew) Q2 rfl; have q2 : W2.drew.cell? ⟨w.heap.size + 3, 2, none⟩ = some (.int .i64 0) := objc (w := W2.drew) Q2 rfl; have r0 : W2.drew.cell? ⟨w.heap.size + 2, 0, none⟩ = some (.int .i64 0) := objc (w := W2.drew) R2 rfl; have r1 : W2.drew.cell? ⟨w.heap.size + 2, 1, none⟩ = some (.slice none 0 0) := objc (w := W2.drew) R2 rfl; have r2 : W2.drew.cell? ⟨w.heap.size + 2, 2, none⟩ = some (.slice none 0 0) := objc (w := W2.drew) R2 rfl; have rf : ∀ i, W2.drew.frozen? ⟨w.heap.size + 2, i, none⟩ = false := fun i => by have : W2.drew.heap[w.heap.size + 2]? = _ := R2; simp [World.frozen?, this]
   have HR2 : Hid (W2.drew.heap[w.heap.size + 2]? = some (.cells #[.int .i64 0, .slice none 0 0, .slice none 0 0] 35)) := R2; have HQ2 : Hid (W2.drew.heap[w.heap.size + 3]? = some (cho 0 0 0)) := Q2; clear L2 R2 Q2 T2 T1 hbx; obtain ⟨Wd, hWd⟩ : ∃ Wd, W2.drew = Wd := ⟨_, rfl⟩; rw [hWd] at l0 l1 l2 t0 t1 t2 q0 q1 q2 r0 r1 r2 HR2 HQ2; rw [hWd] at rf; have HWd : Hid (W2.drew = Wd) := hWd; clear hWd; go_wp2_with fail
   clear hW2; have hWd := HWd.out; have b3 : But (fun q => q = w.heap.size + 2) Wd (((Wd.setCell ⟨w.heap.size + 2, 0, none⟩ (.int .i64 bz.now)).setCell ⟨w.heap.size + 2, 1, none⟩ (.slice bz.fa bz.fl.length bz.fc)).setCell ⟨w.heap.size + 2, 2, none⟩ (.slice bz.ha bz.hl.length bz.hc)) := (((But.refl (fun q => q = w.heap.size + 2) Wd).set (g := w.heap.size + 2) rfl _ _).set (g := w.heap.size + 2) rfl _ _).set (g := w.heap.size + 2) rfl _ _; have R3o := obj_set (obj_set (obj_set HR2.out 0 (.int .i64 bz.now)) 1 (.slice bz.fa bz.fl.length bz.fc)) 2 (.slice bz.ha bz.hl.length bz.hc); obtain ⟨W3, hW3⟩ : ∃ W3, ((Wd.setCell ⟨w.heap.size + 2, 0, none⟩ (.int .i64 bz.now)).setCell ⟨w.heap.size + 2, 1, none⟩ (.slice bz.fa bz.fl.length bz.fc)).setCell ⟨w.heap.size + 2, 2, none⟩ (.slice bz.ha bz.hl.length bz.hc) = W3 := ⟨_, rfl⟩; rw [hW3] at b3 R3o; have Q3 := blk_but HQ2.out b3 (by show ¬ (w.heap.size + 3 = w.heap.size + 2); omega); have Q4o := obj_set (obj_set (obj_set Q3 0 (.int .i64 0)) 1 (.int .i64 0)) 2 (.int .i64 0); have b4 : But (fun q => q = w.heap.size + 3) W3 (((W3.setCell ⟨w.heap.size + 3, 0, none⟩ (.int .i64 0)).setCell ⟨w.heap.size + 3, 1, none⟩ (.int .i64 0)).setCell ⟨w.heap.size + 3, 2, none⟩ (.int .i64 0)) := (((But.refl (fun q => q = w.heap.size + 3) W3).set (g := w.heap.size + 3) rfl _ _).set (g := w.heap.size + 3) rfl _ _).set (g := w.heap.size + 3) rfl _ _; have o0 := b3.cell (p := ⟨w.heap.size + 3, 0, none⟩) (by show ¬ (w.heap.size + 3 = w.heap.size + 2); omega) q0; have o1 := b3.cell (p := ⟨w.heap.size + 3, 1, none⟩) (by show ¬ (w.heap.size + 3 = w.heap.size + 2); omega) q1; have o2 := b3.cell (p := ⟨w.heap.size + 3, 2, none⟩) (by show ¬ (w.heap.size + 3 = w.heap.size + 2); omega) q2; have oF : ∀ i, W3.frozen? ⟨w.heap.size + 3, i, none⟩ = false := fun i => by simp [World.frozen?, blk_but HQ2.out b3 (by show ¬ (w.heap.size + 3 = w.heap.size + 2); omega)]
   obtain ⟨W4, hW4⟩ : ∃ W4, ((W3.setCell ⟨w.heap.size + 3, 0, none⟩ (.int .i64 0)).setCell ⟨w.heap.size + 3, 1, none⟩ (.int .i64 0)).setCell ⟨w.heap.size + 3, 2, none⟩ (.int .i64 0) = W4 := ⟨_, rfl⟩; rw [hW4] at b4 Q4o; have R4o := blk_but R3o b4 (by show ¬ (w.heap.size + 2 = w.heap.size + 3); omega); obtain ⟨e0, e1, e2⟩ := cells3 R4o; obtain ⟨f0, f1, f2⟩ := cells3 Q4o; have HB4 : Hid _ := (b3.wide (S' := fun q => q = w.heap.size + 2 ∨ q = w.heap.size + 3) (fun q hq => .inl hq)).trans (b4.wide (fun q hq => .inr hq)); clear R3o Q3 Q4o R4o
   have hall : ∀ w', (w' = Wd ∨ w' = W3 ∨ w' = W4) -> But (fun q => q = w.heap.size + 2 ∨ q = w.heap.size + 3) Wd w' := fun w' h => by
    rcases h with rfl | rfl | rfl
    · exact But.refl _ _
    · exact b3.wide (fun q hq => .inl hq)
    · exact (b3.wide (fun q hq => .inl hq)).trans (b4.wide (fun q hq => .inr hq))
   have HAll : Hid _ := hall; clear hall; refine wpIn_wide.1 (wpIn_region_sets (F := Fence.wide) (n := 0) (by kernel_rfl) [some 18, some 19, some 20, none, none, some 6] (K3 bz.val (chv 0 0 0) (.int .i64 1) Wd W3 W4) (by kernel_rfl) ?h0 K3.ext ?step ?fin)
   case h0 => exact ⟨fun h => h.elim, fun h => h.elim, fun h => h.elim, fun h => h.elim, fun h => h.elim, fun h => h.elim, fun _ => hWd⟩
   case step =>
    intro L ii o vs w' ho hnl hde hcl hK; have hi : ii < 6 := (List.getElem?_eq_some_iff.1 ho).1; have hcase := hK.cases; have hbt := HAll.out w' hcase; have m0 := hbt.cell (p := ⟨w1.heap.size, 0, none⟩) (by show ¬ (w1.heap.size = w.heap.size + 2 ∨ w1.heap.size = w.heap.size + 3); omega) l0; have m1 := hbt.cell (p := ⟨w1.heap.size, 1, none⟩) (by show ¬ (w1.heap.size = w.heap.size + 2 ∨ w1.heap.size = w.heap.size + 3); omega) l1; have m2 := hbt.cell (p := ⟨w1.heap.size, 2, none⟩) (by show ¬ (w1.heap.size = w.heap.size + 2 ∨ w1.heap.size = w.heap.size + 3); omega) l2; have n0 := hbt.cell (p := ⟨w.heap.size + 4, 0, none⟩) (by show ¬ (w.heap.size + 4 = w.heap.size + 2 ∨ w.heap.size + 4 = w.heap.size + 3); omega) t0; have n1 := hbt.cell (p := ⟨w.heap.size + 4, 1, none⟩) (by show ¬ (w.heap.size + 4 = w.heap.size + 2 ∨ w.heap.size + 4 = w.heap.size + 3); omega) t1; have n2 := hbt.cell (p := ⟨w.heap.size + 4, 2, none⟩) (by show ¬ (w.heap.size + 4 = w.heap.size + 2 ∨ w.heap.size + 4 = w.heap.size + 3); omega) t2; have HK : Hid (K3 bz.val (chv 0 0 0) (.int .i64 1) Wd W3 W4 L vs w') := hK; clear hbt hcase hK
    match ii, hi with
    | 0, _ =>
     simp at ho; subst ho; simp only [putD, Act.put]; gi_wp2; exact ⟨bz.val, by simp [upd], HK.out.add0 rfl⟩
    | 1, _ =>
     simp at ho; subst ho; simp only [putD, Act.put]; gi_wp2; exact ⟨(chv 0 0 0), by simp [upd], HK.out.add1 rfl⟩
    | 2, _ =>
     simp at ho; subst ho; simp only [putD, Act.put]; gi_wp2; exact ⟨.int .i64 1, by simp [upd], HK.out.add2 rfl⟩
    | 3, _ =>
     simp at ho; subst ho; have d0 := HK.out.v0 (hde (eD 0) (by simp) rfl); have hw' := HK.out.w0 hnl; have hn4 : ¬ L 4 := fun h4 => hnl (hcl 4 _ h4 rfl { on := 3, ground := Ground.chain } (by simp) rfl); rw [hw'] at m0 m1 m2 n0 n1 n2 ⊢; simp only [putD, Act.put]; rw [d0]; gi_wp2_with fail
     exact ⟨undef, by simp [upd, d0], HK.out.add3 hn4⟩
    | 4, _ =>
     simp at ho; subst ho; have d1 := HK.out.v1 (hde (eD 1) (by simp) rfl); have h3 : L 3 := hde { on := 3, ground := Ground.chain } (by simp) rfl; have hw' := HK.out.w3 h3 hnl; rw [hw'] at m0 m1 m2 n0 n1 n2 ⊢; simp only [putD, Act.put]; rw [d1]; gi_wp2_with fail
     exact ⟨undef, by simp [upd, d1], HK.out.add4 h3⟩
    | 5, _ =>
     simp at ho; subst ho; have d2 := HK.out.v2 (hde (eD 2) (by simp) rfl); simp only [putD, Act.put]; rw [d2]; gi_wp2; exact ⟨.int .i64 1, by simp [upd, d2], HK.out.add5 rfl⟩
    | q + 6, h => exact absurd h (by omega)
   case fin =>
    intro L vs w' hL6 hK; have hw' := hK.w4 (hL6 4 (by decide)); have d5 := hK.v5 (hL6 5 (by decide)); rw [hw']; clear hw' hK; simp only [putD, Act.put]; rw [d5]; generalize vs 0 = u0; generalize vs 1 = u1; generalize vs 2 = u2
    have hN4 : Below w.heap.size w W4 := by
     have h := HN2.out.trans (((by have h := HB4.out; rw [← HWd.out] at h; exact ⟨h.os, h.tape, h.output, h.size, h.block⟩) : But (fun q => q = w.heap.size + 2 ∨ q = w.heap.size + 3) W2 W4).wide (S' := fun q => w.heap.size <= q) (fun q hq => by rcases hq with hq | hq <;> omega)); exact ⟨h.os, h.tape, h.output, h.size, fun k hk => h.block k hk (fun e => by have e' : w.heap.size <= k := e; omega)⟩
    go_wp2_with fail
    exact bodyPost_ret (v := .tuple #[bz.val, chv 0 0 0, .int .i64 1]) (by simp [results, Tryz.results13, go_sem, e0, e1, e2, f0, f1, f2]) rfl ⟨.inl ⟨HBK.out, by rw [HBZ.out]⟩, hN4⟩
 · have HBK : Hid _ := hbk
   have HP : Hid _ := hpg; have HR : Hid _ := hR; have HA : Hid _ := hA; obtain ⟨d, iw, k, hv, ho⟩ := tak_form b' f x; have HV : Hid (takV b' f x = chv d iw k) := hv; have T1 : w1.heap[w.heap.size + 4]? = some (cho d iw k) := by rw [hTo]; show some (takO b' f x) = _; rw [ho]
   clear hbk hpg hR hA hv ho hTo hb1; have hbx : Below w1.heap.size w1 (w1.alloc b''.obj) := balloc (Below.refl _ _) _; have L2 := World.alloc_heap_new w1 b''.obj; have R2 := blk HR1.out hbx; have Q2 := blk HQ1.out hbx; have T2 := blk T1 hbx; have HN2 : Hid (But (fun q => w.heap.size <= q) w (w1.alloc b''.obj)) := HN1.out.trans (But.below hbx); obtain ⟨W2, hW2⟩ : ∃ W2, w1.alloc b''.obj = W2 := ⟨_, rfl⟩; rw [hW2] at hbx L2 R2 Q2 T2 HN2; have l0 : W2.drew.cell? ⟨w1.heap.size, 0, none⟩ = some (.int .i64 b''.now) := objc (w := W2.drew) L2 rfl; have l1 : W2.drew.cell? ⟨w1.heap.size, 1, none⟩ = some (.slice b''.fa b''.fl.length b''.fc) := objc (w := W2.drew) L2 rfl; have l2 : W2.drew.cell? ⟨w1.heap.size, 2, none⟩ = some (.slice b''.ha b''.hl.length b''.hc) := objc (w := W2.drew) L2 rfl; have t0 : W2.drew.cell? ⟨w.heap.size + 4, 0, none⟩ = some (.int .i64 d) := objc (w := W2.drew) T2 rfl; have t1 : W2.drew.cell? ⟨w.heap.size + 4, 1, none⟩ = some (.int .i64 iw) := objc (w := W2.drew) T2 rfl; have t2 : W2.drew.cell? ⟨w.heap.size + 4, 2, none⟩ = some (.int .i64 k) := objc (w := W2.drew) T2 rfl; have q0 : W2.drew.cell? ⟨w.heap.size + 3, 0, none⟩ = some (.int .i64 0) := objc (w := W2.drew) Q2 rfl; have q1 : W2.drew.cell? ⟨w.heap.size + 3, 1, none⟩ = some (.int .i64 0) := objc (w := W2.drew) Q2 rfl; have q2 : W2.drew.cell? ⟨w.heap.size + 3, 2, none⟩ = some (.int .i64 0) := objc (w := W2.drew) Q2 rfl; have r0 : W2.drew.cell? ⟨w.heap.size + 2, 0, none⟩ = some (.int .i64 0) := objc (w := W2.drew) R2 rfl; have r1 : W2.drew.cell? ⟨w.heap.size + 2, 1, none⟩ = some (.slice none 0 0) := objc (w := W2.drew) R2 rfl; have r2 : W2.drew.cell? ⟨w.heap.size + 2, 2, none⟩ = some (.slice none 0 0) := objc (w := W2.drew) R2 rfl; have rf : ∀ i, W2.drew.frozen? ⟨w.heap.size + 2, i, none⟩ = false := fun i => by have : W2.drew.heap[w.heap.size + 2]? = _ := R2; simp [World.frozen?, this]
   have HR2 : Hid (W2.drew.heap[w.heap.size + 2]? = some (.cells #[.int .i64 0, .slice none 0 0, .slice none 0 0] 35)) := R2; have HQ2 : Hid (W2.drew.heap[w.heap.size + 3]? = some (cho 0 0 0)) := Q2; have HBX : Hid (Below w1.heap.size w1 W2) := hbx; clear L2 R2 Q2 T2 T1 hbx; obtain ⟨Wd, hWd⟩ : ∃ Wd, W2.drew = Wd := ⟨_, rfl⟩; rw [hWd] at l0 l1 l2 t0 t1 t2 q0 q1 q2 r0 r1 r2 HR2 HQ2; rw [hWd] at rf; have HWd : Hid (W2.drew = Wd) := hWd; clear hWd; go_wp2_with fail
   clear hW2; have hWd := HWd.out; have b3 : But (fun q => q = w.heap.size + 2) Wd (((Wd.setCell ⟨w.heap.size + 2, 0, none⟩ (.int .i64 b''.now)).setCell ⟨w.heap.size + 2, 1, none⟩ (.slice b''.fa b''.fl.length b''.fc)).setCell ⟨w.heap.size + 2, 2, none⟩ (.slice b''.ha b''.hl.length b''.hc)) := (((But.refl (fun q => q = w.heap.size + 2) Wd).set (g := w.heap.size + 2) rfl _ _).set (g := w.heap.size + 2) rfl _ _).set (g := w.heap.size + 2) rfl _ _; have R3o := obj_set (obj_set (obj_set HR2.out 0 (.int .i64 b''.now)) 1 (.slice b''.fa b''.fl.length b''.fc)) 2 (.slice b''.ha b''.hl.length b''.hc); obtain ⟨W3, hW3⟩ : ∃ W3, ((Wd.setCell ⟨w.heap.size + 2, 0, none⟩ (.int .i64 b''.now)).setCell ⟨w.heap.size + 2, 1, none⟩ (.slice b''.fa b''.fl.length b''.fc)).setCell ⟨w.heap.size + 2, 2, none⟩ (.slice b''.ha b''.hl.length b''.hc) = W3 := ⟨_, rfl⟩; rw [hW3] at b3 R3o; have Q3 := blk_but HQ2.out b3 (by show ¬ (w.heap.size + 3 = w.heap.size + 2); omega); have Q4o := obj_set (obj_set (obj_set Q3 0 (.int .i64 d)) 1 (.int .i64 iw)) 2 (.int .i64 k); have b4 : But (fun q => q = w.heap.size + 3) W3 (((W3.setCell ⟨w.heap.size + 3, 0, none⟩ (.int .i64 d)).setCell ⟨w.heap.size + 3, 1, none⟩ (.int .i64 iw)).setCell ⟨w.heap.size + 3, 2, none⟩ (.int .i64 k)) := (((But.refl (fun q => q = w.heap.size + 3) W3).set (g := w.heap.size + 3) rfl _ _).set (g := w.heap.size + 3) rfl _ _).set (g := w.heap.size + 3) rfl _ _; have o0 := b3.cell (p := ⟨w.heap.size + 3, 0, none⟩) (by show ¬ (w.heap.size + 3 = w.heap.size + 2); omega) q0; have o1 := b3.cell (p := ⟨w.heap.size + 3, 1, none⟩) (by show ¬ (w.heap.size + 3 = w.heap.size + 2); omega) q1; have o2 := b3.cell (p := ⟨w.heap.size + 3, 2, none⟩) (by show ¬ (w.heap.size + 3 = w.heap.size + 2); omega) q2; have oF : ∀ i, W3.frozen? ⟨w.heap.size + 3, i, none⟩ = false := fun i => by simp [World.frozen?, blk_but HQ2.out b3 (by show ¬ (w.heap.size + 3 = w.heap.size + 2); omega)]
   obtain ⟨W4, hW4⟩ : ∃ W4, ((W3.setCell ⟨w.heap.size + 3, 0, none⟩ (.int .i64 d)).setCell ⟨w.heap.size + 3, 1, none⟩ (.int .i64 iw)).setCell ⟨w.heap.size + 3, 2, none⟩ (.int .i64 k) = W4 := ⟨_, rfl⟩; rw [hW4] at b4 Q4o; have R4o := blk_but R3o b4 (by show ¬ (w.heap.size + 2 = w.heap.size + 3); omega); obtain ⟨e0, e1, e2⟩ := cells3 R4o; obtain ⟨f0, f1, f2⟩ := cells3 Q4o; have HB4 : Hid _ := (b3.wide (S' := fun q => q = w.heap.size + 2 ∨ q = w.heap.size + 3) (fun q hq => .inl hq)).trans (b4.wide (fun q hq => .inr hq)); clear R3o Q3 Q4o R4o
   have hall : ∀ w', (w' = Wd ∨ w' = W3 ∨ w' = W4) -> But (fun q => q = w.heap.size + 2 ∨ q = w.heap.size + 3) Wd w' := fun w' h => by
    rcases h with rfl | rfl | rfl
    · exact But.refl _ _
    · exact b3.wide (fun q hq => .inl hq)
    · exact (b3.wide (fun q hq => .inl hq)).trans (b4.wide (fun q hq => .inr hq))
   have HAll : Hid _ := hall; clear hall; refine wpIn_wide.1 (wpIn_region_sets (F := Fence.wide) (n := 0) (by kernel_rfl) [some 18, some 19, some 20, none, none, some 6] (K3 b''.val (chv d iw k) (.int .i64 c) Wd W3 W4) (by kernel_rfl) ?h0 K3.ext ?step ?fin)
   case h0 => exact ⟨fun h => h.elim, fun h => h.elim, fun h => h.elim, fun h => h.elim, fun h => h.elim, fun h => h.elim, fun _ => hWd⟩
   case step =>
    intro L ii o vs w' ho hnl hde hcl hK; have hi : ii < 6 := (List.getElem?_eq_some_iff.1 ho).1; have hcase := hK.cases; have hbt := HAll.out w' hcase; have m0 := hbt.cell (p := ⟨w1.heap.size, 0, none⟩) (by show ¬ (w1.heap.size = w.heap.size + 2 ∨ w1.heap.size = w.heap.size + 3); omega) l0; have m1 := hbt.cell (p := ⟨w1.heap.size, 1, none⟩) (by show ¬ (w1.heap.size = w.heap.size + 2 ∨ w1.heap.size = w.heap.size + 3); omega) l1; have m2 := hbt.cell (p := ⟨w1.heap.size, 2, none⟩) (by show ¬ (w1.heap.size = w.heap.size + 2 ∨ w1.heap.size = w.heap.size + 3); omega) l2; have n0 := hbt.cell (p := ⟨w.heap.size + 4, 0, none⟩) (by show ¬ (w.heap.size + 4 = w.heap.size + 2 ∨ w.heap.size + 4 = w.heap.size + 3); omega) t0; have n1 := hbt.cell (p := ⟨w.heap.size + 4, 1, none⟩) (by show ¬ (w.heap.size + 4 = w.heap.size + 2 ∨ w.heap.size + 4 = w.heap.size + 3); omega) t1; have n2 := hbt.cell (p := ⟨w.heap.size + 4, 2, none⟩) (by show ¬ (w.heap.size + 4 = w.heap.size + 2 ∨ w.heap.size + 4 = w.heap.size + 3); omega) t2; have HK : Hid (K3 b''.val (chv d iw k) (.int .i64 c) Wd W3 W4 L vs w') := hK; clear hbt hcase hK
    match ii, hi with
    | 0, _ =>
     simp at ho; subst ho; simp only [putD, Act.put]; gi_wp2; exact ⟨b''.val, by simp [upd], HK.out.add0 rfl⟩
    | 1, _ =>
     simp at ho; subst ho; simp only [putD, Act.put]; gi_wp2; exact ⟨(chv d iw k), by simp [upd], HK.out.add1 rfl⟩
    | 2, _ =>
     simp at ho; subst ho; simp only [putD, Act.put]; gi_wp2; exact ⟨.int .i64 c, by simp [upd], HK.out.add2 rfl⟩
    | 3, _ =>
     simp at ho; subst ho; have d0 := HK.out.v0 (hde (eD 0) (by simp) rfl); have hw' := HK.out.w0 hnl; have hn4 : ¬ L 4 := fun h4 => hnl (hcl 4 _ h4 rfl { on := 3, ground := Ground.chain } (by simp) rfl); rw [hw'] at m0 m1 m2 n0 n1 n2 ⊢; simp only [putD, Act.put]; rw [d0]; gi_wp2_with fail
     exact ⟨undef, by simp [upd, d0], HK.out.add3 hn4⟩
    | 4, _ =>
     simp at ho; subst ho; have d1 := HK.out.v1 (hde (eD 1) (by simp) rfl); have h3 : L 3 := hde { on := 3, ground := Ground.chain } (by simp) rfl; have hw' := HK.out.w3 h3 hnl; rw [hw'] at m0 m1 m2 n0 n1 n2 ⊢; simp only [putD, Act.put]; rw [d1]; gi_wp2_with fail
     exact ⟨undef, by simp [upd, d1], HK.out.add4 h3⟩
    | 5, _ =>
     simp at ho; subst ho; have d2 := HK.out.v2 (hde (eD 2) (by simp) rfl); simp only [putD, Act.put]; rw [d2]; gi_wp2; exact ⟨.int .i64 c, by simp [upd, d2], HK.out.add5 rfl⟩
    | q + 6, h => exact absurd h (by omega)
   case fin =>
    intro L vs w' hL6 hK; have hw' := hK.w4 (hL6 4 (by decide)); have d5 := hK.v5 (hL6 5 (by decide)); rw [hw']; clear hw' hK; simp only [putD, Act.put]; rw [d5]; generalize vs 0 = u0; generalize vs 1 = u1; generalize vs 2 = u2
    have hN4 : Below w.heap.size w W4 := by
     have h := HN2.out.trans (((by have h := HB4.out; rw [← HWd.out] at h; exact ⟨h.os, h.tape, h.output, h.size, h.block⟩) : But (fun q => q = w.heap.size + 2 ∨ q = w.heap.size + 3) W2 W4).wide (S' := fun q => w.heap.size <= q) (fun q hq => by rcases hq with hq | hq <;> omega)); exact ⟨h.os, h.tape, h.output, h.size, fun k hk => h.block k hk (fun e => by have e' : w.heap.size <= k := e; omega)⟩
    have hA4 : PgBk w.heap.size W4 b'' := ((HA.out.later (w' := W2) HBX.out).but ((by have h := HB4.out; rw [← HWd.out] at h; exact ⟨h.os, h.tape, h.output, h.size, h.block⟩) : But (fun q => q = w.heap.size + 2 ∨ q = w.heap.size + 3) W2 W4) (fun q hq => by rcases hq with hq | hq <;> omega)).weak (by omega); go_wp2_with fail
    exact bodyPost_ret (v := .tuple #[b''.val, chv d iw k, .int .i64 c]) (by simp [results, Tryz.results13, go_sem, e0, e1, e2, f0, f1, f2]) rfl ⟨.inr ⟨HBK.out, b', i, f, b'', c, HP.out, HR.out, by rw [HV.out], hA4⟩, hN4⟩
end Go.Proofs.YtjlliijeaekmfaaGreatDoor
