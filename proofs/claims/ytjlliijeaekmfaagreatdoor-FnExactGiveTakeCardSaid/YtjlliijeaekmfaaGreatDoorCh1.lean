import Derived.Test.YtjlliijeaekmfaaGreatDoorWy
import Derived.Test.YtjlliijeaekmfaaGreatDoorTubes
import Derived.Test.YtjlliijeaekmfaaGreatDoorDn
import Derived.Test.YtjlliijeaekmfaaGreatDoorBarred
import Derived.Test.YtjlliijeaekmfaaGreatDoorWith
namespace Go.Proofs.YtjlliijeaekmfaaGreatDoor
set_option maxRecDepth 100000
set_option maxHeartbeats 4000000
open Go.RowKit
structure AsksB (w : World) (b : Bk) : Prop where
 hf : Xs 3 Fx.cells w b.fa b.fl
 hnf : b.fl.length <= 1048576
 hcap : b.fl.length <= b.fc
 hc2 : b.fc <= 9223372036854775807
 hs : ∀ f ∈ b.fl, f.n.size <= 9223372036854775807
 hh : Xs 3 Hx.cells w b.ha b.hl
 hnh : b.hl.length <= 1048576
 hgood : ∀ h ∈ b.hl, h.In w /\ h.Fit
theorem AsksB.later {w w' : World} {b : Bk} (h : AsksB w b) (hb : Below w.heap.size w w') : AsksB w' b :=
 ⟨h.hf.later hb, h.hnf, h.hcap, h.hc2, h.hs, h.hh.later hb, h.hnh, fun x hx => ⟨(h.hgood x hx).1.later hb, (h.hgood x hx).2⟩⟩
theorem AsksB.with {w : World} {b : Bk} {t : List Bx} {ta : Option Addr} (h : AsksB w b) (ht : Bxs w ta t) (hn : t.length <= 1048576) : Asks w b t ta :=
 ⟨h.hf, h.hnf, h.hcap, h.hc2, h.hs, h.hh, h.hnh, h.hgood, ht, hn⟩
structure AsksW (w : World) (x : Wx) : Prop where
 hi : x.In w
 hf : x.Fit
 hc : ∀ y ∈ x.wl, y.l.length <= y.c /\ y.c <= 1048576
theorem AsksW.later {w w' : World} {x : Wx} (h : AsksW w x) (hb : Below w.heap.size w w') : AsksW w' x := ⟨h.hi.later hb, h.hf, h.hc⟩
abbrev chv (late way lev : Int) : Value := .agg #[.int .i64 late, .int .i64 way, .int .i64 lev]
abbrev cho (late way lev : Int) : Obj := .cells #[.int .i64 late, .int .i64 way, .int .i64 lev] 37
def chB (b : Bk) (x : Wx) (late way lev : Int) : Bool := tubeOkB b.fl (tubeOf x way lev late) && (fromB b.now (tubeOf x way lev late) && freeL x.n (tubeOf x way lev late) b.hl)
theorem tubeOf_len (x : Wx) (way lev late : Int) : (tubeOf x way lev late).length <= 40 := by
 unfold tubeOf
 split
 · rw [tubeL_upto, upto_length]; omega
 · simp
theorem l5Can_any (b : Bk) (x : Wx) (late way lev : Int) (w : World) (hb : AsksB w b) (hx : AsksW w x) :
 Calls Tryz.prog 119 #[b.val, x.val, chv late way lev] w fun e w' => e = .returned (.bool (chB b x late way lev)) /\ Below w.heap.size w w' := by
 have hB0 : Below w.heap.size w (((w.alloc b.obj).alloc x.obj).alloc (cho late way lev)) := balloc (balloc (balloc (Below.refl _ _) _) _) _; have B0 := (Below.heap_alloc ((w.alloc b.obj).alloc x.obj) (cho late way lev) w.heap.size (by simp; omega)).trans ((Below.heap_alloc (w.alloc b.obj) x.obj w.heap.size (by simp)).trans (World.alloc_heap_new w b.obj)); have X00 := World.alloc_heap_new (w.alloc b.obj) x.obj; rw [World.size_alloc] at X00; have X0 := (Below.heap_alloc ((w.alloc b.obj).alloc x.obj) (cho late way lev) (w.heap.size + 1) (by simp)).trans X00; clear X00; obtain ⟨T, hT⟩ : ∃ T, tubeOf x way lev late = T := ⟨_, rfl⟩; have hTl : T.length <= 1048576 := by rw [← hT]; have := tubeOf_len x way lev late; omega
 unfold chB; rw [hT]; have HT : Hid (tubeOf x way lev late = T) := hT; clear hT; obtain ⟨v1, g1⟩ : ∃ v, tubeOkB b.fl T = v := ⟨_, rfl⟩; obtain ⟨v2, g2⟩ : ∃ v, fromB b.now T = v := ⟨_, rfl⟩; obtain ⟨v3, g3⟩ : ∃ v, freeL x.n T b.hl = v := ⟨_, rfl⟩; rw [g1, g2, g3]; have G1 : Hid _ := g1; have G2 : Hid _ := g2; have G3 : Hid _ := g3; clear g1 g2 g3; have hf := hx.hf
 go_enter Tryz.func119, Tryz.ntmps119
 go_wp2_with fail
 obtain ⟨W0, hW0⟩ : ∃ W0, ((w.alloc b.obj).alloc x.obj).alloc (cho late way lev) = W0 := ⟨_, rfl⟩; rw [hW0] at hB0 B0 X0 ⊢; clear hW0; refine (callsIn_wide.1 (specTubeOf_in 4 (by omega) x way lev late W0 (hx.hi.later hB0) hf.wn hf.ln hf.yn)).mono ?_; rintro e w1 ⟨⟨v, rfl, hO⟩, hb1⟩; rw [HT.out] at hO; obtain ⟨ta, tc, rfl, hB⟩ := hO.slice; have B1 := (hb1.block _ (alt B0)).trans B0; have X1 := (hb1.block _ (alt X0)).trans X0; have N1 := bstep hB0 hb1; have k1 : w1.cell? ⟨w.heap.size, 1, none⟩ = some (.slice b.fa b.fl.length b.fc) := objc B1 rfl; have HB1 : Hid _ := B1; have HX1 : Hid _ := X1; clear B0 X0 B1 X1 hB0 hb1 hO; go_wp2_with fail
 refine (specTube_any b.fl T _ _ _ _ _ (hb.hf.later N1) hB hb.hnf hTl).mono ?_; rintro e w2 ⟨rfl, hb2⟩; rw [G1.out]; have N2 := bstep N1 hb2; have hB2 := hB.later hb2; have B2 := (hb2.block _ (alt HB1.out)).trans HB1.out; have X2 := (hb2.block _ (alt HX1.out)).trans HX1.out; obtain ⟨m0, m1, m2⟩ := cells3 B2; have m3 : w2.cell? ⟨w.heap.size + 1, 0, none⟩ = some (.string x.n) := objc X2 rfl; clear HB1 HX1 N1 hB hb2 k1 B2 X2
 cases v1 with
 | false =>
  go_wp2
  go_ret; exact ⟨rfl, N2⟩
 | true =>
 go_wp2_with fail
 refine (l2From_val T b.now v2 G2.out ta tc w2 hB2 hTl).mono ?_; rintro e w2 ⟨rfl, rfl⟩
 cases v2 with
 | false =>
  go_wp2
  go_ret; exact ⟨rfl, N2⟩
 | true =>
 go_wp2_with fail
 refine (specL3_any b x.n T ta tc _ ((hb.later N2).with hB2 hTl)).mono ?_; rintro e w3 ⟨rfl, hb3⟩; rw [G3.out]; go_wp2
 go_ret; exact ⟨rfl, bstep N2 hb3⟩
theorem startBelow_any (now : Int) (t : List Bx) (ta : Option Addr) (tc : Nat) (w : World) (ht : Bxs w ta t) (h1 : 1 <= t.length) (hn0 : 0 <= now) (hn1 : now <= 10000) (hi0 : 0 <= (t[0]'(by omega)).i) (hi1 : (t[0]'(by omega)).i <= 10000) :
 Calls Tryz.prog 233 #[.int .i64 now, .slice ta t.length tc] w fun e w' => e = .returned (Sp.val ⟨0, now - (t[0]'(by omega)).i - 1⟩) /\ Below w.heap.size w w' := by
 rcases ht with h | ⟨bl, off, rfl, hc⟩
 · subst h; simp at h1
 have hb := hc 0 (by omega); obtain ⟨c, hce⟩ : ∃ c, t[0]'(by omega) = c := ⟨_, rfl⟩; rw [hce] at hb hi0 hi1 ⊢; clear hce hc; obtain ⟨c0, c1, c2, c3, c4, c5⟩ := hb; rw [Nat.zero_mul, Nat.add_zero] at c0 c1 c2 c3 c4 c5; have hl : (1 : Int) <= (t.length : Int) := by omega
 have hl0 : (0 : Int) < (t.length : Int) := by omega
 have hbl : bl < w.heap.size := cell_lt c0; have hl2 : 0 < t.length := by omega
 go_enter Tryz.func233, Tryz.ntmps233
 go_wp2
 refine bodyPost_ret (v := Sp.val ⟨0, now - c.i - 1⟩) ?_ rfl ⟨rfl, balloc (Below.refl _ _) _⟩
 simp [results, Tryz.results233, go_sem]
end Go.Proofs.YtjlliijeaekmfaaGreatDoor
namespace Go.Proofs.YtjlliijeaekmfaaGreatDoor
open Go.RowKit
theorem boxOf_later (x : Wx) (cs : List Cx) (lv d : Int) (j : Nat) : boxOf x cs lv d j = laterOne d (boxOf x cs lv 0 j) := by
 unfold boxOf laterOne; simp only [Bx.mk.injEq, true_and]
 constructor <;> omega
theorem tubeOf_later (x : Wx) (i k d : Int) (hd0 : 0 <= d) (hd1 : d <= 300) : tubeOf x i k d = laterL d (tubeOf x i k 0) := by
 have e : smallB x d = smallB x 0 := by
  unfold smallB; have h1 : inB d 0 300 = true := decide_eq_true ⟨hd0, hd1⟩; have h2 : inB 0 0 300 = true := by decide
  rw [h1, h2]
 unfold tubeOf; rw [e]
 split
 · unfold tubeL laterL
   rw [List.map_map]; exact List.map_congr_left fun j _ => boxOf_later x _ _ d j
 · rfl
theorem tubeOf_ticks (x : Wx) (hx : 0 <= x.f) (hq : 0 <= x.q) (i k : Int) : ∀ c ∈ tubeOf x i k 0, 0 <= c.i := by
 unfold tubeOf
 split
 · intro c hc
   obtain ⟨j, _, rfl⟩ := List.mem_map.1 hc; have : 0 <= (j : Int) * x.q := Int.mul_nonneg (by omega) hq
   show 0 <= x.f + 0 + (j : Int) * x.q
   omega
 · intro c hc; cases hc
theorem not_ok_later {fl : List Fx} {t : List Bx} {d : Int} (ht : ∀ c ∈ t, 0 <= c.i) (hd : 0 <= d) (h : tubeOkB fl t = false) : tubeOkB fl (laterL d t) = false := by
 rw [Bool.eq_false_iff] at h ⊢; intro g
 apply h
 simp only [tubeOkB, Bool.and_eq_true] at g ⊢; obtain ⟨g1, g2, g3, g4⟩ := g; rw [laterL_length] at g1; have hl : 1 <= t.length := by simp only [lenB, decide_eq_true_eq] at g1; omega
 refine ⟨g1, ?_, ?_, ?_⟩
 · rw [List.all_eq_true]
   intro c hc; have hc0 := ht c hc; have := List.all_eq_true.1 g2 (laterOne d c) (List.mem_map.2 ⟨c, hc, rfl⟩); simp only [boxOkB, decide_eq_true_eq] at this ⊢; simp only [laterOne] at this; omega
 · refine (pairsB_iff t).2 fun i hi => ?_
   have := (pairsB_iff _).1 g3 i (by rw [laterL_length]; exact hi); rw [laterL_get, laterL_get] at this; simp only [behindB, decide_eq_true_eq] at this ⊢; simp only [laterOne] at this; omega
 · rw [landsB_eq fl (laterL d t) (by rw [laterL_length]; omega), laterL_get] at g4
   rw [landsB_eq fl t (by omega)]; simp only [laterL_length] at g4; exact g4
theorem in_le {t : List Bx} (hp : pairsB t = true) : ∀ (i : Nat) (h : i < t.length), (t[0]'(by omega)).i <= t[i].i
 | 0, h => Int.le_refl _
 | i + 1, h => by
  have h1 := in_le hp i (by omega); have h2 := (pairsB_iff t).1 hp i h; simp only [behindB, decide_eq_true_eq] at h2; omega
theorem from_later {t : List Bx} {d now : Int} (hp : pairsB t = true) (hl : 1 <= t.length) : fromB now (laterL d t) = decide (¬ d <= now - (t[0]'(by omega)).i - 1) := by
 rw [Bool.eq_iff_iff, decide_eq_true_eq]; unfold fromB; rw [List.all_eq_true]
 constructor
 · intro h
   have h1 : decide (now <= (laterOne d (t[0]'(by omega))).i) = true := h (laterOne d (t[0]'(by omega))) (List.mem_map.2 ⟨_, List.getElem_mem _, rfl⟩); have h2 := of_decide_eq_true h1; simp only [laterOne] at h2; omega
 · intro h c hc
   obtain ⟨c', hc', rfl⟩ := List.mem_map.1 hc; obtain ⟨i, hi, rfl⟩ := List.getElem_of_mem hc'; have := in_le hp i hi
   show decide (now <= (laterOne d t[i]).i) = true
   apply decide_eq_true
   simp only [laterOne]; omega
theorem choice_bar {b : Bk} {x : Wx} {i k d : Int} (hb : bookB b = true) (hd0 : 0 <= d) (hd1 : d <= 300) (ht : tubeOkB b.fl (tubeOf x i k 0) = true) (hl : 1 <= (tubeOf x i k 0).length) :
 chB b x d i k = false ↔ (barP b x.n (tubeOf x i k 0) d ∨ (0 <= d /\ d <= b.now - ((tubeOf x i k 0)[0]'(by omega)).i - 1)) := by
 have hp : pairsB (tubeOf x i k 0) = true := by simp only [tubeOkB, Bool.and_eq_true] at ht; exact ht.2.2.1
 unfold chB; rw [tubeOf_later x i k d hd0 hd1, from_later hp hl, bar_iff hb ht hd0, canB]; generalize tubeOkB b.fl (laterL d (tubeOf x i k 0)) = u; generalize freeL x.n (laterL d (tubeOf x i k 0)) b.hl = v
 by_cases h : d <= b.now - ((tubeOf x i k 0)[0]'(by omega)).i - 1
 · rw [decide_eq_false (by simpa using h)]
   constructor
   · intro _; exact .inr ⟨hd0, h⟩
   · intro _; cases u <;> simp
 · rw [decide_eq_true h]
   constructor
   · intro g; left; simpa using g
   · rintro (g | ⟨_, g⟩)
     · simpa using g
     · exact absurd g h
theorem choice_none {b : Bk} {x : Wx} {i k d : Int} (hx : 0 <= x.f) (hq : 0 <= x.q) (hd0 : 0 <= d) (hd1 : d <= 300) (ht : tubeOkB b.fl (tubeOf x i k 0) = false) : chB b x d i k = false := by
 unfold chB; rw [tubeOf_later x i k d hd0 hd1, not_ok_later (tubeOf_ticks x hx hq i k) hd0 ht]; rfl
end Go.Proofs.YtjlliijeaekmfaaGreatDoor
namespace Go.Proofs.YtjlliijeaekmfaaGreatDoor
set_option maxRecDepth 100000
set_option maxHeartbeats 8000000
open Go.RowKit Go.Shelf
attribute [local go_sem] Oper.semAt_some
def SpsF (most : Int) (P : Int -> Prop) (v : Value) (w : World) : Prop := ∃ ao cap l, v = .slice ao (List.length l) cap /\ XsT w ao l /\ l.length <= 20000 /\ ∀ d, 0 <= d -> d <= most -> (memS l d ↔ P d)
theorem SpsF.later {most : Int} {P : Int -> Prop} {v : Value} {w w' : World} (h : SpsF most P v w) (hb : Below w.heap.size w w') : SpsF most P v w' := by
 obtain ⟨ao, cap, l, h1, h2, h3, h4⟩ := h; exact ⟨ao, cap, l, h1, h2.later hb, h3, h4⟩
theorem with_spsF (most : Int) (hmost : most <= 300) (m : Sp) (P : Int -> Prop) (v : Value) (w : World) (h : SpsAt most P v w) (hm0 : 0 <= m.lo) (hm1 : m.hi <= 10000) :
 Calls Tryz.prog 232 #[v, m.val] w fun e w' => (∃ v', e = .returned v' /\ SpsF most (fun d => P d ∨ (m.lo <= d /\ d <= m.hi)) v' w') /\ Below w.heap.size w w' := by
 obtain ⟨ao, cap, l, rfl, h2, h3, h4⟩ := h; refine (with3_any 10000 (by omega) l m ao cap w h2 ⟨h3.c, fun s hs => ⟨(h3.b s hs).1, by have := (h3.b s hs).2; omega⟩⟩ hm0 hm1).mono ?_; rintro e w' ⟨⟨ao', cap', l', rfl, k2, k3, k4⟩, hb⟩; refine ⟨⟨_, rfl, ao', cap', l', rfl, k2, ?_, fun d d0 d1 => by rw [k4, h4 d d0 d1]⟩, hb⟩; have := canon_length l' 0 10000 k3.c k3.b; omega
def BPr (b : Bk) (x : Wx) (T : List Bx) (ta : Option Addr) (tc : Nat) (z : Nat) (i0 : Int) (j : Nat) (v : Value) (w : World) : Prop :=
 match j with
 | 0 => v = b.val
 | 1 => v = .pointer (some ⟨z + 1, 0, none⟩)
 | 2 => v = .string x.n
 | 3 => v = .slice ta T.length tc
 | 4 => v = .pointer (some ⟨z + 1, 5, none⟩)
 | 5 => v = .int .i64 x.l
 | 6 => SpsAt x.l (barP b x.n T) v w
 | 7 => v = .pointer (some ⟨z, 0, none⟩)
 | 8 => v = .int .i64 b.now
 | 9 => v = .slice ta T.length tc
 | 10 => v = Sp.val ⟨0, b.now - i0 - 1⟩
 | 11 => SpsF x.l (fun d => barP b x.n T d ∨ (0 <= d /\ d <= b.now - i0 - 1)) v w
 | _ => True
theorem BPr.later {b : Bk} {x : Wx} {T : List Bx} {ta : Option Addr} {tc : Nat} {z : Nat} {i0 : Int} (j : Nat) (v : Value) (w w' : World) (h : BPr b x T ta tc z i0 j v w) (hb : Below w.heap.size w w') : BPr b x T ta tc z i0 j v w' := by
 unfold BPr at h ⊢
 split
 all_goals first
  | exact h
  | exact SpsAt.later h hb
  | exact SpsF.later h hb
  | trivial
theorem sp_row (W : World) (s : Sp) (t : Nat) : Xs 2 Sp.cells (W.alloc (.cells #[.int .i64 s.lo, .int .i64 s.hi] t)) (some ⟨W.heap.size, 0, none⟩) [s] := by
 refine .inr ⟨W.heap.size, 0, rfl, fun k hk => ?_⟩; have : k = 0 := by simpa using hk
 subst this; intro j v hj
 match j, hj with
 | 0, hj => simp [Sp.cells] at hj; subst hj; simp
 | 1, hj => simp [Sp.cells] at hj; subst hj; simp
theorem barsOf_in (n : Nat) (hn : 4 <= n) (b : Bk) (x : Wx) (i k : Int) (w : World) (hb : AsksB w b) (hx : AsksW w x) (hok : bookB b = true) (hnow0 : 0 <= b.now) (hnow1 : b.now <= 10000) (hl0 : 0 <= x.l) (hl1 : x.l <= 300) (hxf : 0 <= x.f) (hxq : 0 <= x.q) :
 CallsIn Fence.wide n Tryz.prog 215 #[b.val, x.val, chv 0 i k] w fun e w' => (∃ v, e = .returned v /\ SpsF x.l (fun d => chB b x d i k = false) v w') /\ Below w.heap.size w w' := by
 have h1n : 1 <= n := by omega
 have hB0 : Below w.heap.size w (((w.alloc b.obj).alloc x.obj).alloc (cho 0 i k)) := balloc (balloc (balloc (Below.refl _ _) _) _) _; have B0 := (Below.heap_alloc ((w.alloc b.obj).alloc x.obj) (cho 0 i k) w.heap.size (by simp; omega)).trans ((Below.heap_alloc (w.alloc b.obj) x.obj w.heap.size (by simp)).trans (World.alloc_heap_new w b.obj)); have X00 := World.alloc_heap_new (w.alloc b.obj) x.obj; rw [World.size_alloc] at X00; have X0 := (Below.heap_alloc ((w.alloc b.obj).alloc x.obj) (cho 0 i k) (w.heap.size + 1) (by simp)).trans X00; clear X00; obtain ⟨T, hT⟩ : ∃ T, tubeOf x i k 0 = T := ⟨_, rfl⟩; have hTl : T.length <= 1048576 := by rw [← hT]; have := tubeOf_len x i k 0; omega
 obtain ⟨v1, g1⟩ : ∃ v, tubeOkB b.fl T = v := ⟨_, rfl⟩; have HT : Hid (tubeOf x i k 0 = T) := hT; have G1 : Hid (tubeOkB b.fl T = v1) := g1; have hf := hx.hf; clear hT g1; refine callsIn_of_wp Tryz.func215 rfl trivial ?_ rfl; simp only [Tryz.ntmps215, List.size_toArray, List.length_cons, List.length_nil, Nat.reduceAdd, Nat.reduceSub, Array.replicate_succ, Array.replicate_zero, List.push_toArray, List.append_toArray, List.nil_append, List.cons_append]; gi_wp2_with fail
 refine ⟨trivial, ?_⟩; obtain ⟨W0, hW0⟩ : ∃ W0, ((w.alloc b.obj).alloc x.obj).alloc (cho 0 i k) = W0 := ⟨_, rfl⟩; rw [hW0] at hB0 B0 X0 ⊢; clear hW0; refine (callsIn_wide.2 (implTubeOf_any x i k 0 W0 (hx.hi.later hB0) hx.hc)).mono ?_; rintro e w1 ⟨⟨v, rfl, hO⟩, hb1⟩; rw [HT.out] at hO; obtain ⟨ta, tc, rfl, hB⟩ := hO.slice; have B1 := (hb1.block _ (alt B0)).trans B0; have X1 := (hb1.block _ (alt X0)).trans X0; have N1 := bstep hB0 hb1; have k1 : w1.cell? ⟨w.heap.size, 1, none⟩ = some (.slice b.fa b.fl.length b.fc) := objc B1 rfl; have HB1 : Hid _ := B1; have HX1 : Hid _ := X1; clear B0 X0 B1 X1 hB0 hb1 hO; gi_wp2_with fail
 refine ⟨trivial, ?_⟩; refine (callsIn_wide.2 (implTube_any b.fl T _ _ _ _ _ (hb.hf.later N1) hB hb.hnf hTl)).mono ?_; rintro e w2 ⟨rfl, hb2⟩; rw [G1.out]; have N2 := bstep N1 hb2; have hB2 := hB.later hb2; have B2 := (hb2.block _ (alt HB1.out)).trans HB1.out; have X2 := (hb2.block _ (alt HX1.out)).trans HX1.out; obtain ⟨m0, m1, m2⟩ := cells3 B2; have m3 : w2.cell? ⟨w.heap.size + 1, 0, none⟩ = some (.string x.n) := objc X2 rfl; have m4 : w2.cell? ⟨w.heap.size + 1, 5, none⟩ = some (.int .i64 x.l) := objc X2 rfl; clear HB1 HX1 N1 hB hb2 k1 B2 X2
 cases v1 with
 | false =>
  have HNo : Hid (∀ d, 0 <= d -> d <= x.l -> (memS [⟨0, x.l⟩] d ↔ chB b x d i k = false)) := fun d d0 d1 =>
   ⟨fun _ => choice_none hxf hxq d0 (by omega) (by rw [HT.out]; exact G1.out), fun _ => ⟨_, List.mem_singleton.2 rfl, d0, d1⟩⟩
  gi_wp2_with fail
  refine ⟨trivial, ?_⟩; refine (callsIn_wide.2 (delays_any x.l w2)).mono ?_; rintro e w3 ⟨rfl, hb3⟩; have N3 := bstep N2 hb3; have HR : XsT (w3.alloc (.cells #[.int .i64 0, .int .i64 x.l] 193)) (some ⟨w3.heap.size, 0, none⟩) [⟨0, x.l⟩] := ⟨sp_row w3 ⟨0, x.l⟩ 193, .inr ⟨_, _, _, rfl, World.alloc_heap_new w3 _⟩⟩; have HR' : Hid _ := HR; clear HR; gi_wp2; go_ret; exact ⟨⟨_, rfl, _, _, [⟨0, x.l⟩], rfl, HR'.out, by simp, HNo.out⟩, balloc N3 _⟩
 | true =>
 have hTo : 1 <= T.length := by
  have := G1.out; simp only [tubeOkB, lenB, Bool.and_eq_true, decide_eq_true_eq] at this; omega
 have hbx : boxOkB (T[0]'(by omega)) = true := by
  have := G1.out; simp only [tubeOkB, Bool.and_eq_true] at this; exact List.all_eq_true.1 this.2.1 _ (List.getElem_mem _)
 have hT0 : 0 <= (T[0]'(by omega)).i /\ (T[0]'(by omega)).i <= 10000 := by simp only [boxOkB, decide_eq_true_eq] at hbx; omega
 have HCh : Hid (∀ d, 0 <= d -> d <= x.l -> (chB b x d i k = false ↔ (barP b x.n T d ∨ (0 <= d /\ d <= b.now - (T[0]'(by omega)).i - 1)))) := fun d d0 d1 => by
  have hT := HT.out; have h := choice_bar (b := b) (x := x) (i := i) (k := k) (d := d) hok d0 (by omega) (by rw [hT]; exact G1.out) (by rw [hT]; exact hTo); simp only [hT] at h; exact h
 have G1' : Hid (tubeOkB b.fl T = true) := G1.out; clear HT; gi_wp2_with fail
 refine wpIn_region_vals (by kernel_rfl) 12 rfl (fun vs => { tmps := #[b.val, x.val, chv 0 i k, .pointer (some ⟨w.heap.size, 0, none⟩), .pointer (some ⟨w.heap.size + 1, 0, none⟩), .pointer (some ⟨w.heap.size + 1 + 1, 0, none⟩), .slice none 0 0, .slice ta T.length tc, .agg #[.string x.n, .int .i64 x.q, .int .i64 x.s, .int .i64 x.f, .int .i64 x.b, .int .i64 x.l, .slice x.wa x.wl.length x.wc, .slice x.la x.ll.length x.lc], .pointer (some ⟨w.heap.size + 1 + 1, 1, none⟩), .int .i64 i, .pointer (some ⟨w.heap.size + 1 + 1, 2, none⟩), .int .i64 k, .pointer (some ⟨w.heap.size + 1 + 1, 0, none⟩), .int .i64 0, .slice ta T.length tc, .pointer (some ⟨w.heap.size, 1, none⟩), .slice b.fa b.fl.length b.fc, .slice ta T.length tc, .bool true, .bool false, undef, undef, undef, undef, vs 0, vs 1, vs 2, vs 3, vs 4, vs 5, vs 6, vs 7, vs 8, vs 9, vs 10, vs 11], defers := [] }) (fun _ => undef)
  (BPr b x T ta tc w.heap.size (T[0]'(by omega)).i) BPr.later (dep_of (by kernel_rfl)) (last_of (by kernel_rfl)) ?step ?fin
 case step =>
  intro j o vs w' hj ho hBl hd; have n0 := (hBl.cell (cell_lt m0)).trans m0; have n1 := (hBl.cell (cell_lt m1)).trans m1; have n2 := (hBl.cell (cell_lt m2)).trans m2; have n3 := (hBl.cell (cell_lt m3)).trans m3; have n4 := (hBl.cell (cell_lt m4)).trans m4; have hN' := bstep N2 hBl
  match j, hj with
  | 0, _ =>
   simp at ho; subst ho; gi_wp2; exact ⟨_, by simp [upd], rfl, Below.refl _ _⟩
  | 1, _ =>
   simp at ho; subst ho; gi_wp2; exact ⟨_, by simp [upd], rfl, Below.refl _ _⟩
  | 2, _ =>
   simp at ho; subst ho; have d1 : vs 1 = _ := hd (eD 1) (by simp) rfl; rw [d1]; gi_wp2; exact ⟨_, by simp [upd, d1], rfl, Below.refl _ _⟩
  | 3, _ =>
   simp at ho; subst ho; gi_wp2; exact ⟨_, by simp [upd], rfl, Below.refl _ _⟩
  | 4, _ =>
   simp at ho; subst ho; gi_wp2; exact ⟨_, by simp [upd], rfl, Below.refl _ _⟩
  | 5, _ =>
   simp at ho; subst ho; have d4 : vs 4 = _ := hd (eD 4) (by simp) rfl; rw [d4]; gi_wp2; exact ⟨_, by simp [upd, d4], rfl, Below.refl _ _⟩
  | 6, _ =>
   simp at ho; subst ho; have d0 : vs 0 = _ := hd (eD 0) (by simp) rfl; have d2 : vs 2 = _ := hd (eD 2) (by simp) rfl; have d3 : vs 3 = _ := hd (eD 3) (by simp) rfl; have d5 : vs 5 = _ := hd (eD 5) (by simp) rfl; rw [d0, d2, d3, d5]; gi_wp2_with fail
   refine ⟨trivial, ?_⟩; refine (callsIn_wide.2 (barred_any b x.n T ta tc x.l hl0 hl1 w' ((hb.later hN').with (hB2.later hBl) hTl) hok G1'.out)).mono ?_; rintro e w4 ⟨⟨v, rfl, hv⟩, hb4⟩; have HVv : Hid _ := hv; clear hv; gi_wp2; exact ⟨_, by simp [upd, d0, d2, d3, d5], HVv.out, hb4⟩
  | 7, _ =>
   simp at ho; subst ho; gi_wp2; exact ⟨_, by simp [upd], rfl, Below.refl _ _⟩
  | 8, _ =>
   simp at ho; subst ho; have d7 : vs 7 = _ := hd (eD 7) (by simp) rfl; rw [d7]; gi_wp2; exact ⟨_, by simp [upd, d7], rfl, Below.refl _ _⟩
  | 9, _ =>
   simp at ho; subst ho; gi_wp2; exact ⟨_, by simp [upd], rfl, Below.refl _ _⟩
  | 10, _ =>
   simp at ho; subst ho; have d8 : vs 8 = _ := hd (eD 8) (by simp) rfl; have d9 : vs 9 = _ := hd (eD 9) (by simp) rfl; rw [d8, d9]; gi_wp2_with fail
   refine ⟨trivial, ?_⟩; refine (callsIn_wide.2 (startBelow_any b.now T ta tc w' (hB2.later hBl) hTo hnow0 hnow1 hT0.1 hT0.2)).mono ?_; rintro e w4 ⟨rfl, hb4⟩; gi_wp2; exact ⟨_, by simp [upd, d8, d9], rfl, hb4⟩
  | 11, _ =>
   simp at ho; subst ho; have d6 : SpsAt x.l (barP b x.n T) (vs 6) w' := hd (eD 6) (by simp) rfl; have d10 : vs 10 = _ := hd (eD 10) (by simp) rfl; have HD6 : Hid _ := d6; clear d6; rw [d10]; gi_wp2_with fail
   refine ⟨trivial, ?_⟩; refine (callsIn_wide.2 (with_spsF x.l hl1 ⟨0, b.now - (T[0]'(by omega)).i - 1⟩ _ (vs 6) w' HD6.out (Int.le_refl _) (by show b.now - _ - 1 <= 10000; omega))).mono ?_; rintro e w4 ⟨⟨v, rfl, hv⟩, hb4⟩; have HVv : Hid _ := hv; clear hv; gi_wp2; exact ⟨_, by simp [upd, d10], HVv.out, hb4⟩
  | j + 12, h => exact absurd h (by omega)
 case fin =>
  intro o vs w' ho hBl hp; simp at ho; subst ho; have HF : Hid (SpsF x.l (fun d => barP b x.n T d ∨ (0 <= d /\ d <= b.now - (T[0]'(by omega)).i - 1)) (vs 11) w') := hp 11 (by decide); clear hp; gi_wp2; go_ret; obtain ⟨ao, cap, l, e, hX, hl, hm⟩ := HF.out; exact ⟨⟨_, rfl, ao, cap, l, e, hX, hl, fun d d0 d1 => (hm d d0 d1).trans (HCh.out d d0 d1).symm⟩, bstep N2 hBl⟩
end Go.Proofs.YtjlliijeaekmfaaGreatDoor
namespace Go.Proofs.YtjlliijeaekmfaaGreatDoor
set_option maxRecDepth 100000
set_option maxHeartbeats 2000000
open Go.RowKit Go.Shelf
theorem choicesOf_any (x : Wx) (w : World) :
 Calls Tryz.prog 184 #[x.val] w fun e w' => e = .returned (.func (.func 217) #[] #[.pointer (some ⟨w.heap.size, 0, none⟩)]) /\ Below w.heap.size w w' /\ w'.heap[w.heap.size]? = some x.obj := by
 have H : Hid (Below w.heap.size w (w.alloc x.obj) /\ (w.alloc x.obj).heap[w.heap.size]? = some x.obj) := ⟨balloc (Below.refl _ _) _, World.alloc_heap_new w x.obj⟩
 go_enter Tryz.func184, Tryz.ntmps184
 go_wp2
 go_ret; exact ⟨rfl, H.out⟩
theorem freeChoices_any (b : Bk) (x : Wx) (w : World) :
 Calls Tryz.prog 148 #[b.val, x.val] w fun e w' => e = .returned (.func (.func 182) #[] #[.pointer (some ⟨w.heap.size, 0, none⟩), .pointer (some ⟨w.heap.size + 1, 0, none⟩)]) /\ Below w.heap.size w w' /\ w'.heap[w.heap.size]? = some b.obj /\ w'.heap[w.heap.size + 1]? = some x.obj := by
 have a2 := World.alloc_heap_new (w.alloc b.obj) x.obj; rw [World.size_alloc] at a2
 have H : Hid (Below w.heap.size w ((w.alloc b.obj).alloc x.obj) /\ ((w.alloc b.obj).alloc x.obj).heap[w.heap.size]? = some b.obj /\ ((w.alloc b.obj).alloc x.obj).heap[w.heap.size + 1]? = some x.obj) :=
  ⟨balloc (balloc (Below.refl _ _) _) _, (Below.heap_alloc _ _ _ (by simp)).trans (World.alloc_heap_new w b.obj), a2⟩
 clear a2
 go_enter Tryz.func148, Tryz.ntmps148
 go_wp2
 go_ret; exact ⟨rfl, H.out⟩
end Go.Proofs.YtjlliijeaekmfaaGreatDoor
