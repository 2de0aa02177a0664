import Derived.Test.YtfdocgdpcfiiiabGreatDoorWz
import Derived.Test.YtfdocgdpcfiiiabGreatDoorTubes
import Derived.Test.YtfdocgdpcfiiiabGreatDoorBarred
import Derived.Test.YtfdocgdpcfiiiabGreatDoorWith
import Derived.Test.YtfdocgdpcfiiiabGreatDoorTo
namespace Go.Proofs.YtfdocgdpcfiiiabGreatDoor
open Go.RowKit
/-- What a book must be for the program's own functions. -/
structure AsksB (w : World) (b : Bk) : Prop where
  hf : Xs 3 Fx.cells w b.fa b.fl
  hnf : b.fl.length ≤ 1048576
  hcap : b.fl.length ≤ b.fc
  hc2 : b.fc ≤ 1048576
  hs : ∀ f ∈ b.fl, f.n.size ≤ 9223372036854775807
  hh : Xs 3 Hx.cells w b.ha b.hl
  hba : ∃ bl off, b.ha = some ⟨bl, off, none⟩ ∧ ∀ k (h : k < b.hl.length), CellsAt w bl (off + k * 3) b.hl[k].cells
  hnh : b.hl.length ≤ 1048576
  hgood : ∀ h ∈ b.hl, h.In w ∧ h.Fit
theorem AsksB.later {w w' : World} {b : Bk} (h : AsksB w b) (hb : Below w.heap.size w w') : AsksB w' b :=
  ⟨h.hf.later hb, h.hnf, h.hcap, h.hc2, h.hs, h.hh.later hb, by obtain ⟨bl, off, e, hc⟩ := h.hba; exact ⟨bl, off, e, fun k hk => (hc k hk).later hb⟩, h.hnh, fun x hx => ⟨(h.hgood x hx).1.later hb, (h.hgood x hx).2⟩⟩
theorem AsksB.with {w : World} {b : Bk} {t : List Bx} {ta : Option Addr} (h : AsksB w b) (ht : Bxs w ta t) (hn : t.length ≤ 1048576) : Asks w b t ta :=
  ⟨h.hf, h.hnf, h.hcap, h.hc2, h.hs, h.hh, h.hba, h.hnh, h.hgood, ht, hn⟩
/-- What a wish must be for the program's own functions. -/
structure AsksW (w : World) (x : Wx) : Prop where
  hi : x.In w
  hf : x.Fit
  hc : ∀ y ∈ x.wl, y.l.length ≤ y.c ∧ y.c ≤ 1048576
theorem AsksW.later {w w' : World} {x : Wx} (h : AsksW w x) (hb : Below w.heap.size w w') : AsksW w' x := ⟨h.hi.later hb, h.hf, h.hc⟩
abbrev chv (late way lev : Int) : Value := .agg #[.int .i64 late, .int .i64 way, .int .i64 lev]
abbrev cho (late way lev : Int) : Obj := .cells #[.int .i64 late, .int .i64 way, .int .i64 lev] 37
abbrev Bk.obj (b : Bk) : Obj := .cells #[.int .i64 b.now, .slice b.fa b.fl.length b.fc, .slice b.ha b.hl.length b.hc] 35
/-- Whether a choice is free. -/
def chB (b : Bk) (x : Wx) (late way lev : Int) : Bool := tubeOkB b.fl (tubeOf x way lev late) && (fromB b.now (tubeOf x way lev late) && freeL x.n (tubeOf x way lev late) b.hl)
theorem tubeOf_len (x : Wx) (way lev late : Int) : (tubeOf x way lev late).length ≤ 40 := by
  unfold tubeOf
  split
  · rw [tubeL_upto, upto_length]; omega
  · simp
set_option maxRecDepth 100000 in
set_option maxHeartbeats 4000000 in
theorem l5Can_any (b : Bk) (x : Wx) (late way lev : Int) (w : World) (hb : AsksB w b) (hx : AsksW w x) :
    Calls Tryz.prog 119 #[b.val, x.val, chv late way lev] w fun e w' => e = .returned (.bool (chB b x late way lev)) ∧ Below w.heap.size w w' := by
  have hB0 : Below w.heap.size w (((w.alloc b.obj).alloc x.obj).alloc (cho late way lev)) := balloc (balloc (balloc (Below.refl _ _) _) _) _
  have B0 := (Below.heap_alloc ((w.alloc b.obj).alloc x.obj) (cho late way lev) w.heap.size (by simp; omega)).trans ((Below.heap_alloc (w.alloc b.obj) x.obj w.heap.size (by simp)).trans (World.alloc_heap_new w b.obj))
  have X00 := World.alloc_heap_new (w.alloc b.obj) x.obj
  rw [World.size_alloc] at X00
  have X0 := (Below.heap_alloc ((w.alloc b.obj).alloc x.obj) (cho late way lev) (w.heap.size + 1) (by simp)).trans X00
  clear X00
  obtain ⟨T, hT⟩ : ∃ T, tubeOf x way lev late = T := ⟨_, rfl⟩
  have hTl : T.length ≤ 1048576 := by rw [← hT]; have := tubeOf_len x way lev late; omega
  unfold chB
  rw [hT]
  have HT : Hid (tubeOf x way lev late = T) := hT
  clear hT
  obtain ⟨v1, g1⟩ : ∃ v, tubeOkB b.fl T = v := ⟨_, rfl⟩
  obtain ⟨v2, g2⟩ : ∃ v, fromB b.now T = v := ⟨_, rfl⟩
  obtain ⟨v3, g3⟩ : ∃ v, freeL x.n T b.hl = v := ⟨_, rfl⟩
  rw [g1, g2, g3]
  have G1 : Hid _ := g1
  have G2 : Hid _ := g2
  have G3 : Hid _ := g3
  clear g1 g2 g3
  have hf := hx.hf
  go_enter Tryz.func119, Tryz.ntmps119
  go_wp2_with fail
  obtain ⟨W0, hW0⟩ : ∃ W0, ((w.alloc b.obj).alloc x.obj).alloc (cho late way lev) = W0 := ⟨_, rfl⟩
  rw [hW0] at hB0 B0 X0 ⊢
  clear hW0
  refine (callsIn_wide.1 (specTubeOf_in 4 (by omega) x way lev late W0 (hx.hi.later hB0) hf.wn hf.ln hf.yn)).mono ?_
  rintro e w1 ⟨⟨v, rfl, hO⟩, hb1⟩
  rw [HT.out] at hO
  obtain ⟨ta, tc, rfl, hB⟩ := hO.slice
  have B1 := (hb1.block _ (Array.getElem?_eq_some_iff.1 B0).1).trans B0
  have X1 := (hb1.block _ (Array.getElem?_eq_some_iff.1 X0).1).trans X0
  have N1 := bstep hB0 hb1
  have k1 : w1.cell? ⟨w.heap.size, 1, none⟩ = some (.slice b.fa b.fl.length b.fc) := objc B1 rfl
  have HB1 : Hid _ := B1
  have HX1 : Hid _ := X1
  clear B0 X0 B1 X1 hB0 hb1 hO
  go_wp2_with fail
  refine (specTube_any b.fl T _ _ _ _ _ (hb.hf.later N1) hB hb.hnf hTl).mono ?_
  rintro e w2 ⟨rfl, hb2⟩
  rw [G1.out]
  have N2 := bstep N1 hb2
  have hB2 := hB.later hb2
  have B2 := (hb2.block _ (Array.getElem?_eq_some_iff.1 HB1.out).1).trans HB1.out
  have X2 := (hb2.block _ (Array.getElem?_eq_some_iff.1 HX1.out).1).trans HX1.out
  have m0 : w2.cell? ⟨w.heap.size, 0, none⟩ = some (.int .i64 b.now) := objc B2 rfl
  have m1 : w2.cell? ⟨w.heap.size, 1, none⟩ = some (.slice b.fa b.fl.length b.fc) := objc B2 rfl
  have m2 : w2.cell? ⟨w.heap.size, 2, none⟩ = some (.slice b.ha b.hl.length b.hc) := objc B2 rfl
  have m3 : w2.cell? ⟨w.heap.size + 1, 0, none⟩ = some (.string x.n) := objc X2 rfl
  clear HB1 HX1 N1 hB hb2 k1 B2 X2
  cases v1 with
  | false =>
    go_wp2
    go_ret
    exact ⟨rfl, N2⟩
  | true =>
  go_wp2_with fail
  refine (l2From_val T b.now v2 G2.out ta tc w2 hB2 hTl).mono ?_
  rintro e w2 ⟨rfl, rfl⟩
  cases v2 with
  | false =>
    go_wp2
    go_ret
    exact ⟨rfl, N2⟩
  | true =>
  go_wp2_with fail
  refine (specL3_any b x.n T ta tc _ ((hb.later N2).with hB2 hTl)).mono ?_
  rintro e w3 ⟨rfl, hb3⟩
  rw [G3.out]
  go_wp2
  go_ret
  exact ⟨rfl, bstep N2 hb3⟩
set_option maxRecDepth 100000 in
set_option maxHeartbeats 1000000 in
theorem startBelow_any (now : Int) (t : List Bx) (ta : Option Addr) (tc : Nat) (w : World) (ht : Bxs w ta t) (h1 : 1 ≤ t.length) (hn0 : 0 ≤ now) (hn1 : now ≤ 10000) (hi0 : 0 ≤ (t[0]'(by omega)).i) (hi1 : (t[0]'(by omega)).i ≤ 10000) :
    Calls Tryz.prog 233 #[.int .i64 now, .slice ta t.length tc] w fun e w' => e = .returned (Sp.val ⟨0, now - (t[0]'(by omega)).i - 1⟩) ∧ Below w.heap.size w w' := by
  rcases ht with h | ⟨bl, off, rfl, hc⟩
  · subst h; simp at h1
  have hb := hc 0 (by omega)
  obtain ⟨c, hce⟩ : ∃ c, t[0]'(by omega) = c := ⟨_, rfl⟩
  rw [hce] at hb hi0 hi1 ⊢
  clear hce hc
  obtain ⟨c0, c1, c2, c3, c4, c5⟩ := hb
  rw [Nat.zero_mul, Nat.add_zero] at c0 c1 c2 c3 c4 c5
  have hl : (1 : Int) ≤ (t.length : Int) := by omega
  have hl0 : (0 : Int) < (t.length : Int) := by omega
  have hbl : bl < w.heap.size := cell_lt c0
  have hl2 : 0 < t.length := by omega
  go_enter Tryz.func233, Tryz.ntmps233
  go_wp2
  refine bodyPost_ret (v := Sp.val ⟨0, now - c.i - 1⟩) ?_ rfl ⟨rfl, balloc (Below.refl _ _) _⟩
  simp [results, Tryz.results233, go_sem]
end Go.Proofs.YtfdocgdpcfiiiabGreatDoor
namespace Go.Proofs.YtfdocgdpcfiiiabGreatDoor
open Go.RowKit
set_option maxRecDepth 100000 in
theorem Likes.map {β : Type} {l m : List Hx} (h : Likes l m) (f : Hx → β) (hf : ∀ a b : Hx, a.Like b → f a = f b) : l.map f = m.map f :=
  List.ext_getElem (by simp [h.len]) (fun i h1 h2 => by simp only [List.getElem_map]; exact hf _ _ (h.like i (by simpa using h1)))
set_option maxRecDepth 100000 in
theorem ascG_map {α : Type} (nm : α → ByteArray) : ∀ l : List α, ascG nm l = ascG (fun x => x) (l.map nm)
  | [] => rfl
  | [_] => rfl
  | a :: b :: r => by simp only [ascG, List.map_cons]; rw [ascG_map nm (b :: r)]; rfl
set_option maxRecDepth 100000 in
theorem namesG_like {l m : List Hx} (h : Likes l m) : namesG Hx.n l = namesG Hx.n m := by
  have e := h.map Hx.n (fun _ _ g => g.n)
  have e2 := h.map (fun x => nameB x.n) (fun _ _ g => by rw [g.n])
  rw [namesG, namesG, ascG_map, ascG_map Hx.n m, e]
  congr 1
  have a1 : ∀ l : List Hx, (l.all fun x => nameB x.n) = (l.map (fun x => nameB x.n)).all (fun x => x) := fun l => by rw [List.all_map]; rfl
  rw [a1 l, a1 m, e2]
set_option maxRecDepth 100000 in
theorem tubes_like {l m : List Hx} (h : Likes l m) (fl : List Fx) (now : Int) : l.all (tubesB fl now) = m.all (tubesB fl now) := by
  have e := h.map (tubesB fl now) (fun _ _ g => by rw [tubesB, tubesB, g.t, g.x])
  have a1 : ∀ l : List Hx, l.all (tubesB fl now) = (l.map (tubesB fl now)).all (fun x => x) := fun l => by rw [List.all_map]; rfl
  rw [a1 l, a1 m, e]
set_option maxRecDepth 100000 in
theorem meets_like {a b c d : Hx} (h : a.Like b) (g : c.Like d) : meetsB a c = meetsB b d := by rw [meetsB, meetsB, h.t, h.x, g.t, g.x]
set_option maxRecDepth 100000 in
theorem apart_like {l m : List Hx} (h : Likes l m) : apartTo l l.length = apartTo m m.length := by
  rw [Bool.eq_iff_iff, apart_iff l _ (Nat.le_refl _), apart_iff m _ (Nat.le_refl _)]
  have hl := h.len
  constructor
  · intro g i j hj hm hi
    rw [← meets_like (h.like i (by omega)) (h.like j (by omega))]
    exact g i j (by omega) (by omega) hi
  · intro g i j hj hm hi
    rw [meets_like (h.like i (by omega)) (h.like j (by omega))]
    exact g i j (by omega) (by omega) hi
set_option maxRecDepth 100000 in
theorem book_like {w : World} {b b' : Bk} (h : Copied w b b') : bookB b' = bookB b := by
  unfold bookB heldsB
  rw [h.now, h.fl, namesG_like h.likes, tubes_like h.likes, apart_like h.likes, h.likes.len]
set_option maxRecDepth 100000 in
theorem Copied.later {w w' : World} {b b' : Bk} (h : Copied w b b') (hb : Below w.heap.size w w') : Copied w' b b' := by
  obtain ⟨q, e, hc⟩ := h.hs
  exact ⟨h.now, h.fl, h.fc, h.fs.later hb, ⟨q, e, fun i hi => (hc i hi).later hb⟩, h.likes, fun x hx => (h.inn x hx).later hb⟩
set_option maxRecDepth 100000 in
theorem Copied.xs {w : World} {b b' : Bk} (h : Copied w b b') : Xs 3 Hx.cells w b'.ha b'.hl := by
  obtain ⟨q, e, hc⟩ := h.hs
  exact .inr ⟨q, 0, e, hc⟩
set_option maxRecDepth 100000 in
theorem Likes.symm {l m : List Hx} (h : Likes l m) : Likes m l := ⟨h.len.symm, fun k hk => ⟨(h.like k (by have := h.len; omega)).n.symm, (h.like k (by have := h.len; omega)).t.symm, (h.like k (by have := h.len; omega)).x.symm⟩⟩
set_option maxRecDepth 100000 in
theorem Likes.trans {l m n : List Hx} (h : Likes l m) (g : Likes m n) : Likes l n := ⟨g.len.trans h.len, fun k hk => by
  have a := h.like k hk
  have c := g.like k (by have := h.len; omega)
  exact ⟨a.n.trans c.n, a.t.trans c.t, a.x.trans c.x⟩⟩
set_option maxRecDepth 100000 in
theorem specBook_copy {b b' : Bk} {w : World} (h : Copied w b b') (hnf : b.fl.length ≤ 1048576) (hs : ∀ f ∈ b.fl, f.n.size ≤ 9223372036854775807) (hnh : b.hl.length ≤ 1048576) (hfit : ∀ h ∈ b.hl, h.Fit) :
    Calls Tryz.prog 40 #[b'.val] w fun e w' => e = .returned (.bool (bookB b)) ∧ Below w.heap.size w w' := by
  obtain ⟨q, e, hc⟩ := h.hs
  rw [← book_like h]
  exact specBook_loop b' q 0 e w h.fs (by rw [h.fl]; exact hnf) hc (by rw [h.likes.len]; exact hnh) h.inn (h.likes.fit hfit) (by rw [h.fl]; exact hs)
set_option maxRecDepth 100000 in
theorem implBook_copy {b b' : Bk} {w : World} (h : Copied w b b') (hnf : b.fl.length ≤ 1048576) (hs : ∀ f ∈ b.fl, f.n.size ≤ 9223372036854775807) (hnh : b.hl.length ≤ 1048576) (hfit : ∀ h ∈ b.hl, h.Fit) :
    Calls Tryz.prog 94 #[b'.val] w fun e w' => e = .returned (.bool (bookB b)) ∧ Below w.heap.size w w' := by
  rw [← book_like h]
  exact implBook_any b' w h.fs (by rw [h.fl]; exact hnf) (by rw [h.fl, h.fc]; exact Nat.le_refl _) (by rw [h.fc]; exact hnf) (by rw [h.fl]; exact hs) h.xs (by rw [h.likes.len]; exact hnh) (fun x hx => ⟨h.inn x hx, h.likes.fit hfit x hx⟩)
set_option maxRecDepth 100000 in
theorem eqBook_copy {b b2 b3 : Bk} {w : World} (h : Copied w b b2) (g : Copied w b b3) (hnf : b.fl.length ≤ 1048576) (hnh : b.hl.length ≤ 1048576) (hfit : ∀ h ∈ b.hl, h.Fit) :
    Calls Tryz.prog 14 #[b2.val, b3.val] w fun e w' => e = .returned (.bool true) ∧ Below w.heap.size w w' := by
  have e1 : b3.now = b2.now := g.now.trans h.now.symm
  have e2 : b3.fl = b2.fl := g.fl.trans h.fl.symm
  have hx := g.fs
  rw [e2] at hx
  have := eqBook_like b2 b3.fa b3.fc b3.ha b3.hl b3.hc w h.fs hx (by rw [h.fl]; exact hnf) h.xs g.xs (by rw [h.likes.len]; exact hnh) (fun x hx => ⟨h.inn x hx, h.likes.fit hfit x hx⟩) g.inn (h.likes.symm.trans g.likes)
  rw [← e1, ← e2] at this
  exact this
end Go.Proofs.YtfdocgdpcfiiiabGreatDoor
