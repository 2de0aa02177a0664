import Derived.Test.YtficfhcmbhlagaaToB
import Derived.Test.YtficfhcmbhlagaaImplBook2
namespace Go.Proofs.Ytficfhcmbhlagaa
open Go.RowKit
theorem Likes.map {β : Type} {l m : List Hx} (h : Likes l m) (f : Hx → β) (hf : ∀ a b : Hx, a.Like b → f a = f b) : l.map f = m.map f :=
  List.ext_getElem (by simp [h.len]) (fun i h1 h2 => by simp only [List.getElem_map]; exact hf _ _ (h.like i (by simpa using h1)))
theorem ascG_map {α : Type} (nm : α → ByteArray) : ∀ l : List α, ascG nm l = ascG (fun x => x) (l.map nm)
  | [] => rfl
  | [_] => rfl
  | a :: b :: r => by simp only [ascG, List.map_cons]; rw [ascG_map nm (b :: r)]; rfl
theorem namesG_like {l m : List Hx} (h : Likes l m) : namesG Hx.n l = namesG Hx.n m := by
  have e := h.map Hx.n (fun _ _ g => g.n)
  have e2 := h.map (fun x => nameB x.n) (fun _ _ g => by rw [g.n])
  rw [namesG, namesG, ascG_map, ascG_map Hx.n m, e]
  congr 1
  have a1 : ∀ l : List Hx, (l.all fun x => nameB x.n) = (l.map (fun x => nameB x.n)).all (fun x => x) := fun l => by rw [List.all_map]; rfl
  rw [a1 l, a1 m, e2]
theorem tubes_like {l m : List Hx} (h : Likes l m) (fl : List Fx) (now : Int) : l.all (tubesB fl now) = m.all (tubesB fl now) := by
  have e := h.map (tubesB fl now) (fun _ _ g => by rw [tubesB, tubesB, g.t, g.x])
  have a1 : ∀ l : List Hx, l.all (tubesB fl now) = (l.map (tubesB fl now)).all (fun x => x) := fun l => by rw [List.all_map]; rfl
  rw [a1 l, a1 m, e]
theorem meets_like {a b c d : Hx} (h : a.Like b) (g : c.Like d) : meetsB a c = meetsB b d := by rw [meetsB, meetsB, h.t, h.x, g.t, g.x]
theorem apart_like {l m : List Hx} (h : Likes l m) : apartTo l l.length = apartTo m m.length := by
  rw [Bool.eq_iff_iff, apart_iff l _ (Nat.le_refl _), apart_iff m _ (Nat.le_refl _)]
  have hl := h.len
  constructor
  · intro g i j hj hm hi
    rw [← meets_like (h.like i (by omega)) (h.like j (by omega))]
    exact g i j (by omega) (by omega) hi
  · intro g i j hj hm hi
    rw [meets_like (h.like i (by omega)) (h.like j (by omega))]
    exact g i j (by omega) (by omega) hi
theorem book_like {w : World} {b b' : Bk} (h : Copied w b b') : bookB b' = bookB b := by
  unfold bookB heldsB
  rw [h.now, h.fl, namesG_like h.likes, tubes_like h.likes, apart_like h.likes, h.likes.len]
theorem Copied.later {w w' : World} {b b' : Bk} (h : Copied w b b') (hb : Below w.heap.size w w') : Copied w' b b' := by
  obtain ⟨q, e, hc⟩ := h.hs
  exact ⟨h.now, h.fl, h.fc, h.fs.later hb, ⟨q, e, fun i hi => (hc i hi).later hb⟩, h.likes, fun x hx => (h.inn x hx).later hb⟩
theorem Copied.xs {w : World} {b b' : Bk} (h : Copied w b b') : Xs 3 Hx.cells w b'.ha b'.hl := by
  obtain ⟨q, e, hc⟩ := h.hs
  exact .inr ⟨q, 0, e, hc⟩
theorem Likes.symm {l m : List Hx} (h : Likes l m) : Likes m l := ⟨h.len.symm, fun k hk => ⟨(h.like k (by have := h.len; omega)).n.symm, (h.like k (by have := h.len; omega)).t.symm, (h.like k (by have := h.len; omega)).x.symm⟩⟩
theorem Likes.trans {l m n : List Hx} (h : Likes l m) (g : Likes m n) : Likes l n := ⟨g.len.trans h.len, fun k hk => by
  have a := h.like k hk
  have c := g.like k (by have := h.len; omega)
  exact ⟨a.n.trans c.n, a.t.trans c.t, a.x.trans c.x⟩⟩
theorem specBook_copy {b b' : Bk} {w : World} (h : Copied w b b') (hnf : b.fl.length ≤ 1048576) (hs : ∀ f ∈ b.fl, f.n.size ≤ 9223372036854775807) (hnh : b.hl.length ≤ 1048576) (hfit : ∀ h ∈ b.hl, h.Fit) :
    Calls Try.prog 26 #[b'.val] w fun e w' => e = .returned (.bool (bookB b)) ∧ Below w.heap.size w w' := by
  obtain ⟨q, e, hc⟩ := h.hs
  rw [← book_like h]
  exact specBook_loop b' q 0 e w h.fs (by rw [h.fl]; exact hnf) hc (by rw [h.likes.len]; exact hnh) h.inn (h.likes.fit hfit) (by rw [h.fl]; exact hs)
theorem implBook_copy {b b' : Bk} {w : World} (h : Copied w b b') (hnf : b.fl.length ≤ 1048576) (hs : ∀ f ∈ b.fl, f.n.size ≤ 9223372036854775807) (hnh : b.hl.length ≤ 1048576) (hfit : ∀ h ∈ b.hl, h.Fit) :
    Calls Try.prog 28 #[b'.val] w fun e w' => e = .returned (.bool (bookB b)) ∧ Below w.heap.size w w' := by
  rw [← book_like h]
  exact implBook_any b' w h.fs (by rw [h.fl]; exact hnf) (by rw [h.fl, h.fc]; exact Nat.le_refl _) (by rw [h.fc]; exact hnf) (by rw [h.fl]; exact hs) h.xs (by rw [h.likes.len]; exact hnh) (fun x hx => ⟨h.inn x hx, h.likes.fit hfit x hx⟩)
theorem eqBook_copy {b b2 b3 : Bk} {w : World} (h : Copied w b b2) (g : Copied w b b3) (hnf : b.fl.length ≤ 1048576) (hnh : b.hl.length ≤ 1048576) (hfit : ∀ h ∈ b.hl, h.Fit) :
    Calls Try.prog 29 #[b2.val, b3.val] w fun e w' => e = .returned (.bool true) ∧ Below w.heap.size w w' := by
  have e1 : b3.now = b2.now := g.now.trans h.now.symm
  have e2 : b3.fl = b2.fl := g.fl.trans h.fl.symm
  have hx := g.fs
  rw [e2] at hx
  have := eqBook_like b2 b3.fa b3.fc b3.ha b3.hl b3.hc w h.fs hx (by rw [h.fl]; exact hnf) h.xs g.xs (by rw [h.likes.len]; exact hnh) (fun x hx => ⟨h.inn x hx, h.likes.fit hfit x hx⟩) g.inn (h.likes.symm.trans g.likes)
  rw [← e1, ← e2] at this
  exact this
set_option maxHeartbeats 2000000 in
theorem lawBook_any (b : Bk) (w : World) (hf : Xs 3 Fx.cells w b.fa b.fl) (hnf : b.fl.length ≤ 9223372036854775807) (hsf : ∀ f ∈ b.fl, f.n.size ≤ 9223372036854775807) (hh : Xs 3 Hx.cells w b.ha b.hl) (hn : b.hl.length ≤ 9223372036854775807) (hs : ∀ h ∈ b.hl, h.Wide) (hin : ∀ h ∈ b.hl, h.In w) :
    Calls Try.prog 7 #[b.val] w fun e w' => e = .returned (.bool true) ∧ Below w.heap.size w w' := by
  go_enter Try.func7, Try.ntmps7
  go_wp2_with fail
  have hB0 : Below w.heap.size w (w.alloc (.cells #[.int .i64 b.now, .slice b.fa b.fl.length b.fc, .slice b.ha b.hl.length b.hc] 46)) := balloc (Below.refl _ _) _
  have A0 := World.alloc_heap_new w (.cells #[.int .i64 b.now, .slice b.fa b.fl.length b.fc, .slice b.ha b.hl.length b.hc] 46)
  refine (szBook_any b _ (hf.later hB0) hnf hsf (hh.later hB0) hn hs 1048576 (by omega) (by omega)).mono ?_
  rintro e w1 ⟨⟨r, rfl, hr0, hr1⟩, hb1⟩
  have N1 : Below w.heap.size w w1 := bstep hB0 hb1
  have A1 := (hb1.block _ (Array.getElem?_eq_some_iff.1 A0).1).trans A0
  clear hB0 hb1 A0
  by_cases hr : 0 ≤ r
  · obtain ⟨_, hfl, hhl, hft⟩ := hr1 hr
    have hfl : b.fl.length ≤ 1048576 := by omega
    have hhl : b.hl.length ≤ 1048576 := by omega
    have k0 : w1.cell? ⟨w.heap.size, 0, none⟩ = some (.int .i64 b.now) := obj_cell A1 rfl
    have k1 : w1.cell? ⟨w.heap.size, 1, none⟩ = some (.slice b.fa b.fl.length b.fc) := obj_cell A1 rfl
    have k2 : w1.cell? ⟨w.heap.size, 2, none⟩ = some (.slice b.ha b.hl.length b.hc) := obj_cell A1 rfl
    go_wp2_with fail
    refine (toBook_any b _ (hf.later N1) hfl (hh.later N1) hhl (fun h m => ⟨(hin h m).later N1, hft h m⟩)).mono ?_
    rintro e w2 ⟨⟨b1, rfl, hc1⟩, hb2⟩
    have N2 : Below w.heap.size w w2 := bstep N1 hb2
    have A2 := (hb2.block _ (Array.getElem?_eq_some_iff.1 A1).1).trans A1
    clear k0 k1 k2 hb2
    go_wp2_with fail
    refine (specBook_copy hc1 hfl hsf hhl hft).mono ?_
    rintro e w3 ⟨rfl, hb3⟩
    have N3 : Below w.heap.size w w3 := bstep N2 hb3
    have A3 := (hb3.block _ (Array.getElem?_eq_some_iff.1 A2).1).trans A2
    obtain ⟨v, hv⟩ : ∃ v, v = bookB b := ⟨_, rfl⟩
    rw [← hv]
    have HV : Hid (v = bookB b) := hv
    clear hv hc1 hb3
    have k0 : w3.cell? ⟨w.heap.size, 0, none⟩ = some (.int .i64 b.now) := obj_cell A3 rfl
    have k1 : w3.cell? ⟨w.heap.size, 1, none⟩ = some (.slice b.fa b.fl.length b.fc) := obj_cell A3 rfl
    have k2 : w3.cell? ⟨w.heap.size, 2, none⟩ = some (.slice b.ha b.hl.length b.hc) := obj_cell A3 rfl
    go_wp2_with fail
    refine (toBook_any b _ (hf.later N3) hfl (hh.later N3) hhl (fun h m => ⟨(hin h m).later N3, hft h m⟩)).mono ?_
    rintro e w4 ⟨⟨b2, rfl, hc2⟩, hb4⟩
    have N4 : Below w.heap.size w w4 := bstep N3 hb4
    have A4 := (hb4.block _ (Array.getElem?_eq_some_iff.1 A3).1).trans A3
    clear k0 k1 k2 hb4
    go_wp2_with fail
    have hbx : Below w4.heap.size w4 (w4.alloc (.cells #[.int .i64 b2.now, .slice b2.fa b2.fl.length b2.fc, .slice b2.ha b2.hl.length b2.hc] 51)) := balloc (Below.refl _ _) _
    have X5 := World.alloc_heap_new w4 (.cells #[.int .i64 b2.now, .slice b2.fa b2.fl.length b2.fc, .slice b2.ha b2.hl.length b2.hc] 51)
    have A5 := (hbx.block _ (Array.getElem?_eq_some_iff.1 A4).1).trans A4
    have N5 : Below w.heap.size w (w4.alloc (.cells #[.int .i64 b2.now, .slice b2.fa b2.fl.length b2.fc, .slice b2.ha b2.hl.length b2.hc] 51)) := bstep N4 hbx
    have hc2 := hc2.later hbx
    refine (implBook_copy hc2 hfl hsf hhl hft).mono ?_
    rintro e w6 ⟨rfl, hb6⟩
    have N6 : Below w.heap.size w w6 := bstep N5 hb6
    have A6 := (hb6.block _ (Array.getElem?_eq_some_iff.1 A5).1).trans A5
    have X6 := (hb6.block _ (Array.getElem?_eq_some_iff.1 X5).1).trans X5
    have hc2 := hc2.later hb6
    rw [← HV.out]
    clear hb6 hbx A5 X5 N5
    have k0 : w6.cell? ⟨w.heap.size, 0, none⟩ = some (.int .i64 b.now) := obj_cell A6 rfl
    have k1 : w6.cell? ⟨w.heap.size, 1, none⟩ = some (.slice b.fa b.fl.length b.fc) := obj_cell A6 rfl
    have k2 : w6.cell? ⟨w.heap.size, 2, none⟩ = some (.slice b.ha b.hl.length b.hc) := obj_cell A6 rfl
    have x0 : w6.cell? ⟨w4.heap.size, 0, none⟩ = some (.int .i64 b2.now) := obj_cell X6 rfl; have x1 : w6.cell? ⟨w4.heap.size, 1, none⟩ = some (.slice b2.fa b2.fl.length b2.fc) := obj_cell X6 rfl; have x2 : w6.cell? ⟨w4.heap.size, 2, none⟩ = some (.slice b2.ha b2.hl.length b2.hc) := obj_cell X6 rfl
    clear A1 A2 A3 A4 A6 N1 N2 N3 N4
    go_wp2_with fail
    have hB6 : ∀ X, Below w6.heap.size w6 X → Below w.heap.size w X := fun X h => bstep N6 h
    go_region_with (first
      | (go_at_call 27; refine (toBook_any b _ (hf.later (hB6 _ (by repeat (first | exact Below.refl _ _ | refine Below.drew ?_)))) hfl (hh.later (hB6 _ (by repeat (first | exact Below.refl _ _ | refine Below.drew ?_)))) hhl (fun h m => ⟨(hin h m).later (hB6 _ (by repeat (first | exact Below.refl _ _ | refine Below.drew ?_))), hft h m⟩)).mono ?_; rintro e w7 ⟨⟨b3, rfl, hc3⟩, hb7⟩; have hb7 : Below w6.heap.size w6 w7 := bstep (by repeat (first | exact Below.refl _ _ | refine Below.drew ?_)) hb7; have N7 := hB6 _ hb7; have hc2 := hc2.later hb7; have X7 := (hb7.block _ (Array.getElem?_eq_some_iff.1 X6).1).trans X6; have x0 : w7.cell? ⟨w4.heap.size, 0, none⟩ = some (.int .i64 b2.now) := obj_cell X7 rfl; have x1 : w7.cell? ⟨w4.heap.size, 1, none⟩ = some (.slice b2.fa b2.fl.length b2.fc) := obj_cell X7 rfl; have x2 : w7.cell? ⟨w4.heap.size, 2, none⟩ = some (.slice b2.ha b2.hl.length b2.hc) := obj_cell X7 rfl)
      | (go_at_call 29; refine (eqBook_copy hc2 hc3 hfl hhl hft).mono ?_; rintro e w8 ⟨rfl, hb8⟩; have N8 := bstep N7 hb8))
    all_goals
      go_wp2
      go_ret
      exact ⟨rfl, N8⟩
  · go_wp2_with fail
    go_ret
    exact ⟨rfl, N1⟩
end Go.Proofs.Ytficfhcmbhlagaa
