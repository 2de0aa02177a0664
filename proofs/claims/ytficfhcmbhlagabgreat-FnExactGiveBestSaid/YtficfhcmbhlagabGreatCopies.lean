import Derived.Test.YtficfhcmbhlagabGreatTo
import Derived.Test.YtficfhcmbhlagabGreatTubes
namespace Go.Proofs.YtficfhcmbhlagabGreat
open Go.RowKit
set_option maxRecDepth 100000 in
theorem Likes.map {β : Type} {l m : List Hx} (h : Likes l m) (f : Hx → β) (hf : ∀ a b : Hx, a.Like b → f a = f b) : l.map f = m.map f :=
  List.ext_getElem (by simp [h.len]) (fun i h1 h2 => by simp only [List.getElem_map]; exact hf _ _ (h.like i (by simpa using h1)))
set_option maxRecDepth 100000 in
theorem ascG_map {α : Type} (nm : α → ByteArray) : ∀ l : List α, ascG nm l = ascG (fun x => x) (l.map nm)
  | [] => rfl
  | [_] => rfl
  | a :: b :: r => by simp only [ascG, List.map_cons]; rw [ascG_map nm (b :: r)]; rfl
set_option maxRecDepth 100000 in
theorem namesG_like {l m : List Hx} (h : Likes l m) : namesG Hx.n l = namesG Hx.n m := by
  have e := h.map Hx.n (fun _ _ g => g.n)
  have e2 := h.map (fun x => nameB x.n) (fun _ _ g => by rw [g.n])
  rw [namesG, namesG, ascG_map, ascG_map Hx.n m, e]
  congr 1
  have a1 : ∀ l : List Hx, (l.all fun x => nameB x.n) = (l.map (fun x => nameB x.n)).all (fun x => x) := fun l => by rw [List.all_map]; rfl
  rw [a1 l, a1 m, e2]
set_option maxRecDepth 100000 in
theorem tubes_like {l m : List Hx} (h : Likes l m) (fl : List Fx) (now : Int) : l.all (tubesB fl now) = m.all (tubesB fl now) := by
  have e := h.map (tubesB fl now) (fun _ _ g => by rw [tubesB, tubesB, g.t, g.x])
  have a1 : ∀ l : List Hx, l.all (tubesB fl now) = (l.map (tubesB fl now)).all (fun x => x) := fun l => by rw [List.all_map]; rfl
  rw [a1 l, a1 m, e]
set_option maxRecDepth 100000 in
theorem meets_like {a b c d : Hx} (h : a.Like b) (g : c.Like d) : meetsB a c = meetsB b d := by rw [meetsB, meetsB, h.t, h.x, g.t, g.x]
set_option maxRecDepth 100000 in
theorem apart_like {l m : List Hx} (h : Likes l m) : apartTo l l.length = apartTo m m.length := by
  rw [Bool.eq_iff_iff, apart_iff l _ (Nat.le_refl _), apart_iff m _ (Nat.le_refl _)]
  have hl := h.len
  constructor
  · intro g i j hj hm hi
    rw [← meets_like (h.like i (by omega)) (h.like j (by omega))]
    exact g i j (by omega) (by omega) hi
  · intro g i j hj hm hi
    rw [meets_like (h.like i (by omega)) (h.like j (by omega))]
    exact g i j (by omega) (by omega) hi
set_option maxRecDepth 100000 in
theorem book_like {w : World} {b b' : Bk} (h : Copied w b b') : bookB b' = bookB b := by
  unfold bookB heldsB
  rw [h.now, h.fl, namesG_like h.likes, tubes_like h.likes, apart_like h.likes, h.likes.len]
set_option maxRecDepth 100000 in
theorem Copied.later {w w' : World} {b b' : Bk} (h : Copied w b b') (hb : Below w.heap.size w w') : Copied w' b b' := by
  obtain ⟨q, e, hc⟩ := h.hs
  exact ⟨h.now, h.fl, h.fc, h.fs.later hb, ⟨q, e, fun i hi => (hc i hi).later hb⟩, h.likes, fun x hx => (h.inn x hx).later hb⟩
set_option maxRecDepth 100000 in
theorem Copied.xs {w : World} {b b' : Bk} (h : Copied w b b') : Xs 3 Hx.cells w b'.ha b'.hl := by
  obtain ⟨q, e, hc⟩ := h.hs
  exact .inr ⟨q, 0, e, hc⟩
set_option maxRecDepth 100000 in
theorem Likes.symm {l m : List Hx} (h : Likes l m) : Likes m l := ⟨h.len.symm, fun k hk => ⟨(h.like k (by have := h.len; omega)).n.symm, (h.like k (by have := h.len; omega)).t.symm, (h.like k (by have := h.len; omega)).x.symm⟩⟩
set_option maxRecDepth 100000 in
theorem Likes.trans {l m n : List Hx} (h : Likes l m) (g : Likes m n) : Likes l n := ⟨g.len.trans h.len, fun k hk => by
  have a := h.like k hk
  have c := g.like k (by have := h.len; omega)
  exact ⟨a.n.trans c.n, a.t.trans c.t, a.x.trans c.x⟩⟩
set_option maxRecDepth 100000 in
theorem specBook_copy {b b' : Bk} {w : World} (h : Copied w b b') (hnf : b.fl.length ≤ 1048576) (hs : ∀ f ∈ b.fl, f.n.size ≤ 9223372036854775807) (hnh : b.hl.length ≤ 1048576) (hfit : ∀ h ∈ b.hl, h.Fit) :
    Calls Tryz.prog 53 #[b'.val] w fun e w' => e = .returned (.bool (bookB b)) ∧ Below w.heap.size w w' := by
  obtain ⟨q, e, hc⟩ := h.hs
  rw [← book_like h]
  exact specBook_loop b' q 0 e w h.fs (by rw [h.fl]; exact hnf) hc (by rw [h.likes.len]; exact hnh) h.inn (h.likes.fit hfit) (by rw [h.fl]; exact hs)
set_option maxRecDepth 100000 in
theorem implBook_copy {b b' : Bk} {w : World} (h : Copied w b b') (hnf : b.fl.length ≤ 1048576) (hs : ∀ f ∈ b.fl, f.n.size ≤ 9223372036854775807) (hnh : b.hl.length ≤ 1048576) (hfit : ∀ h ∈ b.hl, h.Fit) :
    Calls Tryz.prog 73 #[b'.val] w fun e w' => e = .returned (.bool (bookB b)) ∧ Below w.heap.size w w' := by
  rw [← book_like h]
  exact implBook_any b' w h.fs (by rw [h.fl]; exact hnf) (by rw [h.fl, h.fc]; exact Nat.le_refl _) (by rw [h.fc]; exact Nat.le_trans hnf (by decide)) (by rw [h.fl]; exact hs) h.xs (by rw [h.likes.len]; exact hnh) (fun x hx => ⟨h.inn x hx, h.likes.fit hfit x hx⟩)
set_option maxRecDepth 100000 in
theorem eqBook_copy {b b2 b3 : Bk} {w : World} (h : Copied w b b2) (g : Copied w b b3) (hnf : b.fl.length ≤ 1048576) (hnh : b.hl.length ≤ 1048576) (hfit : ∀ h ∈ b.hl, h.Fit) :
    Calls Tryz.prog 14 #[b2.val, b3.val] w fun e w' => e = .returned (.bool true) ∧ Below w.heap.size w w' := by
  have e1 : b3.now = b2.now := g.now.trans h.now.symm
  have e2 : b3.fl = b2.fl := g.fl.trans h.fl.symm
  have hx := g.fs
  rw [e2] at hx
  have := eqBook_like b2 b3.fa b3.fc b3.ha b3.hl b3.hc w h.fs hx (by rw [h.fl]; exact hnf) h.xs g.xs (by rw [h.likes.len]; exact hnh) (fun x hx => ⟨h.inn x hx, h.likes.fit hfit x hx⟩) g.inn (h.likes.symm.trans g.likes)
  rw [← e1, ← e2] at this
  exact this
end Go.Proofs.YtficfhcmbhlagabGreat
