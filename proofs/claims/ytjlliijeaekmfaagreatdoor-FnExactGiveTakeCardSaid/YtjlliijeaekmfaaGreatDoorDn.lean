import Derived.Test.YtjlliijeaekmfaaGreatDoorMkE
import Derived.Test.YtjlliijeaekmfaaGreatDoorSq
import Derived.Test.YtjlliijeaekmfaaGreatDoorCan
import Derived.Test.YtjlliijeaekmfaaGreatDoorNamesH
import Derived.Test.YtjlliijeaekmfaaGreatDoorTurn
import Derived.Test.YtjlliijeaekmfaaGreatDoorTubes
import Derived.Test.YtjlliijeaekmfaaGreatDoorAny
import Derived.Test.YtjlliijeaekmfaaGreatDoorMarkT
namespace Go.Proofs.YtjlliijeaekmfaaGreatDoor
set_option maxRecDepth 100000
set_option maxHeartbeats 1000000
open Go.RowKit Go.Shelf
attribute [local go_sem] Oper.semAt_some
def OwnX {α : Type} (t sz : Nat) (c : α -> List Value) (w : World) (base : Nat) (v : Value) (l : List α) : Prop :=
 (v = .slice none 0 0 /\ l = []) ∨ ∃ g cap, v = .slice (some ⟨g, 0, none⟩) l.length cap /\ base <= g /\ l.length <= cap /\ RowX t sz c w g cap l l.length
theorem OwnX.later {α : Type} {t sz : Nat} {c : α -> List Value} {w w' : World} {base : Nat} {v : Value} {l : List α} (h : OwnX t sz c w base v l) (hb : Below w.heap.size w w') : OwnX t sz c w' base v l := by
 rcases h with h | ⟨g, cap, h1, h2, h3, h4⟩
 · exact Or.inl h
 · exact Or.inr ⟨g, cap, h1, h2, h3, h4.later hb⟩
theorem OwnX.slice {α : Type} {t sz : Nat} {c : α -> List Value} {w : World} {base : Nat} {v : Value} {l : List α} (h : OwnX t sz c w base v l) : ∃ ao cap, v = .slice ao l.length cap := by
 rcases h with ⟨h, rfl⟩ | ⟨g, cap, h1, h2, h3, h4⟩
 · exact ⟨none, 0, h⟩
 · exact ⟨_, _, h1⟩
theorem flatX_one' {α : Type} {c : α -> List Value} (h : ∀ a, ∀ u ∈ c a, u.oneCell' = true) (l : List α) : ∀ u ∈ flatX c l, u.oneCell' = true := by
 intro u hu; obtain ⟨a, _, ha⟩ := List.mem_flatMap.1 hu; exact h a u ha
theorem fx_one (f : Fx) : ∀ u ∈ f.cells, u.oneCell' = true := by
 intro u hu
 simp [Fx.cells] at hu
 rcases hu with rfl | rfl | rfl <;> rfl
theorem hx_one (f : Hx) : ∀ u ∈ f.cells, u.oneCell' = true := by
 intro u hu
 simp [Hx.cells] at hu
 rcases hu with rfl | rfl | rfl <;> rfl
theorem freshB_any (l : List Bx) (ao : Option Addr) (cap : Nat) (w : World) (hX : Bxs w ao l) (hn : l.length <= 1048576) :
 Calls Tryz.prog 113 #[.slice ao l.length cap] w fun e w' => (∃ v, e = .returned v /\ OwnBx w' w.heap.size v l) /\ Below w.heap.size w w' := by
 obtain ⟨i0, hi, hz0, hz1, hz2⟩ := info_parts Tryz.info111
 cases ao with
 | none =>
  have hl : l = [] := by
   rcases hX with h | ⟨bl, off, e, _⟩
   · exact h
   · cases e
  subst hl
  go_enter Tryz.func113, Tryz.ntmps113
  go_wp2
  go_ret; exact ⟨⟨_, rfl, .inl ⟨rfl, rfl⟩⟩, Below.refl _ _⟩
 | some ad =>
  have hnews : ∀ j u, (flat l)[j]? = some u -> w.cell? (ad.add j) = some u := by
   rcases hX with h | ⟨bl, off, e, hc⟩
   · rw [h]; intro j u h; simp [flat] at h
   · cases e; exact bxs_flat hc
  have hown : w.ownsRow w.heap.size 111 6 (.slice none 0 0) 0 [] := World.ownsRow_nil w w.heap.size 111 6
  go_enter Tryz.func113, Tryz.ntmps113
  go_wp2_with (at_builtin; refine wpList_append_own _ rfl (.const (.slice none 0 0)) (.tmp 3) 55 rfl w.heap.size 111 i0 _ 6 48 Tryz.underlying55 hi hz0 hz1 hz2 rfl (by decide) _ _ _ rfl hown ad l.length cap (flat l) rfl (flat_length l) hnews (flat_one l) ?qc3 ?qc4 ?qc5 ?_)
  case qc3 => unfold maxLen; omega
  case qc4 => omega
  case qc5 => simp
  intro v' w1 hown' hgrow _; have hN : Below w.heap.size w w1 := (Below.refl w.heap.size w).grown hgrow (Nat.le_refl _) (fun q hq => by simp [Value.ownBlock] at hq); have HO : Hid (OwnBx w1 w.heap.size v' l) := OwnBx.of_owns (by simpa using hown'); clear hown' hgrow hown; go_wp2
  go_ret; exact ⟨⟨_, rfl, HO.out⟩, hN⟩
def CapOk (v : Value) : Prop := ∀ a n c, v = .slice a n c -> c <= maxLen
theorem capOk_nil : CapOk (.slice none 0 0) := fun a n c e => by cases e; unfold maxLen; omega
theorem capOk_own {w : World} {base : Nat} {e : TypeId} {size : Nat} {v : Value} {n : Nat} {xs : List Value} (h : w.ownsRow base e size v n xs) : CapOk v := fun a m c e => by
 obtain ⟨_, ⟨rfl, _⟩ | ⟨g, cap, cur, rfl, _, _, _, h6, _⟩⟩ := h
 · cases e; unfold maxLen; omega
 · cases e; exact h6
theorem freshF_any (l : List Fx) (ao : Option Addr) (cap : Nat) (w : World) (hX : Xs 3 Fx.cells w ao l) (hn : l.length <= 1048576) :
 Calls Tryz.prog 176 #[.slice ao l.length cap] w fun e w' => (∃ v, e = .returned v /\ OwnX 150 3 Fx.cells w' w.heap.size v l /\ CapOk v) /\ Below w.heap.size w w' := by
 obtain ⟨i0, hi, hz0, hz1, hz2⟩ := info_parts Tryz.info150
 cases ao with
 | none =>
  have hl : l = [] := by
   rcases hX with h | ⟨bl, off, e, _⟩
   · exact h
   · cases e
  subst hl
  go_enter Tryz.func176, Tryz.ntmps176
  go_wp2
  go_ret; exact ⟨⟨_, rfl, .inl ⟨rfl, rfl⟩, capOk_nil⟩, Below.refl _ _⟩
 | some ad =>
  have hnews : ∀ j u, (flatX Fx.cells l)[j]? = some u -> w.cell? (ad.add j) = some u := by
   rcases hX with h | ⟨bl, off, e, hc⟩
   · rw [h]; intro j u h; simp [flatX] at h
   · cases e; exact xs_flat Fx.cells_length (by decide) hc
  have hown : w.ownsRow w.heap.size 150 3 (.slice none 0 0) 0 [] := World.ownsRow_nil w w.heap.size 150 3
  go_enter Tryz.func176, Tryz.ntmps176
  go_wp2_with (at_builtin; refine wpList_append_own _ rfl (.const (.slice none 0 0)) (.tmp 3) 32 rfl w.heap.size 150 i0 _ 3 32 Tryz.underlying32 hi hz0 hz1 hz2 rfl (by decide) _ _ _ rfl hown ad l.length cap (flatX Fx.cells l) rfl (flatX_length Fx.cells_length l) hnews (flatX_one' fx_one l) ?qc3 ?qc4 ?qc5 ?_)
  case qc3 => unfold maxLen; omega
  case qc4 => omega
  case qc5 => simp
  intro v' w1 hown' hgrow _; have hN : Below w.heap.size w w1 := (Below.refl w.heap.size w).grown hgrow (Nat.le_refl _) (fun q hq => by simp [Value.ownBlock] at hq); have HCp : Hid (CapOk v') := capOk_own hown'; have HO : Hid (OwnX 150 3 Fx.cells w1 w.heap.size v' l) := own_rowX Fx.cells_length (by simpa using hown'); clear hown' hgrow hown; go_wp2
  go_ret; exact ⟨⟨_, rfl, HO.out, HCp.out⟩, hN⟩
theorem freshH_any (l : List Hx) (ao : Option Addr) (cap : Nat) (w : World) (hX : Xs 3 Hx.cells w ao l) (hn : l.length <= 1048576) :
 Calls Tryz.prog 177 #[.slice ao l.length cap] w fun e w' => (∃ v, e = .returned v /\ OwnX 87 3 Hx.cells w' w.heap.size v l /\ CapOk v) /\ Below w.heap.size w w' := by
 obtain ⟨i0, hi, hz0, hz1, hz2⟩ := info_parts Tryz.info87
 cases ao with
 | none =>
  have hl : l = [] := by
   rcases hX with h | ⟨bl, off, e, _⟩
   · exact h
   · cases e
  subst hl
  go_enter Tryz.func177, Tryz.ntmps177
  go_wp2
  go_ret; exact ⟨⟨_, rfl, .inl ⟨rfl, rfl⟩, capOk_nil⟩, Below.refl _ _⟩
 | some ad =>
  have hnews : ∀ j u, (flatX Hx.cells l)[j]? = some u -> w.cell? (ad.add j) = some u := by
   rcases hX with h | ⟨bl, off, e, hc⟩
   · rw [h]; intro j u h; simp [flatX] at h
   · cases e; exact xs_flat Hx.cells_length (by decide) hc
  have hown : w.ownsRow w.heap.size 87 3 (.slice none 0 0) 0 [] := World.ownsRow_nil w w.heap.size 87 3
  go_enter Tryz.func177, Tryz.ntmps177
  go_wp2_with (at_builtin; refine wpList_append_own _ rfl (.const (.slice none 0 0)) (.tmp 3) 33 rfl w.heap.size 87 i0 _ 3 64 Tryz.underlying33 hi hz0 hz1 hz2 rfl (by decide) _ _ _ rfl hown ad l.length cap (flatX Hx.cells l) rfl (flatX_length Hx.cells_length l) hnews (flatX_one' hx_one l) ?qc3 ?qc4 ?qc5 ?_)
  case qc3 => unfold maxLen; omega
  case qc4 => omega
  case qc5 => simp
  intro v' w1 hown' hgrow _; have hN : Below w.heap.size w w1 := (Below.refl w.heap.size w).grown hgrow (Nat.le_refl _) (fun q hq => by simp [Value.ownBlock] at hq); have HCp : Hid (CapOk v') := capOk_own hown'; have HO : Hid (OwnX 87 3 Hx.cells w1 w.heap.size v' l) := own_rowX Hx.cells_length (by simpa using hown'); clear hown' hgrow hown; go_wp2
  go_ret; exact ⟨⟨_, rfl, HO.out, HCp.out⟩, hN⟩
end Go.Proofs.YtjlliijeaekmfaaGreatDoor
namespace Go.Proofs.YtjlliijeaekmfaaGreatDoor
open Go.RowKit
theorem objc {w : World} {z j : Nat} {cs : Array Value} {t : TypeId} {v : Value} (h : w.heap[z]? = some (.cells cs t)) (hj : cs[j]? = some v) : w.cell? ⟨z, j, none⟩ = some v := by simp [World.cell?, h, hj]
theorem OwnBx.weak {w : World} {base base' : Nat} {v : Value} {l : List Bx} (h : OwnBx w base v l) (hb : base' <= base) : OwnBx w base' v l := by
 rcases h with h | ⟨g, cap, h1, h2, h3, h4⟩
 · exact .inl h
 · exact .inr ⟨g, cap, h1, by omega, h3, h4⟩
abbrev Bk.obj (b : Bk) : Obj := .cells #[.int .i64 b.now, .slice b.fa b.fl.length b.fc, .slice b.ha b.hl.length b.hc] 35
end Go.Proofs.YtjlliijeaekmfaaGreatDoor
namespace Go.Proofs.YtjlliijeaekmfaaGreatDoor
set_option maxRecDepth 100000
open Go.RowKit
theorem Likes.map {β : Type} {l m : List Hx} (h : Likes l m) (f : Hx -> β) (hf : ∀ a b : Hx, a.Like b -> f a = f b) : l.map f = m.map f :=
 List.ext_getElem (by simp [h.len]) (fun i h1 h2 => by simp only [List.getElem_map]; exact hf _ _ (h.like i (by simpa using h1)))
theorem ascG_map {α : Type} (nm : α -> ByteArray) : ∀ l : List α, ascG nm l = ascG (fun x => x) (l.map nm)
 | [] => rfl
 | [_] => rfl
 | a :: b :: r => by simp only [ascG, List.map_cons]; rw [ascG_map nm (b :: r)]; rfl
theorem namesG_like {l m : List Hx} (h : Likes l m) : namesG Hx.n l = namesG Hx.n m := by
 have e := h.map Hx.n (fun _ _ g => g.n); have e2 := h.map (fun x => nameB x.n) (fun _ _ g => by rw [g.n]); rw [namesG, namesG, ascG_map, ascG_map Hx.n m, e]
 congr 1
 have a1 : ∀ l : List Hx, (l.all fun x => nameB x.n) = (l.map (fun x => nameB x.n)).all (fun x => x) := fun l => by rw [List.all_map]; rfl
 rw [a1 l, a1 m, e2]
theorem tubes_like {l m : List Hx} (h : Likes l m) (fl : List Fx) (now : Int) : l.all (tubesB fl now) = m.all (tubesB fl now) := by
 have e := h.map (tubesB fl now) (fun _ _ g => by rw [tubesB, tubesB, g.t, g.x]); have a1 : ∀ l : List Hx, l.all (tubesB fl now) = (l.map (tubesB fl now)).all (fun x => x) := fun l => by rw [List.all_map]; rfl
 rw [a1 l, a1 m, e]
theorem meets_like {a b c d : Hx} (h : a.Like b) (g : c.Like d) : meetsB a c = meetsB b d := by rw [meetsB, meetsB, h.t, h.x, g.t, g.x]
theorem apart_like {l m : List Hx} (h : Likes l m) : apartTo l l.length = apartTo m m.length := by
 rw [Bool.eq_iff_iff, apart_iff l _ (Nat.le_refl _), apart_iff m _ (Nat.le_refl _)]; have hl := h.len
 constructor
 · intro g i j hj hm hi
   rw [← meets_like (h.like i (by omega)) (h.like j (by omega))]; exact g i j (by omega) (by omega) hi
 · intro g i j hj hm hi
   rw [meets_like (h.like i (by omega)) (h.like j (by omega))]; exact g i j (by omega) (by omega) hi
theorem book_like {w : World} {b b' : Bk} (h : Copied w b b') : bookB b' = bookB b := by
 unfold bookB heldsB; rw [h.now, h.fl, namesG_like h.likes, tubes_like h.likes, apart_like h.likes, h.likes.len]
theorem Copied.later {w w' : World} {b b' : Bk} (h : Copied w b b') (hb : Below w.heap.size w w') : Copied w' b b' := by
 obtain ⟨q, e, hc⟩ := h.hs; exact ⟨h.now, h.fl, h.fc, h.fs.later hb, ⟨q, e, fun i hi => (hc i hi).later hb⟩, h.likes, fun x hx => (h.inn x hx).later hb⟩
theorem Copied.xs {w : World} {b b' : Bk} (h : Copied w b b') : Xs 3 Hx.cells w b'.ha b'.hl := by
 obtain ⟨q, e, hc⟩ := h.hs; exact .inr ⟨q, 0, e, hc⟩
theorem Likes.symm {l m : List Hx} (h : Likes l m) : Likes m l := ⟨h.len.symm, fun k hk => ⟨(h.like k (by have := h.len; omega)).n.symm, (h.like k (by have := h.len; omega)).t.symm, (h.like k (by have := h.len; omega)).x.symm⟩⟩
theorem Likes.trans {l m n : List Hx} (h : Likes l m) (g : Likes m n) : Likes l n := ⟨g.len.trans h.len, fun k hk => by
 have a := h.like k hk; have c := g.like k (by have := h.len; omega)
 exact ⟨a.n.trans c.n, a.t.trans c.t, a.x.trans c.x⟩⟩
theorem specBook_copy {b b' : Bk} {w : World} (h : Copied w b b') (hnf : b.fl.length <= 1048576) (hs : ∀ f ∈ b.fl, f.n.size <= 9223372036854775807) (hnh : b.hl.length <= 1048576) (hfit : ∀ h ∈ b.hl, h.Fit) :
 Calls Tryz.prog 40 #[b'.val] w fun e w' => e = .returned (.bool (bookB b)) /\ Below w.heap.size w w' := by
 obtain ⟨q, e, hc⟩ := h.hs; rw [← book_like h]; exact specBook_loop b' q 0 e w h.fs (by rw [h.fl]; exact hnf) hc (by rw [h.likes.len]; exact hnh) h.inn (h.likes.fit hfit) (by rw [h.fl]; exact hs)
theorem eqBook_copy {b b2 b3 : Bk} {w : World} (h : Copied w b b2) (g : Copied w b b3) (hnf : b.fl.length <= 1048576) (hnh : b.hl.length <= 1048576) (hfit : ∀ h ∈ b.hl, h.Fit) :
 Calls Tryz.prog 14 #[b2.val, b3.val] w fun e w' => e = .returned (.bool true) /\ Below w.heap.size w w' := by
 have e1 : b3.now = b2.now := g.now.trans h.now.symm; have e2 : b3.fl = b2.fl := g.fl.trans h.fl.symm; have hx := g.fs; rw [e2] at hx; have := eqBook_like b2 b3.fa b3.fc b3.ha b3.hl b3.hc w h.fs hx (by rw [h.fl]; exact hnf) h.xs g.xs (by rw [h.likes.len]; exact hnh) (fun x hx => ⟨h.inn x hx, h.likes.fit hfit x hx⟩) g.inn (h.likes.symm.trans g.likes); rw [← e1, ← e2] at this; exact this
end Go.Proofs.YtjlliijeaekmfaaGreatDoor
namespace Go.Proofs.YtjlliijeaekmfaaGreatDoor
open Go.RowKit
abbrev Bk.objL (b : Bk) : Obj := .cells #[.int .i64 b.now, .slice b.fa b.fl.length b.fc, .slice b.ha b.hl.length b.hc] 25
def E8 (b b2 : Bk) (j : Nat) (v : Value) (w : World) : Prop :=
 match j with
 | 0 => v = b2.val
 | 1 => v = b.val
 | 2 => ∃ b3 : Bk, v = b3.val /\ Copied w b b3
 | 3 => v = .bool true
 | _ => True
theorem E8.later {b b2 : Bk} (j : Nat) (v : Value) (w w' : World) (h : E8 b b2 j v w) (hb : Below w.heap.size w w') : E8 b b2 j v w' := by
 unfold E8 at h ⊢
 split
 all_goals first
  | exact h
  | (obtain ⟨b1, e, hc⟩ := h; exact ⟨b1, e, Copied.later hc hb⟩)
  | trivial
theorem blk {w w' : World} {k : Nat} {o : Obj} (h : w.heap[k]? = some o) (hb : Below w.heap.size w w') : w'.heap[k]? = some o := (hb.block _ (alt h)).trans h
theorem blk_but {S : Nat -> Prop} {w w' : World} {k : Nat} {o : Obj} (h : w.heap[k]? = some o) (hb : But S w w') (hs : ¬ S k) : w'.heap[k]? = some o := (hb.block _ (alt h) hs).trans h
end Go.Proofs.YtjlliijeaekmfaaGreatDoor
