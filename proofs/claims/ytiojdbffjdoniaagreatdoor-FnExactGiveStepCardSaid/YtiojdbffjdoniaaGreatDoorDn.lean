import Derived.Test.YtiojdbffjdoniaaGreatDoorMkE
import Derived.Test.YtiojdbffjdoniaaGreatDoorLeast
import Derived.Test.YtiojdbffjdoniaaGreatDoorSm0
namespace Go.Proofs.YtiojdbffjdoniaaGreatDoor
set_option maxRecDepth 100000
set_option maxHeartbeats 1000000
open Go.RowKit Go.Shelf
attribute [local go_sem] Oper.semAt_some
def bM {α : Type} (t sz : Nat) (c : α -> List Value) (w : World) (base : Nat) (v : Value) (l : List α) : Prop :=
 (v = .slice none 0 0 /\ l = []) ∨ ∃ g cap, v = .slice (some ⟨g, 0, none⟩) l.length cap /\ base <= g /\ l.length <= cap /\ bJ t sz c w g cap l l.length
theorem bM.zL {α : Type} {t sz : Nat} {c : α -> List Value} {w w' : World} {base : Nat} {v : Value} {l : List α} (h : bM t sz c w base v l) (hb : Below w.heap.size w w') : bM t sz c w' base v l := by
 rcases h with h | ⟨g, cap, h1, h2, h3, h4⟩
 · exact Or.inl h
 · exact Or.inr ⟨g, cap, h1, h2, h3, h4.zL hb⟩
theorem bM.slice {α : Type} {t sz : Nat} {c : α -> List Value} {w : World} {base : Nat} {v : Value} {l : List α} (h : bM t sz c w base v l) : ∃ ao cap, v = .slice ao l.length cap := by
 rcases h with ⟨h, rfl⟩ | ⟨g, cap, h1, h2, h3, h4⟩
 · exact ⟨none, 0, h⟩
 · exact ⟨_, _, h1⟩
theorem jM {α : Type} {c : α -> List Value} (h : ∀ a, ∀ u ∈ c a, u.oneCell' = true) (l : List α) : ∀ u ∈ aQ c l, u.oneCell' = true := by
 intro u hu; obtain ⟨a, _, ha⟩ := List.mem_flatMap.1 hu; exact h a u ha
theorem NF (f : Fx) : ∀ u ∈ f.cells, u.oneCell' = true := by
 intro u hu
 simp [Fx.cells] at hu
 rcases hu with rfl | rfl | rfl <;> rfl
theorem jD (f : Hx) : ∀ u ∈ f.cells, u.oneCell' = true := by
 intro u hu
 simp [Hx.cells] at hu
 rcases hu with rfl | rfl | rfl <;> rfl
theorem pC (l : List Bx) (ao : Option Addr) (cap : Nat) (w : World) (hX : iL w ao l) (hn : l.length <= 1048576) :
 Calls Tryz.prog 160 #[.slice ao l.length cap] w fun e w' => (∃ v, e = .returned v /\ aF w' w.heap.size v l) /\ Below w.heap.size w w' := by
 obtain ⟨i0, hi, hz0, hz1, hz2⟩ := info_parts Tryz.info89
 cases ao with
 | none =>
  have hl : l = [] := by
   rcases hX with h | ⟨bl, off, e, _⟩
   · exact h
   · cases e
  subst hl
  go_enter Tryz.func160, Tryz.ntmps160
  go_wp2
  go_ret; exact ⟨⟨_, rfl, .inl ⟨rfl, rfl⟩⟩, br _ _⟩
 | some ad =>
  have hnews : ∀ j u, (fL l)[j]? = some u -> w.cell? (ad.add j) = some u := by
   rcases hX with h | ⟨bl, off, e, hc⟩
   · rw [h]; intro j u h; simp [fL] at h
   · cases e; exact C8 hc
  have hown : w.ownsRow w.heap.size 89 6 (.slice none 0 0) 0 [] := World.ownsRow_nil w w.heap.size 89 6
  go_enter Tryz.func160, Tryz.ntmps160
  go_wp2_with (at_builtin; refine wpList_append_own _ rfl (.const (.slice none 0 0)) (.tmp 3) 34 rfl w.heap.size 89 i0 _ 6 48 Tryz.underlying34 hi hz0 hz1 hz2 rfl (by decide) _ _ _ rfl hown ad l.length cap (fL l) rfl (lD l) hnews (AZ l) ?qc3 ?qc4 ?qc5 ?_)
  case qc3 => unfold maxLen; omega
  case qc4 => omega
  case qc5 => simp
  intro v' w1 hown' hgrow _; have hN : Below w.heap.size w w1 := (br w.heap.size w).grown hgrow (nlq _) (fun q hq => by simp [Value.ownBlock] at hq); have HO : Hid (aF w1 w.heap.size v' l) := aF.of_owns (by simpa using hown'); clear hown' hgrow hown; go_wp2
  go_ret; exact ⟨⟨_, rfl, HO.out⟩, hN⟩
def oJ (v : Value) : Prop := ∀ a n c, v = .slice a n c -> c <= maxLen
theorem wU : oJ (.slice none 0 0) := fun a n c e => by cases e; unfold maxLen; omega
theorem oE {w : World} {base : Nat} {e : TypeId} {size : Nat} {v : Value} {n : Nat} {xs : List Value} (h : w.ownsRow base e size v n xs) : oJ v := fun a m c e => by
 obtain ⟨_, ⟨rfl, _⟩ | ⟨g, cap, cur, rfl, _, _, _, h6, _⟩⟩ := h
 · cases e; unfold maxLen; omega
 · cases e; exact h6
theorem FN (l : List Fx) (ao : Option Addr) (cap : Nat) (w : World) (hX : Xs 3 Fx.cells w ao l) (hn : l.length <= 1048576) :
 Calls Tryz.prog 186 #[.slice ao l.length cap] w fun e w' => (∃ v, e = .returned v /\ bM 82 3 Fx.cells w' w.heap.size v l /\ oJ v) /\ Below w.heap.size w w' := by
 obtain ⟨i0, hi, hz0, hz1, hz2⟩ := info_parts Tryz.info82
 cases ao with
 | none =>
  have hl : l = [] := by
   rcases hX with h | ⟨bl, off, e, _⟩
   · exact h
   · cases e
  subst hl
  go_enter Tryz.func186, Tryz.ntmps186
  go_wp2
  go_ret; exact ⟨⟨_, rfl, .inl ⟨rfl, rfl⟩, wU⟩, br _ _⟩
 | some ad =>
  have hnews : ∀ j u, (aQ Fx.cells l)[j]? = some u -> w.cell? (ad.add j) = some u := by
   rcases hX with h | ⟨bl, off, e, hc⟩
   · rw [h]; intro j u h; simp [aQ] at h
   · cases e; exact nX Fx.cells_length (by decide) hc
  have hown : w.ownsRow w.heap.size 82 3 (.slice none 0 0) 0 [] := World.ownsRow_nil w w.heap.size 82 3
  go_enter Tryz.func186, Tryz.ntmps186
  go_wp2_with (at_builtin; refine wpList_append_own _ rfl (.const (.slice none 0 0)) (.tmp 3) 23 rfl w.heap.size 82 i0 _ 3 32 Tryz.underlying23 hi hz0 hz1 hz2 rfl (by decide) _ _ _ rfl hown ad l.length cap (aQ Fx.cells l) rfl (cX Fx.cells_length l) hnews (jM NF l) ?qc3 ?qc4 ?qc5 ?_)
  case qc3 => unfold maxLen; omega
  case qc4 => omega
  case qc5 => simp
  intro v' w1 hown' hgrow _; have hN : Below w.heap.size w w1 := (br w.heap.size w).grown hgrow (nlq _) (fun q hq => by simp [Value.ownBlock] at hq); have HCp : Hid (oJ v') := oE hown'; have HO : Hid (bM 82 3 Fx.cells w1 w.heap.size v' l) := jZ Fx.cells_length (by simpa using hown'); clear hown' hgrow hown; go_wp2
  go_ret; exact ⟨⟨_, rfl, HO.out, HCp.out⟩, hN⟩
theorem FV (l : List Hx) (ao : Option Addr) (cap : Nat) (w : World) (hX : Xs 3 Hx.cells w ao l) (hn : l.length <= 1048576) :
 Calls Tryz.prog 187 #[.slice ao l.length cap] w fun e w' => (∃ v, e = .returned v /\ bM 42 3 Hx.cells w' w.heap.size v l /\ oJ v) /\ Below w.heap.size w w' := by
 obtain ⟨i0, hi, hz0, hz1, hz2⟩ := info_parts Tryz.info42
 cases ao with
 | none =>
  have hl : l = [] := by
   rcases hX with h | ⟨bl, off, e, _⟩
   · exact h
   · cases e
  subst hl
  go_enter Tryz.func187, Tryz.ntmps187
  go_wp2
  go_ret; exact ⟨⟨_, rfl, .inl ⟨rfl, rfl⟩, wU⟩, br _ _⟩
 | some ad =>
  have hnews : ∀ j u, (aQ Hx.cells l)[j]? = some u -> w.cell? (ad.add j) = some u := by
   rcases hX with h | ⟨bl, off, e, hc⟩
   · rw [h]; intro j u h; simp [aQ] at h
   · cases e; exact nX Hx.cells_length (by decide) hc
  have hown : w.ownsRow w.heap.size 42 3 (.slice none 0 0) 0 [] := World.ownsRow_nil w w.heap.size 42 3
  go_enter Tryz.func187, Tryz.ntmps187
  go_wp2_with (at_builtin; refine wpList_append_own _ rfl (.const (.slice none 0 0)) (.tmp 3) 27 rfl w.heap.size 42 i0 _ 3 64 Tryz.underlying27 hi hz0 hz1 hz2 rfl (by decide) _ _ _ rfl hown ad l.length cap (aQ Hx.cells l) rfl (cX Hx.cells_length l) hnews (jM jD l) ?qc3 ?qc4 ?qc5 ?_)
  case qc3 => unfold maxLen; omega
  case qc4 => omega
  case qc5 => simp
  intro v' w1 hown' hgrow _; have hN : Below w.heap.size w w1 := (br w.heap.size w).grown hgrow (nlq _) (fun q hq => by simp [Value.ownBlock] at hq); have HCp : Hid (oJ v') := oE hown'; have HO : Hid (bM 42 3 Hx.cells w1 w.heap.size v' l) := jZ Hx.cells_length (by simpa using hown'); clear hown' hgrow hown; go_wp2
  go_ret; exact ⟨⟨_, rfl, HO.out, HCp.out⟩, hN⟩
end Go.Proofs.YtiojdbffjdoniaaGreatDoor
namespace Go.Proofs.YtiojdbffjdoniaaGreatDoor
set_option maxRecDepth 100000
open Go.RowKit
theorem aI.map {β : Type} {l m : List Hx} (h : aI l m) (f : Hx -> β) (hf : ∀ a b : Hx, a.Like b -> f a = f b) : l.map f = m.map f :=
 List.ext_getElem (by simp [h.len]) (fun i h1 h2 => by simp only [List.getElem_map]; exact hf _ _ (h.like i (by simpa using h1)))
theorem uM {α : Type} (nm : α -> ByteArray) : ∀ l : List α, jV nm l = jV (fun x => x) (l.map nm)
 | [] => rfl
 | [_] => rfl
 | a :: b :: r => by simp only [jV, List.map_cons]; rw [uM nm (b :: r)]; rfl
theorem s4 {l m : List Hx} (h : aI l m) : bP Hx.n l = bP Hx.n m := by
 have e := h.map Hx.n (fun _ _ g => g.n); have e2 := h.map (fun x => bW x.n) (fun _ _ g => by rw [g.n]); rw [bP, bP, uM, uM Hx.n m, e]
 congr 1
 have a1 : ∀ l : List Hx, (l.all fun x => bW x.n) = (l.map (fun x => bW x.n)).all (fun x => x) := fun l => by rw [List.all_map]; rfl
 rw [a1 l, a1 m, e2]
theorem uO {l m : List Hx} (h : aI l m) (fl : List Fx) (now : Int) : l.all (dQ fl now) = m.all (dQ fl now) := by
 have e := h.map (dQ fl now) (fun _ _ g => by rw [dQ, dQ, g.t, g.x]); have a1 : ∀ l : List Hx, l.all (dQ fl now) = (l.map (dQ fl now)).all (fun x => x) := fun l => by rw [List.all_map]; rfl
 rw [a1 l, a1 m, e]
theorem uQ {a b c d : Hx} (h : a.Like b) (g : c.Like d) : dN a c = dN b d := by rw [dN, dN, h.t, h.x, g.t, g.x]
theorem uI {l m : List Hx} (h : aI l m) : g9 l l.length = g9 m m.length := by
 rw [Bool.eq_iff_iff, nT l _ (nlq _), nT m _ (nlq _)]; have hl := h.len
 constructor
 · intro g i j hj hm hi
   rw [← uQ (h.like i (by omega)) (h.like j (by omega))]; exact g i j (by omega) (by omega) hi
 · intro g i j hj hm hi
   rw [uQ (h.like i (by omega)) (h.like j (by omega))]; exact g i j (by omega) (by omega) hi
theorem kL {w : World} {b b' : Bk} (h : eN w b b') : aS b' = aS b := by
 unfold aS iH; rw [h.now, h.fl, s4 h.likes, uO h.likes, uI h.likes, h.likes.len]
theorem eN.zL {w w' : World} {b b' : Bk} (h : eN w b b') (hb : Below w.heap.size w w') : eN w' b b' := by
 obtain ⟨q, e, hc⟩ := h.hs; exact ⟨h.now, h.fl, h.fc, h.fs.zL hb, ⟨q, e, fun i hi => (hc i hi).zL hb⟩, h.likes, fun x hx => (h.inn x hx).zL hb⟩
theorem eN.xs {w : World} {b b' : Bk} (h : eN w b b') : Xs 3 Hx.cells w b'.ha b'.hl := by
 obtain ⟨q, e, hc⟩ := h.hs; exact .inr ⟨q, 0, e, hc⟩
theorem aI.symm {l m : List Hx} (h : aI l m) : aI m l := ⟨h.len.symm, fun k hk => ⟨(h.like k (by have := h.len; omega)).n.symm, (h.like k (by have := h.len; omega)).t.symm, (h.like k (by have := h.len; omega)).x.symm⟩⟩
theorem aI.trans {l m n : List Hx} (h : aI l m) (g : aI m n) : aI l n := ⟨g.len.trans h.len, fun k hk => by
 have a := h.like k hk; have c := g.like k (by have := h.len; omega)
 exact ⟨a.n.trans c.n, a.t.trans c.t, a.x.trans c.x⟩⟩
theorem vY {b b' : Bk} {w : World} (h : eN w b b') (hnf : b.fl.length <= 1048576) (hs : ∀ f ∈ b.fl, f.n.size <= 9223372036854775807) (hnh : b.hl.length <= 1048576) (hfit : ∀ h ∈ b.hl, h.Fit) :
 Calls Tryz.prog 28 #[b'.val] w fun e w' => e = .returned (.bool (aS b)) /\ Below w.heap.size w w' := by
 obtain ⟨q, e, hc⟩ := h.hs; rw [← kL h]; exact oS b' q 0 e w h.fs (by rw [h.fl]; exact hnf) hc (by rw [h.likes.len]; exact hnh) h.inn (h.likes.fit hfit) (by rw [h.fl]; exact hs)
theorem AH {b b2 b3 : Bk} {w : World} (h : eN w b b2) (g : eN w b b3) (hnf : b.fl.length <= 1048576) (hnh : b.hl.length <= 1048576) (hfit : ∀ h ∈ b.hl, h.Fit) :
 Calls Tryz.prog 17 #[b2.val, b3.val] w fun e w' => e = .returned (.bool true) /\ Below w.heap.size w w' := by
 have e1 : b3.now = b2.now := g.now.trans h.now.symm; have e2 : b3.fl = b2.fl := g.fl.trans h.fl.symm; have hx := g.fs; rw [e2] at hx; have := sH b2 b3.fa b3.fc b3.ha b3.hl b3.hc w h.fs hx (by rw [h.fl]; exact hnf) h.xs g.xs (by rw [h.likes.len]; exact hnh) (fun x hx => ⟨h.inn x hx, h.likes.fit hfit x hx⟩) g.inn (h.likes.symm.trans g.likes); rw [← e1, ← e2] at this; exact this
abbrev Bk.objL (b : Bk) : Obj := .cells #[.int .i64 b.now, .slice b.fa b.fl.length b.fc, .slice b.ha b.hl.length b.hc] 49
def E8 (b b2 : Bk) (j : Nat) (v : Value) (w : World) : Prop :=
 match j with
 | 0 => v = b2.val
 | 1 => v = b.val
 | 2 => ∃ b3 : Bk, v = b3.val /\ eN w b b3
 | 3 => v = .bool true
 | _ => True
theorem E8.zL {b b2 : Bk} (j : Nat) (v : Value) (w w' : World) (h : E8 b b2 j v w) (hb : Below w.heap.size w w') : E8 b b2 j v w' := by
 unfold E8 at h ⊢
 split
 all_goals first
  | exact h
  | (obtain ⟨b1, e, hc⟩ := h; exact ⟨b1, e, eN.zL hc hb⟩)
  | trivial
theorem aY {w w' : World} {k : Nat} {o : Obj} (h : w.heap[k]? = some o) (hb : Below w.heap.size w w') : w'.heap[k]? = some o := (hb.block _ (bH h)).trans h
theorem cA {S : Nat -> Prop} {w w' : World} {k : Nat} {o : Obj} (h : w.heap[k]? = some o) (hb : bC S w w') (hs : ¬ S k) : w'.heap[k]? = some o := (hb.block _ (bH h) hs).trans h
end Go.Proofs.YtiojdbffjdoniaaGreatDoor
