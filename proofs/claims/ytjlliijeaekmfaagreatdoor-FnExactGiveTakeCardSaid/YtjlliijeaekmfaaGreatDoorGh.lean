import Derived.Test.YtjlliijeaekmfaaGreatDoorGg
import Derived.Test.YtjlliijeaekmfaaGreatDoorCh14
import Derived.Test.YtjlliijeaekmfaaGreatDoorAny
import Derived.Test.YtjlliijeaekmfaaGreatDoorDn
import Derived.Test.YtjlliijeaekmfaaGreatDoorMarkT
import Derived.Test.YtjlliijeaekmfaaGreatDoorWf
namespace Go.Proofs.YtjlliijeaekmfaaGreatDoor
open Go.RowKit
theorem book_like2 {b b' : Bk} (hn : b'.now = b.now) (hf : b'.fl = b.fl) (h : Likes b.hl b'.hl) : bookB b' = bookB b := by
 unfold bookB heldsB; rw [hn, hf, namesG_like h, tubes_like h, apart_like h, h.len]
theorem chL_like2 {b b' : Bk} (hn : b'.now = b.now) (hf : b'.fl = b.fl) (h : Likes b.hl b'.hl) (x : Wx) : chL b' x = chL b x := by
 have e0 : ∀ d i k, chB b' x d i k = chB b x d i k := fun d i k => by
  unfold chB; rw [hf, hn, freeL_like3 h]
 have e1 : ∀ (d i : Int) (k : Nat), levC b' x d i k = levC b x d i k := fun d i k => by
  unfold levC; rw [show (fun (j : Nat) => chB b' x d i (j : Int)) = fun (j : Nat) => chB b x d i (j : Int) from funext fun j => e0 d i j]
 have e2 : ∀ (d : Int) (i : Nat), wayC b' x d i = wayC b x d i := fun d i => by
  unfold wayC; rw [show (fun (j : Nat) => levC b' x d (j : Int) x.ll.length) = fun (j : Nat) => levC b x d (j : Int) x.ll.length from funext fun j => e1 d j _]
 have e3 : ∀ n : Nat, lateC b' x n = lateC b x n := fun n => by
  unfold lateC; rw [show (fun (j : Nat) => wayC b' x (j : Int) x.wl.length) = fun (j : Nat) => wayC b x (j : Int) x.wl.length from funext fun j => e2 j _]
 unfold chL; rw [book_like2 hn hf h, hf, e3]
theorem takC_like2 {b b' : Bk} (hn : b'.now = b.now) (hf : b'.fl = b.fl) (h : Likes b.hl b'.hl) (f : Bool) (x : Wx) : takC b' f x = takC b f x /\ takV b' f x = takV b f x := by
 have e : takC b' f x = takC b f x := by
  unfold takC; rw [hf, h.len, chL_like2 hn hf h]
 refine ⟨e, ?_⟩; unfold takV; rw [e, chL_like2 hn hf h]
theorem tak_mono {l m : List Hx} (h : Likes l m) (i : Nat) {u v : Hx} (g : u.Like v) : Likes (l.take i ++ u :: l.drop i) (m.take i ++ v :: m.drop i) := by
 have hm : l.map Hx.key = m.map Hx.key := h.map Hx.key (fun a b e => by simp [Hx.key, e.n, e.t, e.x]); refine likes_of_key ?_; rw [List.map_append, List.map_append, List.map_cons, List.map_cons, List.map_take, List.map_take, List.map_drop, List.map_drop, hm]
 simp [Hx.key, g.n, g.t, g.x]
theorem takL_like2 {b b' : Bk} (hn : b'.now = b.now) (hf : b'.fl = b.fl) (h : Likes b.hl b'.hl) (nm : ByteArray) (i : Nat) (f : Bool) (x : Wx) : Likes (takL b nm i f x) (takL b' nm i f x) := by
 unfold takL; rw [(takC_like2 hn hf h f x).1, chL_like2 hn hf h]
 split
 · split
   · exact h
   · exact tak_mono h i ⟨rfl, rfl, rfl⟩
 · exact h
theorem tak_agree {b b' : Bk} {i : Nat} {f : Bool} (x : Wx) (hbk : bookB b = true) (hp : PageOf b x.n b' i f) :
 takC b' f x = takCS b x /\ takV b' f x = takV b (decide (0 <= atI b.hl x.n)) x /\ Likes (takLS b x) (takL b' x.n i f x) := by
 have hat := place_at hbk hp
 have hfd : decide (0 <= atI b.hl x.n) = f := by
  rw [hat]
  cases f with
  | true => simp
  | false => simp
 obtain ⟨g1, g2⟩ := takC_like2 hp.now hp.fl hp.lk f x; have g3 := takL_like2 hp.now hp.fl hp.lk x.n i f x; have hi : putI b.hl x.n = i := putI_of hp.at'.le (fun j h hj => hp.at'.lo j h hj) (fun h => hp.at'.hi i h (Nat.le_refl _)); unfold takCS takLS; rw [hfd, hi]; exact ⟨g1, g2, g3⟩
theorem takS_like {b b1 : Bk} (hn : b1.now = b.now) (hf : b1.fl = b.fl) (h : Likes b.hl b1.hl) (x : Wx) : takCS b1 x = takCS b x /\ takV b1 (decide (0 <= atI b1.hl x.n)) x = takV b (decide (0 <= atI b.hl x.n)) x /\ Likes (takLS b x) (takLS b1 x) := by
 have hp : putI b1.hl x.n = putI b.hl x.n := by
  rw [putI_key, putI_key, h.map Hx.key (fun a b e => by simp [Hx.key, e.n, e.t, e.x])]
 unfold takCS takLS; rw [findIdx_like h x.n, hp]; exact ⟨(takC_like2 hn hf h _ x).1, (takC_like2 hn hf h _ x).2, takL_like2 hn hf h _ _ _ x⟩
theorem takW_like {z : Nat} {w : World} {x x' : Wx} (g : CopyW z w x x') (b : Bk) : chL b x' = chL b x := by
 have e0 : ∀ d i k, chB b x' d i k = chB b x d i k := fun d i k => by
  unfold chB; rw [tubeOfC_like g, g.n]
 have e1 : ∀ (d i : Int) (k : Nat), levC b x' d i k = levC b x d i k := fun d i k => by
  unfold levC; rw [show (fun (j : Nat) => chB b x' d i (j : Int)) = fun (j : Nat) => chB b x d i (j : Int) from funext fun j => e0 d i j]
 have e2 : ∀ (d : Int) (i : Nat), wayC b x' d i = wayC b x d i := fun d i => by
  unfold wayC; rw [g.ll, show (fun (j : Nat) => levC b x' d (j : Int) x.ll.length) = fun (j : Nat) => levC b x d (j : Int) x.ll.length from funext fun j => e1 d j _]
 have e3 : ∀ n : Nat, lateC b x' n = lateC b x n := fun n => by
  unfold lateC; rw [g.likes.len, show (fun (j : Nat) => wayC b x' (j : Int) x.wl.length) = fun (j : Nat) => wayC b x (j : Int) x.wl.length from funext fun j => e2 j _]
 unfold chL; rw [wish_like g, g.l, e3]
theorem takW_all {z : Nat} {w : World} {x x' : Wx} (g : CopyW z w x x') (b : Bk) : takCS b x' = takCS b x /\ takV b (decide (0 <= atI b.hl x'.n)) x' = takV b (decide (0 <= atI b.hl x.n)) x /\ takLS b x' = takLS b x := by
 have ec : ∀ f, takC b f x' = takC b f x := fun f => by
  unfold takC; rw [wish_like g, takW_like g]
 have et : ∀ c : Co, takX x.n x' c = takX x.n x c := fun c => by
  unfold takX; rw [tubeOfC_like g]
 refine ⟨?_, ?_, ?_⟩
 · unfold takCS
   rw [g.n, ec]
 · unfold takV
   rw [g.n, ec, takW_like g]
 · unfold takLS takL
   rw [g.n, ec, takW_like g]
   split
   · split
     · rfl
     · rw [et]
   · rfl
def takT (b : Bk) (x : Wx) : Int := if bookB b then takCS b x else 1
def takLT (b : Bk) (x : Wx) : List Hx := if bookB b then takLS b x else []
def takVT (b : Bk) (x : Wx) : Value := if bookB b then takV b (decide (0 <= atI b.hl x.n)) x else chv 0 0 0
theorem takVT_form (b : Bk) (x : Wx) : ∃ d i k, takVT b x = chv d i k := by
 unfold takVT
 split
 · obtain ⟨d, i, k, e, _⟩ := tak_form b (decide (0 <= atI b.hl x.n)) x
   exact ⟨d, i, k, e⟩
 · exact ⟨0, 0, 0, rfl⟩
theorem implTake_ans {b b2 : Bk} {x x2 : Wx} {z : Nat} {w : World} (hw0 : 0 < w.heap.size) (hL : Laid w) (h : Copied w b b2) (g : CopyW z w x x2) (hnf : b.fl.length <= 1048576) (hs : ∀ f ∈ b.fl, f.n.size <= 9223372036854775807) (hnh : b.hl.length <= 1048576) (hfit : ∀ h ∈ b.hl, h.Fit) (hf : x.Fit) :
 Calls Tryz.prog 13 #[b2.val, x2.val] w fun e w' => (∃ bi, e = .returned (.tuple #[Bk.val bi, takVT b x, .int .i64 (takT b x)]) /\ Cnt (hN b) (hF b) (takLT b x) bi /\ AnsBk w.heap.size w' bi) /\ Below w.heap.size w w' := by
 refine (implTake_any b2 x2 w hw0 hL h.fs (by rw [h.fl]; exact hnf) (by rw [h.fl, h.fc]; exact Nat.le_refl _) (by rw [h.fc]; exact Nat.le_trans hnf (by decide)) (by rw [h.fl]; exact hs) h.xs (by rw [h.likes.len]; exact hnh) (fun x hx => ⟨h.inn x hx, h.likes.fit hfit x hx⟩) (asksW_of g hf)).mono ?_; rintro e w' ⟨hC, hb⟩; refine ⟨?_, hb⟩; obtain ⟨m1, m2, m3⟩ := takS_like (b := b) (b1 := b2) h.now h.fl h.likes x2; obtain ⟨n1, n2, n3⟩ := takW_all g b
 rcases hC with ⟨hbk, rfl⟩ | ⟨hbk, b', i, f, b'', c, hp, ⟨rfl, e1, e2, e3⟩, rfl, hO⟩
 · rw [book_like h] at hbk
   refine ⟨_, ?_, ⟨?_, ?_, ?_⟩, ans_zero _ _⟩
   · simp [takT, takVT, hbk]
   · simp [hN, hbk]
   · simp [hF, hbk]
   · simp only [takLT, hbk]; exact likes_nil
 · obtain ⟨q1, q2, q3⟩ := tak_agree x2 hbk hp
   rw [book_like h] at hbk; refine ⟨b'', ?_, ⟨?_, ?_, ?_⟩, hO.ans⟩
   · rw [q1, q2, m1, m2, n1, n2]
     simp [takT, takVT, hbk]
   · simp [hN, hbk, e1, hp.now, h.now]
   · simp [hF, hbk, e2, hp.fl, h.fl]
   · simp only [takLT, hbk]
     rw [n3] at m3; exact (m3.trans q3).trans e3
theorem specTake_ans {b b1 : Bk} {x x1 : Wx} {z : Nat} {w : World} (h : Copied w b b1) (g : CopyW z w x x1) (hnf : b.fl.length <= 1048576) (hs : ∀ f ∈ b.fl, f.n.size <= 9223372036854775807) (hnh : b.hl.length <= 1048576) (hfit : ∀ h ∈ b.hl, h.Fit) (hf : x.Fit) :
 Calls Tryz.prog 10 #[b1.val, x1.val] w fun e w' => (∃ bi, e = .returned (.tuple #[Bk.val bi, takVT b x, .int .i64 (takT b x)]) /\ Cnt (hN b) (hF b) (takLT b x) bi /\ SpBk w.heap.size w' bi) /\ Below w.heap.size w w' := by
 have hok : SpecOk b1 w := fun W hb => by
  have := specBook_copy (h.later hb) hnf hs hnh hfit; rw [← book_like h] at this; exact this
 refine (specTake_any b1 x1 w hok (asksB_of h hnf hs hnh hfit) (asksW_of g hf)).mono ?_; rintro e w' ⟨hC, hb⟩; refine ⟨?_, hb⟩; obtain ⟨m1, m2, m3⟩ := takS_like (b := b) (b1 := b1) h.now h.fl h.likes x1; obtain ⟨n1, n2, n3⟩ := takW_all g b
 rcases hC with ⟨hbk, rfl⟩ | ⟨hbk, bi, rfl, e1, e2, e3, hA⟩
 · rw [book_like h] at hbk
   refine ⟨_, ?_, ⟨?_, ?_, ?_⟩, sp_zero _ _⟩
   · simp [takT, takVT, hbk]
   · simp [hN, hbk]
   · simp [hF, hbk]
   · simp only [takLT, hbk]; exact likes_nil
 · rw [book_like h] at hbk
   refine ⟨bi, ?_, ⟨?_, ?_, ?_⟩, hA⟩
   · rw [m1, m2, n1, n2]
     simp [takT, takVT, hbk]
   · simp [hN, hbk, e1, h.now]
   · simp [hF, hbk, e2, h.fl]
   · simp only [takLT, hbk]
     rw [n3] at m3; exact m3.trans e3
theorem takL_fit {b : Bk} {x : Wx} (hfit : ∀ h ∈ b.hl, h.Fit) (hf : x.Fit) : (∀ h ∈ takLT b x, h.Fit) /\ (takLT b x).length <= 64 := by
 unfold takLT
 split
 · rename_i hbk
   have h16 := book_len hbk; unfold takLS takL
   split
   · split
     · exact ⟨hfit, by omega⟩
     · rename_i c r hc
       refine ⟨fun h hm => ?_, by simp; omega⟩
       rcases List.mem_append.1 hm with hm | hm
       · exact hfit h (List.mem_of_mem_take hm)
       · rcases List.mem_cons.1 hm with rfl | hm
         · refine ⟨?_, by simp [takX], hf.sn⟩
           have := tubeOf_len x c.i c.k c.d
           show (tubeOf x c.i c.k c.d).length <= _
           omega
         · exact hfit h (List.mem_of_mem_drop hm)
   · exact ⟨hfit, by omega⟩
 · exact ⟨fun h hm => by simp at hm, by simp⟩
end Go.Proofs.YtjlliijeaekmfaaGreatDoor
namespace Go.Proofs.YtjlliijeaekmfaaGreatDoor
open Go.RowKit
abbrev Wx.objC (x : Wx) : Obj := .cells #[.string x.n, .int .i64 x.q, .int .i64 x.s, .int .i64 x.f, .int .i64 x.b, .int .i64 x.l, .slice x.wa x.wl.length x.wc, .slice x.la x.ll.length x.lc] 29
theorem CopyW.keep {z : Nat} {w w' : World} {x x' : Wx} (h : CopyW z w x x') (hk : ∀ k, z <= k -> k < w.heap.size -> w'.heap[k]? = w.heap[k]?) : CopyW z w' x x' := by
 obtain ⟨h1, h2, h3, h4, h5, h6, h7, h8, h9, p, r, e1, e2, hz, hpr, ⟨f1, R1, v1⟩, M, hlt, ⟨f2, R2, v2⟩⟩ := h; refine ⟨h1, h2, h3, h4, h5, h6, h7, h8, h9, p, r, e1, e2, hz, hpr, ⟨f1, R1.of_block (hk p hz R1.lt), v1⟩, ⟨M.1, fun j hj hjk => ?_⟩, hlt, ⟨f2, R2.of_block (hk r (by omega) R2.lt), v2⟩⟩; obtain ⟨a, b, g, e, hg, f3, R3, v3⟩ := M.2 j hj hjk; exact ⟨a, b, g, e, hg, f3, R3.of_block (hk g (by omega) R3.lt), v3⟩
theorem CopyW.laEnd {z : Nat} {w : World} {x x' : Wx} (h : CopyW z w x x') : ∀ p, x'.la = some ⟨p, 0, none⟩ -> p < w.heap.size := by
 obtain ⟨h1, h2, h3, h4, h5, h6, h7, h8, h9, p, r, e1, e2, hz, hpr, R1, M, hlt, R2⟩ := h; intro q e; rw [e2] at e
 cases e
 exact R2.lt
def Q8 (b : Bk) (x : Wx) (R : Value -> World -> Prop) (j : Nat) (v : Value) (w : World) : Prop :=
 match j with
 | 0 => v = b.val
 | 1 => ∃ b1 : Bk, v = b1.val /\ Copied w b b1
 | 2 => v = x.val
 | 3 => ∃ (x1 : Wx) (z : Nat), v = x1.val /\ CopyW z w x x1
 | 4 => R v w
 | _ => True
def Y8 (x x2 : Wx) (j : Nat) (v : Value) (w : World) : Prop :=
 match j with
 | 0 => v = x2.val
 | 1 => v = x.val
 | 2 => ∃ (x3 : Wx) (z : Nat), v = x3.val /\ CopyW z w x x3
 | 3 => v = .bool true
 | _ => True
theorem Y8.later {x x2 : Wx} (j : Nat) (v : Value) (w w' : World) (h : Y8 x x2 j v w) (hb : Below w.heap.size w w') : Y8 x x2 j v w' := by
 unfold Y8 at h ⊢
 split
 all_goals first
  | exact h
  | (obtain ⟨x1, z, e, hc⟩ := h; exact ⟨x1, z, e, CopyW.later hc hb⟩)
  | trivial
theorem blk_mrk {S : Nat -> Prop} {w w' : World} {k : Nat} {o : Obj} (h : w.heap[k]? = some o) (hb : Mrk S w w') (hs : ¬ S k) : w'.heap[k]? = some o := (hb.block _ (alt h) hs).trans h
end Go.Proofs.YtjlliijeaekmfaaGreatDoor
