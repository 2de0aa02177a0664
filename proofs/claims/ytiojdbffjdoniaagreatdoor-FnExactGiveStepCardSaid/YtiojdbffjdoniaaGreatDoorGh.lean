import Derived.Test.YtiojdbffjdoniaaGreatDoorGd0
import Derived.Test.YtiojdbffjdoniaaGreatDoorDx
namespace Go.Proofs.YtiojdbffjdoniaaGreatDoor
open Go.RowKit
theorem EC {b b' : Bk} (hn : b'.now = b.now) (hf : b'.fl = b.fl) (h : aI b.hl b'.hl) : aS b' = aS b := by
 unfold aS iH; rw [hn, hf, s4 h, uO h, uI h, h.len]
theorem sD {b b' : Bk} (hn : b'.now = b.now) (hf : b'.fl = b.fl) (h : aI b.hl b'.hl) (x : Wx) : tC b' x = tC b x := by
 have e0 : ∀ d i k, oR b' x d i k = oR b x d i k := fun d i k => by
  unfold oR; rw [hf, hn, CY h]
 have e1 : ∀ (d i : Int) (k : Nat), jA b' x d i k = jA b x d i k := fun d i k => by
  unfold jA; rw [show (fun (j : Nat) => oR b' x d i (j : Int)) = fun (j : Nat) => oR b x d i (j : Int) from funext fun j => e0 d i j]
 have e2 : ∀ (d : Int) (i : Nat), jI b' x d i = jI b x d i := fun d i => by
  unfold jI; rw [show (fun (j : Nat) => jA b' x d (j : Int) x.ll.length) = fun (j : Nat) => jA b x d (j : Int) x.ll.length from funext fun j => e1 d j _]
 have e3 : ∀ n : Nat, fJ b' x n = fJ b x n := fun n => by
  unfold fJ; rw [show (fun (j : Nat) => jI b' x (j : Int) x.wl.length) = fun (j : Nat) => jI b x (j : Int) x.wl.length from funext fun j => e2 j _]
 unfold tC; rw [EC hn hf h, hf, e3]
theorem l0 {b b' : Bk} (hn : b'.now = b.now) (hf : b'.fl = b.fl) (h : aI b.hl b'.hl) (f : Bool) (x : Wx) : gV b' f x = gV b f x /\ fV b' f x = fV b f x := by
 have e : gV b' f x = gV b f x := by
  unfold gV; rw [hf, h.len, sD hn hf h]
 refine ⟨e, ?_⟩; unfold fV; rw [e, sD hn hf h]
theorem LZ {l m : List Hx} (h : aI l m) (i : Nat) {u v : Hx} (g : u.Like v) : aI (l.take i ++ u :: l.drop i) (m.take i ++ v :: m.drop i) := by
 have hm : l.map Hx.key = m.map Hx.key := h.map Hx.key (fun a b e => by simp [Hx.key, e.n, e.t, e.x]); refine qR ?_; rw [List.map_append, List.map_append, List.map_cons, List.map_cons, List.map_take, List.map_take, List.map_drop, List.map_drop, hm]
 simp [Hx.key, g.n, g.t, g.x]
theorem vP {b b' : Bk} (hn : b'.now = b.now) (hf : b'.fl = b.fl) (h : aI b.hl b'.hl) (nm : ByteArray) (i : Nat) (f : Bool) (x : Wx) : aI (jR b nm i f x) (jR b' nm i f x) := by
 unfold jR; rw [(l0 hn hf h f x).1, sD hn hf h]
 split
 · split
   · exact h
   · exact LZ h i ⟨rfl, rfl, rfl⟩
 · exact h
theorem JU {b b' : Bk} {i : Nat} {f : Bool} (x : Wx) (hbk : aS b = true) (hp : lF b x.n b' i f) :
 gV b' f x = cW b x /\ fV b' f x = fV b (decide (0 <= jY b.hl x.n)) x /\ aI (fI b x) (jR b' x.n i f x) := by
 have hat := uA hbk hp
 have hfd : decide (0 <= jY b.hl x.n) = f := by
  rw [hat]
  cases f with
  | true => simp
  | false => simp
 obtain ⟨g1, g2⟩ := l0 hp.now hp.fl hp.lk f x; have g3 := vP hp.now hp.fl hp.lk x.n i f x; have hi : nI b.hl x.n = i := yD hp.at'.le (fun j h hj => hp.at'.lo j h hj) (fun h => hp.at'.hi i h (nlq _)); unfold cW fI; rw [hfd, hi]; exact ⟨g1, g2, g3⟩
theorem I9 {b b1 : Bk} (hn : b1.now = b.now) (hf : b1.fl = b.fl) (h : aI b.hl b1.hl) (x : Wx) : cW b1 x = cW b x /\ fV b1 (decide (0 <= jY b1.hl x.n)) x = fV b (decide (0 <= jY b.hl x.n)) x /\ aI (fI b x) (fI b1 x) := by
 have hp : nI b1.hl x.n = nI b.hl x.n := by
  rw [qI, qI, h.map Hx.key (fun a b e => by simp [Hx.key, e.n, e.t, e.x])]
 unfold cW fI; rw [mG h x.n, hp]; exact ⟨(l0 hn hf h _ x).1, (l0 hn hf h _ x).2, vP hn hf h _ _ _ x⟩
theorem rI {z : Nat} {w : World} {x x' : Wx} (g : dO z w x x') (b : Bk) : tC b x' = tC b x := by
 have e0 : ∀ d i k, oR b x' d i k = oR b x d i k := fun d i k => by
  unfold oR; rw [qD g, g.n]
 have e1 : ∀ (d i : Int) (k : Nat), jA b x' d i k = jA b x d i k := fun d i k => by
  unfold jA; rw [show (fun (j : Nat) => oR b x' d i (j : Int)) = fun (j : Nat) => oR b x d i (j : Int) from funext fun j => e0 d i j]
 have e2 : ∀ (d : Int) (i : Nat), jI b x' d i = jI b x d i := fun d i => by
  unfold jI; rw [g.ll, show (fun (j : Nat) => jA b x' d (j : Int) x.ll.length) = fun (j : Nat) => jA b x d (j : Int) x.ll.length from funext fun j => e1 d j _]
 have e3 : ∀ n : Nat, fJ b x' n = fJ b x n := fun n => by
  unfold fJ; rw [g.likes.len, show (fun (j : Nat) => jI b x' (j : Int) x.wl.length) = fun (j : Nat) => jI b x (j : Int) x.wl.length from funext fun j => e2 j _]
 unfold tC; rw [wP g, g.l, e3]
theorem MJ {z : Nat} {w : World} {x x' : Wx} (g : dO z w x x') (b : Bk) : cW b x' = cW b x /\ fV b (decide (0 <= jY b.hl x'.n)) x' = fV b (decide (0 <= jY b.hl x.n)) x /\ fI b x' = fI b x := by
 have ec : ∀ f, gV b f x' = gV b f x := fun f => by
  unfold gV; rw [wP g, rI g]
 have et : ∀ c : Co, IZ x.n x' c = IZ x.n x c := fun c => by
  unfold IZ; rw [qD g]
 refine ⟨?_, ?_, ?_⟩
 · unfold cW
   rw [g.n, ec]
 · unfold fV
   rw [g.n, ec, rI g]
 · unfold fI jR
   rw [g.n, ec, rI g]
   split
   · split
     · rfl
     · rw [et]
   · rfl
def GP (b : Bk) (x : Wx) : List Hx := if aS b then fI b x else []
theorem MW {b : Bk} {x : Wx} (hfit : ∀ h ∈ b.hl, h.Fit) (hf : x.Fit) : (∀ h ∈ GP b x, h.Fit) /\ (GP b x).length <= 64 := by
 unfold GP
 split
 · rename_i hbk
   have h16 := iR hbk; unfold fI jR
   split
   · split
     · exact ⟨hfit, by omega⟩
     · rename_i c r hc
       refine ⟨fun h hm => ?_, by simp; omega⟩
       rcases lma.1 hm with hm | hm
       · exact hfit h (List.mem_of_mem_take hm)
       · rcases List.mem_cons.1 hm with rfl | hm
         · refine ⟨?_, by simp [IZ], hf.sn⟩
           have := mD x c.i c.k c.d
           show (aR x c.i c.k c.d).length <= _
           omega
         · exact hfit h (List.mem_of_mem_drop hm)
   · exact ⟨hfit, by omega⟩
 · exact ⟨fun h hm => by simp at hm, by simp⟩
end Go.Proofs.YtiojdbffjdoniaaGreatDoor
