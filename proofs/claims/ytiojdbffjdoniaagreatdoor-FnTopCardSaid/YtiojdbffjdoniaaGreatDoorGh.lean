import Derived.Test.YtiojdbffjdoniaaGreatDoorGg
import Derived.Test.YtiojdbffjdoniaaGreatDoorDx
namespace Go.Proofs.YtiojdbffjdoniaaGreatDoor
open Go.RowKit
theorem FI {b b' : Bk} (hn : b'.now = b.now) (hf : b'.fl = b.fl) (h : aL b.hl b'.hl) : aO b' = aO b := by
 unfold aO cH;rw [hn, hf, sI h, vF h, vC h, h.len]
theorem rM {b b' : Bk} (hn : b'.now = b.now) (hf : b'.fl = b.fl) (h : aL b.hl b'.hl) (x : Wx) : tF b' x = tF b x := by
 have e0 : ∀ d i k, pK b' x d i k = pK b x d i k := fun d i k => by
  unfold pK;rw [hf, hn, B9 h]
 have e1 : ∀ (d i : Int) (k : Nat), j7 b' x d i k = j7 b x d i k := fun d i k => by
  unfold j7;rw [show (fun (j : Nat) => pK b' x d i (j : Int)) = fun (j : Nat) => pK b x d i (j : Int) from funext fun j => e0 d i j]
 have e2 : ∀ (d : Int) (i : Nat), kS b' x d i = kS b x d i := fun d i => by
  unfold kS;rw [show (fun (j : Nat) => j7 b' x d (j : Int) x.ll.length) = fun (j : Nat) => j7 b x d (j : Int) x.ll.length from funext fun j => e1 d j _]
 have e3 : ∀ n : Nat, fW b' x n = fW b x n := fun n => by
  unfold fW;rw [show (fun (j : Nat) => kS b' x (j : Int) x.wl.length) = fun (j : Nat) => kS b x (j : Int) x.wl.length from funext fun j => e2 j _]
 unfold tF;rw [FI hn hf h, hf, e3]
theorem uV {b b' : Bk} (hn : b'.now = b.now) (hf : b'.fl = b.fl) (h : aL b.hl b'.hl) (f : Bool) (x : Wx) : iM b' f x = iM b f x /\ gZ b' f x = gZ b f x := by
 have e : iM b' f x = iM b f x := by
  unfold iM;rw [hf, h.len, rM hn hf h]
 refine ⟨e, ?_⟩;unfold gZ;rw [e, rM hn hf h]
theorem MQ {l m : List Hx} (h : aL l m) (i : Nat) {u v : Hx} (g : u.Like v) : aL (l.take i ++ u :: l.drop i) (m.take i ++ v :: m.drop i) := by
 have hm : l.map Hx.key = m.map Hx.key := h.map Hx.key (fun a b e => by simp [Hx.key, e.n, e.t, e.x]);refine qZ ?_;rw [List.map_append, List.map_append, List.map_cons, List.map_cons, List.map_take, List.map_take, List.map_drop, List.map_drop, hm]
 simp [Hx.key, g.n, g.t, g.x]
theorem F4 {b b' : Bk} (hn : b'.now = b.now) (hf : b'.fl = b.fl) (h : aL b.hl b'.hl) (nm : ByteArray) (i : Nat) (f : Bool) (x : Wx) : aL (jJ b nm i f x) (jJ b' nm i f x) := by
 unfold jJ;rw [(uV hn hf h f x).1, rM hn hf h]
 split
 · split
   · exact h
   · exact MQ h i ⟨rfl, rfl, rfl⟩
 · exact h
theorem JD {b b' : Bk} {i : Nat} {f : Bool} (x : Wx) (hbk : aO b = true) (hp : lD b x.n b' i f) :
 iM b' f x = dQ b x /\ gZ b' f x = gZ b (decide (0 <= jN b.hl x.n)) x /\ aL (gY b x) (jJ b' x.n i f x) := by
 have hat := uZ hbk hp
 have hfd : decide (0 <= jN b.hl x.n) = f := by
  rw [hat]
  cases f with
  | true => simp
  | false => simp
 obtain ⟨g1, g2⟩ := uV hp.now hp.fl hp.lk f x;have g3 := F4 hp.now hp.fl hp.lk x.n i f x;have hi : kJ b.hl x.n = i := yR hp.at'.le (fun j h hj => hp.at'.lo j h hj) (fun h => hp.at'.hi i h (nlq _));unfold dQ gY;rw [hfd, hi];exact ⟨g1, g2, g3⟩
end Go.Proofs.YtiojdbffjdoniaaGreatDoor
