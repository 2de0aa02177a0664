import Derived.Test.YtiojdbffjdoniaaGreatDoorDx
namespace Go.Proofs.YtiojdbffjdoniaaGreatDoor
open Go.RowKit
theorem FZ {l m : List Hx} (h : aL l m) (nm : ByteArray) (t : List Bx) : iE nm t m = iE nm t l := by
 have e := h.map (fun h => !(pW nm h.n && (bI t h.tl || bI t h.nl))) (fun a c g => by rw [g.n, g.t, g.x]);have a : ∀ k : List Hx, iE nm t k = (k.map (fun h => !(pW nm h.n && (bI t h.tl || bI t h.nl)))).all id := fun k => by rw [List.all_map];rfl
 rw [a m, a l, e]
theorem JP {a c : Hx} (tl : List Bx) (h : a.Like c) : (IW tl a).Like (IW tl c) := ⟨h.n, h.t, rfl⟩
theorem M9 {b b' : Bk} (hn : b'.now = b.now) (hf : b'.fl = b.fl) (h : aL b.hl b'.hl) (nm : ByteArray) (i : Nat) (f : Bool) (tl : List Bx) : gP b' nm i f tl = gP b nm i f tl /\ aL (iN b nm i f tl) (iN b' nm i f tl) := by
 have e0 := FZ h nm tl
 by_cases hi : i < b.hl.length
 · have hi' : i < b'.hl.length := by rw [h.len];exact hi
   have hl := h.like i hi;have e1 : b.hl[i]? = some b.hl[i] := lge hi;have e2 : b'.hl[i]? = some b'.hl[i] := lge hi'
   have ec : gP b' nm i f tl = gP b nm i f tl := by
    unfold gP;rw [hn, hf, e0, e1, e2]
    simp only
    rw [hl.x]
   refine ⟨ec, ?_⟩;unfold iN;rw [ec, e1, e2]
   split
   · exact h.set i (JP tl hl)
   · exact h
 · have e1 : b.hl[i]? = none := List.getElem?_eq_none (by omega)
   have e2 : b'.hl[i]? = none := List.getElem?_eq_none (by rw [h.len];omega)
   have ec : gP b' nm i f tl = gP b nm i f tl := by
    unfold gP;rw [hn, hf, e1, e2]
   refine ⟨ec, ?_⟩;unfold iN;rw [ec, e1, e2]
   split
   · exact h
   · exact h
theorem yS (b : Bk) (nm : ByteArray) (i : Nat) (tl : List Bx) : gP b nm i false tl = if (aK b.fl tl && eE b.now tl) = false then 2 else 6 := rfl
theorem tH (b : Bk) (nm : ByteArray) (i : Nat) (tl : List Bx) : iN b nm i false tl = b.hl := by
 unfold iN;rw [if_neg];rw [yS]
 split <;> decide
theorem JE {b b' : Bk} {nm : ByteArray} {i : Nat} {f : Bool} (tl : List Bx) (hbk : aO b = true) (hp : lD b nm b' i f) :
 gP b' nm i f tl = dR b nm tl /\ aL (fX b nm tl) (iN b' nm i f tl) := by
 have hat := uZ hbk hp;obtain ⟨g1, g2⟩ := M9 hp.now hp.fl hp.lk nm i f tl;unfold dR fX;rw [hat]
 cases f with
 | true => simpa using ⟨g1, g2⟩
 | false =>
  have e : decide ((0 : Int) <= (if false = true then (i : Int) else -1)) = false := by simp
  rw [e, tH, yS];rw [tH, tH] at g2;rw [tH];exact ⟨g1.trans (yS b nm i tl), g2⟩
end Go.Proofs.YtiojdbffjdoniaaGreatDoor
