import Derived.Test.YtiojdbffjdoniaaGreatDoorDx
namespace Go.Proofs.YtiojdbffjdoniaaGreatDoor
open Go.RowKit
theorem EU {l m : List Hx} (h : aI l m) (nm : ByteArray) (t : List Bx) : iK nm t m = iK nm t l := by
 have e := h.map (fun h => !(sC nm h.n && (dL t h.tl || dL t h.nl))) (fun a c g => by rw [g.n, g.t, g.x]); have a : ∀ k : List Hx, iK nm t k = (k.map (fun h => !(sC nm h.n && (dL t h.tl || dL t h.nl)))).all id := fun k => by rw [List.all_map]; rfl
 rw [a m, a l, e]
theorem IS {a c : Hx} (tl : List Bx) (h : a.Like c) : (EH tl a).Like (EH tl c) := ⟨h.n, h.t, rfl⟩
theorem BJ {b b' : Bk} (hn : b'.now = b.now) (hf : b'.fl = b.fl) (h : aI b.hl b'.hl) (nm : ByteArray) (i : Nat) (f : Bool) (tl : List Bx) : gW b' nm i f tl = gW b nm i f tl /\ aI (i9 b nm i f tl) (i9 b' nm i f tl) := by
 have e0 := EU h nm tl
 by_cases hi : i < b.hl.length
 · have hi' : i < b'.hl.length := by rw [h.len]; exact hi
   have hl := h.like i hi; have e1 : b.hl[i]? = some b.hl[i] := lge hi; have e2 : b'.hl[i]? = some b'.hl[i] := lge hi'
   have ec : gW b' nm i f tl = gW b nm i f tl := by
    unfold gW; rw [hn, hf, e0, e1, e2]
    simp only
    rw [hl.x]
   refine ⟨ec, ?_⟩; unfold i9; rw [ec, e1, e2]
   split
   · exact h.set i (IS tl hl)
   · exact h
 · have e1 : b.hl[i]? = none := List.getElem?_eq_none (by omega)
   have e2 : b'.hl[i]? = none := List.getElem?_eq_none (by rw [h.len]; omega)
   have ec : gW b' nm i f tl = gW b nm i f tl := by
    unfold gW; rw [hn, hf, e1, e2]
   refine ⟨ec, ?_⟩; unfold i9; rw [ec, e1, e2]
   split
   · exact h
   · exact h
theorem xZ (b : Bk) (nm : ByteArray) (i : Nat) (tl : List Bx) : gW b nm i false tl = if (aM b.fl tl && eI b.now tl) = false then 2 else 6 := rfl
theorem tM (b : Bk) (nm : ByteArray) (i : Nat) (tl : List Bx) : i9 b nm i false tl = b.hl := by
 unfold i9; rw [if_neg]; rw [xZ]
 split <;> decide
theorem II {b b' : Bk} {nm : ByteArray} {i : Nat} {f : Bool} (tl : List Bx) (hbk : aS b = true) (hp : lF b nm b' i f) :
 gW b' nm i f tl = dG b nm tl /\ aI (fP b nm tl) (i9 b' nm i f tl) := by
 have hat := uA hbk hp; obtain ⟨g1, g2⟩ := BJ hp.now hp.fl hp.lk nm i f tl; unfold dG fP; rw [hat]
 cases f with
 | true => simpa using ⟨g1, g2⟩
 | false =>
  have e : decide ((0 : Int) <= (if false = true then (i : Int) else -1)) = false := by simp
  rw [e, tM, xZ]; rw [tM, tM] at g2; rw [tM]; exact ⟨g1.trans (xZ b nm i tl), g2⟩
theorem DO {b b1 : Bk} (hn : b1.now = b.now) (hf : b1.fl = b.fl) (h : aI b.hl b1.hl) (nm : ByteArray) (tl : List Bx) : dG b1 nm tl = dG b nm tl /\ aI (fP b nm tl) (fP b1 nm tl) := by
 unfold dG fP; rw [mG h nm]; exact BJ hn hf h nm _ _ tl
def GY (b : Bk) (nm : ByteArray) (tl : List Bx) : List Hx := if aS b then fP b nm tl else []
theorem LW {b : Bk} {nm : ByteArray} {tl : List Bx} (hfit : ∀ h ∈ b.hl, h.Fit) (hnt : tl.length <= 1048576) : (∀ h ∈ GY b nm tl, h.Fit) /\ (GY b nm tl).length <= 64 := by
 unfold GY
 split
 · rename_i hbk
   have h16 := iR hbk; unfold fP i9
   split
   · split
     · rename_i x hx
       refine ⟨fun h hm => ?_, by simp; omega⟩
       rcases List.mem_or_eq_of_mem_set hm with hm | rfl
       · exact hfit h hm
       · have := hfit x (List.mem_of_getElem? hx)
         exact ⟨this.tn, by simpa [EH] using hnt, this.sn⟩
     · exact ⟨hfit, by omega⟩
   · exact ⟨hfit, by omega⟩
 · exact ⟨fun h hm => by simp at hm, by simp⟩
end Go.Proofs.YtiojdbffjdoniaaGreatDoor
