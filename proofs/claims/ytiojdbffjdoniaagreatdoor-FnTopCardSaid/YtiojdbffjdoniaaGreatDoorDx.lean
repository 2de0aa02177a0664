import Derived.Test.YtiojdbffjdoniaaGreatDoorFe
namespace Go.Proofs.YtiojdbffjdoniaaGreatDoor
open Go.RowKit
theorem uZ {b b' : Bk} {nm : ByteArray} {i : Nat} {f : Bool} (hbk : aO b = true) (hp : lD b nm b' i f) : jN b.hl nm = if f then (i : Int) else -1 := by
 have ha := MI hbk
 cases f with
 | true =>
  obtain ⟨h, e⟩ := hp.hd.1 rfl;exact AK h (by simpa using e) (fun j hj hji => sF (hp.at'.lo j hj hji))
 | false =>
  refine CR (fun j hj => ?_)
  cases hq : (b.hl[j].n.toList == nm.toList) with
  | false => rfl
  | true =>
   have e : b.hl[j].n.toList = nm.toList := by simpa using hq
   rcases Nat.lt_trichotomy j i with h | h | h
   · have := sF (hp.at'.lo j hj h)
     rw [hq] at this;cases this
   · subst h
     exact absurd (hp.hd.2 ⟨hj, e⟩) (by simp)
   · have h1 := EG ha (i := i) (j := j) (by omega) hj h
     have h2 := hp.at'.hi i (by omega) (nlq _)
     have h3 : eU b.hl[i].n nm = true := by
      unfold eU at h1 ⊢;rw [← e];exact h1
     rw [h2] at h3;cases h3
theorem DP {a c : Hx} (took : Bool) (h : a.Like c) : (iL took a).Like (iL took c) := by
 cases took with
 | true => exact ⟨h.n, h.x, rfl⟩
 | false => exact ⟨h.n, h.t, rfl⟩
theorem FL {b b' : Bk} {nm : ByteArray} {i : Nat} {f took : Bool} (hbk : aO b = true) (hp : lD b nm b' i f) :
 j3 b' i f = dI b nm /\ (lH b' i f took).now = b.now /\ (lH b' i f took).fl = b.fl /\ aL (eX b nm took) (lH b' i f took).hl := by
 have hat := uZ hbk hp
 cases f with
 | false =>
  have h1 : j3 b' i false = 6 := rfl;have h2 : dI b nm = 6 := by unfold dI;rw [hat];rfl
  refine ⟨h1.trans h2.symm, ?_⟩;unfold lH eX;rw [h1, h2];exact ⟨hp.now, hp.fl, hp.lk⟩
 | true =>
  obtain ⟨h, _⟩ := hp.hd.1 rfl;have h' : i < b'.hl.length := by rw [hp.lk.len];exact h
  have hl := hp.lk.like i h;rw [if_pos rfl] at hat;have e1 : b.hl[(jN b.hl nm).toNat]? = some b.hl[i] := by rw [hat];simp [lge h]
  have e2 : b'.hl[i]? = some b'.hl[i] := lge h'
  by_cases hn : b.hl[i].nl = []
  · have hn' : b'.hl[i].nl = [] := by rw [← hl.x];exact hn
    have h1 : j3 b' i true = 8 := by unfold j3;rw [e2];simp [hn']
    have h2 : dI b nm = 8 := by unfold dI;rw [e1, hat, if_neg (by omega)];simp [hn]
    refine ⟨h1.trans h2.symm, ?_⟩;unfold lH eX;rw [h1, h2];exact ⟨hp.now, hp.fl, hp.lk⟩
  · have hn' : b'.hl[i].nl ≠ [] := by rw [← hl.x];exact hn
    have h1 : j3 b' i true = 0 := by unfold j3;rw [e2];simp [hn']
    have h2 : dI b nm = 0 := by unfold dI;rw [e1, hat, if_neg (by omega)];simp [hn]
    refine ⟨h1.trans h2.symm, ?_⟩;unfold lH eX;rw [h1, h2, e1, e2, hat];exact ⟨hp.now, hp.fl, by simpa using hp.lk.set i (DP took hl)⟩
def hF (b : Bk) : List Fx := if aO b then b.fl else []
end Go.Proofs.YtiojdbffjdoniaaGreatDoor
