import Derived.Test.YtiojdbffjdoniaaGreatDoorDv
namespace Go.Proofs.YtiojdbffjdoniaaGreatDoor
open Go.RowKit
theorem uA {b b' : Bk} {nm : ByteArray} {i : Nat} {f : Bool} (hbk : aS b = true) (hp : lF b nm b' i f) : jY b.hl nm = if f then (i : Int) else -1 := by
 have ha := LD hbk
 cases f with
 | true =>
  obtain ⟨h, e⟩ := hp.hd.1 rfl; exact BS h (by simpa using e) (fun j hj hji => L3 (hp.at'.lo j hj hji))
 | false =>
  refine AT (fun j hj => ?_)
  cases hq : (b.hl[j].n.toList == nm.toList) with
  | false => rfl
  | true =>
   have e : b.hl[j].n.toList = nm.toList := by simpa using hq
   rcases Nat.lt_trichotomy j i with h | h | h
   · have := L3 (hp.at'.lo j hj h)
     rw [hq] at this; cases this
   · subst h
     exact absurd (hp.hd.2 ⟨hj, e⟩) (by simp)
   · have h1 := FI ha (i := i) (j := j) (by omega) hj h
     have h2 := hp.at'.hi i (by omega) (nlq _)
     have h3 : gG b.hl[i].n nm = true := by
      unfold gG at h1 ⊢; rw [← e]; exact h1
     rw [h2] at h3; cases h3
theorem tV {a c : Hx} (took : Bool) (h : a.Like c) : (iM took a).Like (iM took c) := by
 cases took with
 | true => exact ⟨h.n, h.x, rfl⟩
 | false => exact ⟨h.n, h.t, rfl⟩
theorem GB {b b' : Bk} {nm : ByteArray} {i : Nat} {f took : Bool} (hbk : aS b = true) (hp : lF b nm b' i f) :
 kD b' i f = cJ b nm /\ (lH b' i f took).now = b.now /\ (lH b' i f took).fl = b.fl /\ aI (eF b nm took) (lH b' i f took).hl := by
 have hat := uA hbk hp
 cases f with
 | false =>
  have h1 : kD b' i false = 6 := rfl; have h2 : cJ b nm = 6 := by unfold cJ; rw [hat]; rfl
  refine ⟨h1.trans h2.symm, ?_⟩; unfold lH eF; rw [h1, h2]; exact ⟨hp.now, hp.fl, hp.lk⟩
 | true =>
  obtain ⟨h, _⟩ := hp.hd.1 rfl; have h' : i < b'.hl.length := by rw [hp.lk.len]; exact h
  have hl := hp.lk.like i h; rw [if_pos rfl] at hat; have e1 : b.hl[(jY b.hl nm).toNat]? = some b.hl[i] := by rw [hat]; simp [lge h]
  have e2 : b'.hl[i]? = some b'.hl[i] := lge h'
  by_cases hn : b.hl[i].nl = []
  · have hn' : b'.hl[i].nl = [] := by rw [← hl.x]; exact hn
    have h1 : kD b' i true = 8 := by unfold kD; rw [e2]; simp [hn']
    have h2 : cJ b nm = 8 := by unfold cJ; rw [e1, hat, if_neg (by omega)]; simp [hn]
    refine ⟨h1.trans h2.symm, ?_⟩; unfold lH eF; rw [h1, h2]; exact ⟨hp.now, hp.fl, hp.lk⟩
  · have hn' : b'.hl[i].nl ≠ [] := by rw [← hl.x]; exact hn
    have h1 : kD b' i true = 0 := by unfold kD; rw [e2]; simp [hn']
    have h2 : cJ b nm = 0 := by unfold cJ; rw [e1, hat, if_neg (by omega)]; simp [hn]
    refine ⟨h1.trans h2.symm, ?_⟩; unfold lH eF; rw [h1, h2, e1, e2, hat]; exact ⟨hp.now, hp.fl, by simpa using hp.lk.set i (tV took hl)⟩
theorem mG {l m : List Hx} (h : aI l m) (nm : ByteArray) : jY m nm = jY l nm := by
 have e := h.map (fun x => x.n.toList) (fun _ _ g => by rw [g.n]); have a : ∀ k : List Hx, k.findIdx? (fun h => h.n.toList == nm.toList) = (k.map (fun x => x.n.toList)).findIdx? (fun s => s == nm.toList) := fun k => by rw [List.findIdx?_map]; rfl
 unfold jY; rw [a m, a l, e]
theorem DL {b b1 : Bk} (h : aI b.hl b1.hl) (nm : ByteArray) (took : Bool) : cJ b1 nm = cJ b nm /\ aI (eF b nm took) (eF b1 nm took) := by
 have ha := mG h nm
 rcases n9 b.hl nm with e | ⟨j, hj, e⟩
 · have h1 : cJ b nm = 6 := by unfold cJ; rw [e]; rfl
   have h2 : cJ b1 nm = 6 := by unfold cJ; rw [ha, e]; rfl
   refine ⟨h2.trans h1.symm, ?_⟩; unfold eF; rw [h1, h2]; exact h
 · have hj1 : j < b1.hl.length := by rw [h.len]; exact hj
   have hl := h.like j hj; have e1 : b.hl[(jY b.hl nm).toNat]? = some b.hl[j] := by rw [e]; simp [lge hj]
   have e2 : b1.hl[(jY b1.hl nm).toNat]? = some b1.hl[j] := by rw [ha, e]; simp [lge hj1]
   have ec : cJ b1 nm = cJ b nm := by
    unfold cJ; rw [e1, e2, ha]
    show (if jY b.hl nm < 0 then (6 : Int) else (if b1.hl[j].nl = [] then 8 else 0)) = (if jY b.hl nm < 0 then 6 else (if b.hl[j].nl = [] then 8 else 0))
    rw [hl.x]
   refine ⟨ec, ?_⟩; unfold eF; rw [ec, e1, e2, ha]
   split
   · exact h.set _ (tV took hl)
   · exact h
structure OQ (now : Int) (fl : List Fx) (l : List Hx) (b : Bk) : Prop where
 now : b.now = now
 fl : b.fl = fl
 lk : aI l b.hl
def hF (b : Bk) : List Fx := if aS b then b.fl else []
def GH (b : Bk) (nm : ByteArray) (took : Bool) : List Hx := if aS b then eF b nm took else []
theorem wV : aI [] [] := ⟨rfl, fun k h => absurd h (by simp)⟩
theorem MX (z : Nat) (w : World) : cP z w ⟨0, none, [], 0, none, [], 0⟩ := ⟨.inl rfl, .inl rfl, fun x h => by simp at h, by simp, fun k h => by simp at h⟩
theorem OA (z : Nat) (w : World) : cS z w ⟨0, none, [], 0, none, [], 0⟩ := ⟨.inl ⟨rfl, rfl⟩, .inl ⟨rfl, rfl⟩, fun x h => by simp at h⟩
theorem KT {x : Hx} (took : Bool) (h : x.Fit) : (iM took x).Fit := by
 cases took with
 | true => exact ⟨h.nn, by simp [iM], h.sn⟩
 | false => exact ⟨h.tn, by simp [iM], h.sn⟩
theorem JA {b : Bk} {nm : ByteArray} {took : Bool} (hfit : ∀ h ∈ b.hl, h.Fit) : (∀ h ∈ GH b nm took, h.Fit) /\ (GH b nm took).length <= 64 := by
 unfold GH
 split
 · rename_i hbk
   have h16 := iR hbk; unfold eF
   split
   · split
     · rename_i x hx
       refine ⟨fun h hm => ?_, by simp; omega⟩
       rcases List.mem_or_eq_of_mem_set hm with hm | rfl
       · exact hfit h hm
       · exact KT took (hfit x (List.mem_of_getElem? hx))
     · exact ⟨hfit, by omega⟩
   · exact ⟨hfit, by omega⟩
 · exact ⟨fun h hm => by simp at hm, by simp⟩
theorem pH {now : Int} {fl : List Fx} {l : List Hx} {z1 z2 : Nat} {x y : Bk} {w : World} (hx : OQ now fl l x) (hy : OQ now fl l y) (ax : cP z1 w x) (ay : cS z2 w y) (hnf : fl.length <= 1048576) (hl : l.length <= 64) (hfit : ∀ h ∈ l, h.Fit) :
 Calls Tryz.prog 17 #[x.val, y.val] w fun e w' => e = .returned (.bool true) /\ Below w.heap.size w w' := by
 have e1 : y.now = x.now := hy.now.trans hx.now.symm; have e2 : y.fl = x.fl := hy.fl.trans hx.fl.symm; have hf2 := bM.xs Fx.cells_length ay.f; rw [e2] at hf2; have := sH x y.fa y.fc y.ha y.hl y.hc w ax.fs hf2 (by rw [hx.fl]; exact hnf) ax.hs (bM.xs Hx.cells_length ay.h) (by rw [hx.lk.len]; omega) (fun h m => ⟨ax.inn h m, hx.lk.fit hfit h m⟩) ay.inn (hx.lk.symm.trans hy.lk); rw [← e1, ← e2] at this; exact this
end Go.Proofs.YtiojdbffjdoniaaGreatDoor
