import Derived.Test.YtjlliijeaekmfaaGreatDoorDq
import Derived.Test.YtjlliijeaekmfaaGreatDoorEb
import Derived.Test.YtjlliijeaekmfaaGreatDoorDv
import Derived.Test.YtjlliijeaekmfaaGreatDoorDn
import Derived.Test.YtjlliijeaekmfaaGreatDoorMkE
namespace Go.Proofs.YtjlliijeaekmfaaGreatDoor
open Go.RowKit
theorem place_at {b b' : Bk} {nm : ByteArray} {i : Nat} {f : Bool} (hbk : bookB b = true) (hp : PageOf b nm b' i f) : atI b.hl nm = if f then (i : Int) else -1 := by
  have ha := book_asc hbk
  cases f with
  | true =>
    obtain ⟨h, e⟩ := hp.hd.1 rfl
    exact atI_some h (by simpa using e) (fun j hj hji => lt_ne (hp.at'.lo j hj hji))
  | false =>
    refine atI_none (fun j hj => ?_)
    cases hq : (b.hl[j].n.toList == nm.toList) with
    | false => rfl
    | true =>
      have e : b.hl[j].n.toList = nm.toList := by simpa using hq
      rcases Nat.lt_trichotomy j i with h | h | h
      · have := lt_ne (hp.at'.lo j hj h)
        rw [hq] at this; cases this
      · subst h
        exact absurd (hp.hd.2 ⟨hj, e⟩) (by simp)
      · have h1 := asc_le ha (i := i) (j := j) (by omega) hj h
        have h2 := hp.at'.hi i (by omega) (Nat.le_refl _)
        have h3 : ltB b.hl[i].n nm = true := by
          unfold ltB at h1 ⊢
          rw [← e]; exact h1
        rw [h2] at h3; cases h3
theorem hearX_like {a c : Hx} (took : Bool) (h : a.Like c) : (hearX took a).Like (hearX took c) := by
  cases took with
  | true => exact ⟨h.n, h.x, rfl⟩
  | false => exact ⟨h.n, h.t, rfl⟩
/-- What the program's book is, by the model's words. -/
theorem hear_agree {b b' : Bk} {nm : ByteArray} {i : Nat} {f took : Bool} (hbk : bookB b = true) (hp : PageOf b nm b' i f) :
    hearC b' i f = hearCS b nm ∧ (hearB b' i f took).now = b.now ∧ (hearB b' i f took).fl = b.fl ∧ Likes (hearLS b nm took) (hearB b' i f took).hl := by
  have hat := place_at hbk hp
  cases f with
  | false =>
    have h1 : hearC b' i false = 6 := rfl
    have h2 : hearCS b nm = 6 := by unfold hearCS; rw [hat]; rfl
    refine ⟨h1.trans h2.symm, ?_⟩
    unfold hearB hearLS
    rw [h1, h2]
    exact ⟨hp.now, hp.fl, hp.lk⟩
  | true =>
    obtain ⟨h, _⟩ := hp.hd.1 rfl
    have h' : i < b'.hl.length := by rw [hp.lk.len]; exact h
    have hl := hp.lk.like i h
    rw [if_pos rfl] at hat
    have e1 : b.hl[(atI b.hl nm).toNat]? = some b.hl[i] := by rw [hat]; simp [List.getElem?_eq_getElem h]
    have e2 : b'.hl[i]? = some b'.hl[i] := List.getElem?_eq_getElem h'
    by_cases hn : b.hl[i].nl = []
    · have hn' : b'.hl[i].nl = [] := by rw [← hl.x]; exact hn
      have h1 : hearC b' i true = 8 := by unfold hearC; rw [e2]; simp [hn']
      have h2 : hearCS b nm = 8 := by unfold hearCS; rw [e1, hat, if_neg (by omega)]; simp [hn]
      refine ⟨h1.trans h2.symm, ?_⟩
      unfold hearB hearLS
      rw [h1, h2]
      exact ⟨hp.now, hp.fl, hp.lk⟩
    · have hn' : b'.hl[i].nl ≠ [] := by rw [← hl.x]; exact hn
      have h1 : hearC b' i true = 0 := by unfold hearC; rw [e2]; simp [hn']
      have h2 : hearCS b nm = 0 := by unfold hearCS; rw [e1, hat, if_neg (by omega)]; simp [hn]
      refine ⟨h1.trans h2.symm, ?_⟩
      unfold hearB hearLS
      rw [h1, h2, e1, e2, hat]
      exact ⟨hp.now, hp.fl, by simpa using hp.lk.set i (hearX_like took hl)⟩
theorem findIdx_like {l m : List Hx} (h : Likes l m) (nm : ByteArray) : atI m nm = atI l nm := by
  have e := h.map (fun x => x.n.toList) (fun _ _ g => by rw [g.n])
  have a : ∀ k : List Hx, k.findIdx? (fun h => h.n.toList == nm.toList) = (k.map (fun x => x.n.toList)).findIdx? (fun s => s == nm.toList) := fun k => by rw [List.findIdx?_map]; rfl
  unfold atI
  rw [a m, a l, e]
theorem hearCS_like {b b1 : Bk} (h : Likes b.hl b1.hl) (nm : ByteArray) (took : Bool) : hearCS b1 nm = hearCS b nm ∧ Likes (hearLS b nm took) (hearLS b1 nm took) := by
  have ha := findIdx_like h nm
  rcases atI_cases b.hl nm with e | ⟨j, hj, e⟩
  · have h1 : hearCS b nm = 6 := by unfold hearCS; rw [e]; rfl
    have h2 : hearCS b1 nm = 6 := by unfold hearCS; rw [ha, e]; rfl
    refine ⟨h2.trans h1.symm, ?_⟩
    unfold hearLS
    rw [h1, h2]
    exact h
  · have hj1 : j < b1.hl.length := by rw [h.len]; exact hj
    have hl := h.like j hj
    have e1 : b.hl[(atI b.hl nm).toNat]? = some b.hl[j] := by rw [e]; simp [List.getElem?_eq_getElem hj]
    have e2 : b1.hl[(atI b1.hl nm).toNat]? = some b1.hl[j] := by rw [ha, e]; simp [List.getElem?_eq_getElem hj1]
    have ec : hearCS b1 nm = hearCS b nm := by
      unfold hearCS
      rw [e1, e2, ha]
      show (if atI b.hl nm < 0 then (6 : Int) else (if b1.hl[j].nl = [] then 8 else 0)) = (if atI b.hl nm < 0 then 6 else (if b.hl[j].nl = [] then 8 else 0))
      rw [hl.x]
    refine ⟨ec, ?_⟩
    unfold hearLS
    rw [ec, e1, e2, ha]
    split
    · exact h.set _ (hearX_like took hl)
    · exact h
end Go.Proofs.YtjlliijeaekmfaaGreatDoor
namespace Go.Proofs.YtjlliijeaekmfaaGreatDoor
open Go.RowKit
/-- What a told book holds. -/
structure Cnt (now : Int) (fl : List Fx) (l : List Hx) (b : Bk) : Prop where
  now : b.now = now
  fl : b.fl = fl
  lk : Likes l b.hl
def hN (b : Bk) : Int := if bookB b then b.now else 0
def hF (b : Bk) : List Fx := if bookB b then b.fl else []
def hearL (b : Bk) (nm : ByteArray) (took : Bool) : List Hx := if bookB b then hearLS b nm took else []
def hearT (b : Bk) (nm : ByteArray) : Int := if bookB b then hearCS b nm else 1
theorem likes_nil : Likes [] [] := ⟨rfl, fun k h => absurd h (by simp)⟩
theorem ans_zero (z : Nat) (w : World) : AnsBk z w ⟨0, none, [], 0, none, [], 0⟩ := ⟨.inl rfl, .inl rfl, fun x h => by simp at h, by simp, fun k h => by simp at h⟩
theorem sp_zero (z : Nat) (w : World) : SpBk z w ⟨0, none, [], 0, none, [], 0⟩ := ⟨.inl ⟨rfl, rfl⟩, .inl ⟨rfl, rfl⟩, fun x h => by simp at h⟩
theorem implHear_ans {b b2 : Bk} {w : World} (nm : ByteArray) (took : Bool) (hL : Laid w) (h : Copied w b b2) (hnf : b.fl.length ≤ 1048576) (hs : ∀ f ∈ b.fl, f.n.size ≤ 9223372036854775807) (hnh : b.hl.length ≤ 1048576) (hfit : ∀ h ∈ b.hl, h.Fit) :
    Calls Tryz.prog 27 #[b2.val, .string nm, .bool took] w fun e w' => (∃ bi, e = .returned (.tuple #[Bk.val bi, .int .i64 (hearT b nm)]) ∧ Cnt (hN b) (hF b) (hearL b nm took) bi ∧ AnsBk w.heap.size w' bi) ∧ Below w.heap.size w w' := by
  refine (implHear_any b2 nm took w hL h.fs (by rw [h.fl]; exact hnf) (by rw [h.fl, h.fc]; exact Nat.le_refl _) (by rw [h.fc]; exact hnf) (by rw [h.fl]; exact hs) h.xs (by rw [h.likes.len]; exact hnh) (fun x hx => ⟨h.inn x hx, h.likes.fit hfit x hx⟩)).mono ?_
  rintro e w' ⟨hC, hb⟩
  refine ⟨?_, hb⟩
  rcases hC with ⟨hbk, rfl⟩ | ⟨hbk, b', i, f, b'', c, hp, ⟨rfl, rfl⟩, rfl, hO⟩
  · rw [book_like h] at hbk
    refine ⟨_, ?_, ⟨?_, ?_, ?_⟩, ans_zero _ _⟩
    · simp [hearT, hbk]
    · simp [hN, hbk]
    · simp [hF, hbk]
    · simp only [hearL, hbk]; exact likes_nil
  · obtain ⟨e1, e2, e3, e4⟩ := hear_agree (took := took) hbk hp
    obtain ⟨g1, g2⟩ := hearCS_like (b := b) (b1 := b2) h.likes nm took
    rw [book_like h] at hbk
    refine ⟨hearB b' i f took, ?_, ⟨?_, ?_, ?_⟩, hO.ans⟩
    · simp [hearT, hbk, e1, g1]
    · simp [hN, hbk, e2, h.now]
    · simp [hF, hbk, e3, h.fl]
    · simp only [hearL, hbk]; exact g2.trans e4
theorem specHear_ans {b b1 : Bk} {w : World} (nm : ByteArray) (took : Bool) (h : Copied w b b1) (hnf : b.fl.length ≤ 1048576) (hs : ∀ f ∈ b.fl, f.n.size ≤ 9223372036854775807) (hnh : b.hl.length ≤ 1048576) (hfit : ∀ h ∈ b.hl, h.Fit) :
    Calls Tryz.prog 26 #[b1.val, .string nm, .bool took] w fun e w' => (∃ bi, e = .returned (.tuple #[Bk.val bi, .int .i64 (hearT b nm)]) ∧ Cnt (hN b) (hF b) (hearL b nm took) bi ∧ SpBk w.heap.size w' bi) ∧ Below w.heap.size w w' := by
  have hok : SpecOk b1 w := fun W hb => by
    have := specBook_copy (h.later hb) hnf hs hnh hfit
    rw [← book_like h] at this
    exact this
  refine (specHear_any b1 nm took w hok h.fs (by rw [h.fl]; exact hnf) h.xs (by rw [h.likes.len]; exact hnh) (fun x hx => ⟨h.inn x hx, h.likes.fit hfit x hx⟩)).mono ?_
  rintro e w' ⟨hC, hb⟩
  refine ⟨?_, hb⟩
  obtain ⟨g1, g2⟩ := hearCS_like (b := b) (b1 := b1) h.likes nm took
  rcases hC with ⟨hbk, rfl⟩ | ⟨hbk, bi, rfl, e1, e2, e3, hA⟩
  · rw [book_like h] at hbk
    refine ⟨_, ?_, ⟨?_, ?_, ?_⟩, sp_zero _ _⟩
    · simp [hearT, hbk]
    · simp [hN, hbk]
    · simp [hF, hbk]
    · simp only [hearL, hbk]; exact likes_nil
  · rw [book_like h] at hbk
    refine ⟨bi, ?_, ⟨?_, ?_, ?_⟩, hA⟩
    · simp [hearT, hbk, g1]
    · simp [hN, hbk, e1, h.now]
    · simp [hF, hbk, e2, h.fl]
    · simp only [hearL, hbk]; exact g2.trans e3
theorem hearX_fit {x : Hx} (took : Bool) (h : x.Fit) : (hearX took x).Fit := by
  cases took with
  | true => exact ⟨h.nn, by simp [hearX], h.sn⟩
  | false => exact ⟨h.tn, by simp [hearX], h.sn⟩
theorem hearL_fit {b : Bk} {nm : ByteArray} {took : Bool} (hfit : ∀ h ∈ b.hl, h.Fit) : (∀ h ∈ hearL b nm took, h.Fit) ∧ (hearL b nm took).length ≤ 64 := by
  unfold hearL
  split
  · rename_i hbk
    have h16 := book_len hbk
    unfold hearLS
    split
    · split
      · rename_i x hx
        refine ⟨fun h hm => ?_, by simp; omega⟩
        rcases List.mem_or_eq_of_mem_set hm with hm | rfl
        · exact hfit h hm
        · exact hearX_fit took (hfit x (List.mem_of_getElem? hx))
      · exact ⟨hfit, by omega⟩
    · exact ⟨hfit, by omega⟩
  · exact ⟨fun h hm => by simp at hm, by simp⟩
/-- Two told books of the same are the same. -/
theorem eqBook_cnt {now : Int} {fl : List Fx} {l : List Hx} {z1 z2 : Nat} {x y : Bk} {w : World} (hx : Cnt now fl l x) (hy : Cnt now fl l y) (ax : AnsBk z1 w x) (ay : SpBk z2 w y) (hnf : fl.length ≤ 1048576) (hl : l.length ≤ 64) (hfit : ∀ h ∈ l, h.Fit) :
    Calls Tryz.prog 14 #[x.val, y.val] w fun e w' => e = .returned (.bool true) ∧ Below w.heap.size w w' := by
  have e1 : y.now = x.now := hy.now.trans hx.now.symm
  have e2 : y.fl = x.fl := hy.fl.trans hx.fl.symm
  have hf2 := OwnX.xs Fx.cells_length ay.f
  rw [e2] at hf2
  have := eqBook_like x y.fa y.fc y.ha y.hl y.hc w ax.fs hf2 (by rw [hx.fl]; exact hnf) ax.hs (OwnX.xs Hx.cells_length ay.h) (by rw [hx.lk.len]; omega) (fun h m => ⟨ax.inn h m, hx.lk.fit hfit h m⟩) ay.inn (hx.lk.symm.trans hy.lk)
  rw [← e1, ← e2] at this
  exact this
end Go.Proofs.YtjlliijeaekmfaaGreatDoor
