import Derived.WalkKit
namespace Go.Proofs.YtficfhcmbhlagabGreat
structure Sp where
  lo : Int
  hi : Int
abbrev Sp.val (s : Sp) : Value := .agg #[.int .i64 s.lo, .int .i64 s.hi]
def Sp.cells (s : Sp) : List Value := [.int .i64 s.lo, .int .i64 s.hi]
def memS (l : List Sp) (n : Int) : Prop := ∃ s ∈ l, s.lo ≤ n ∧ n ≤ s.hi
theorem memS_nil (n : Int) : ¬ memS [] n := by rintro ⟨s, hs, _⟩; simp at hs
theorem memS_append {l r : List Sp} {n : Int} : memS (l ++ r) n ↔ memS l n ∨ memS r n := by
  constructor
  · rintro ⟨s, hs, h⟩
    rcases List.mem_append.1 hs with h' | h'
    · exact .inl ⟨s, h', h⟩
    · exact .inr ⟨s, h', h⟩
  · rintro (⟨s, hs, h⟩ | ⟨s, hs, h⟩)
    · exact ⟨s, List.mem_append.2 (.inl hs), h⟩
    · exact ⟨s, List.mem_append.2 (.inr hs), h⟩
theorem memS_one {s : Sp} {n : Int} : memS [s] n ↔ s.lo ≤ n ∧ n ≤ s.hi := by
  constructor
  · rintro ⟨t, ht, h⟩; simp at ht; subst ht; exact h
  · intro h; exact ⟨s, by simp, h⟩
abbrev Apart (a b : Sp) : Prop := a.hi + 1 < b.lo
structure Canon (l : List Sp) : Prop where
  ne : ∀ s ∈ l, s.lo ≤ s.hi
  sep : l.Pairwise Apart
theorem canon_nil : Canon [] := ⟨by simp, List.Pairwise.nil⟩
theorem Canon.snoc {l : List Sp} {s : Sp} (h : Canon (l ++ [s])) : Canon l ∧ s.lo ≤ s.hi ∧ ∀ a ∈ l, Apart a s := by
  obtain ⟨h1, h2, h3⟩ := List.pairwise_append.1 h.sep
  exact ⟨⟨fun a ha => h.ne a (by simp [ha]), h1⟩, h.ne s (by simp), fun a ha => h3 a ha s (by simp)⟩
theorem Canon.add {l : List Sp} {s : Sp} (h : Canon l) (hs : s.lo ≤ s.hi) (ha : ∀ a ∈ l, Apart a s) : Canon (l ++ [s]) :=
  ⟨fun a m => by rcases List.mem_append.1 m with m | m; exact h.ne a m; simp at m; subst m; exact hs, List.pairwise_append.2 ⟨h.sep, by simp, fun a m b mb => by simp at mb; subst mb; exact ha a m⟩⟩
/-- Where the walk of 'with' stands behind the spans p. -/
structure WInv (m0 : Sp) (p A B : List Sp) (m : Sp) : Prop where
  ca : Canon A
  cb : Canon B
  am : ∀ a ∈ A, Apart a m
  mb : ∀ b ∈ B, Apart m b
  ne : m.lo ≤ m.hi
  sa : ∀ a ∈ A, a ∈ p
  sb : ∀ b ∈ B, b ∈ p
  mem : ∀ n, (memS A n ∨ (m.lo ≤ n ∧ n ≤ m.hi) ∨ memS B n) ↔ (memS p n ∨ (m0.lo ≤ n ∧ n ≤ m0.hi))
  inb : ∀ c d : Int, c ≤ m0.lo → m0.hi ≤ d → (∀ s ∈ p, c ≤ s.lo ∧ s.hi ≤ d) → c ≤ m.lo ∧ m.hi ≤ d
  ln : A.length + B.length ≤ p.length
theorem wInv_start (m : Sp) (h : m.lo ≤ m.hi) : WInv m [] [] [] m :=
  ⟨canon_nil, canon_nil, by simp, by simp, h, by simp, by simp, fun n => by simp [memS_nil], fun c d h1 h2 _ => ⟨h1, h2⟩, by simp⟩
theorem WInv.ahead {m0 m s : Sp} {p A B : List Sp} (h : WInv m0 p A B m) (hc : Canon (p ++ [s])) (hs : s.hi + 1 < m.lo) : WInv m0 (p ++ [s]) (A ++ [s]) B m := by
  obtain ⟨_, hn, hp⟩ := hc.snoc
  refine ⟨h.ca.add hn (fun a ha => hp a (h.sa a ha)), h.cb, fun a ha => ?_, h.mb, h.ne, fun a ha => ?_, fun b hb => by simp [h.sb b hb], fun n => ?_, fun c d h1 h2 h3 => h.inb c d h1 h2 (fun s hs => h3 s (by simp [hs])), by have := h.ln; simp; omega⟩
  · rcases List.mem_append.1 ha with m | m
    · exact h.am a m
    · simp at m; subst m; exact hs
  · rcases List.mem_append.1 ha with m | m
    · simp [h.sa a m]
    · simp at m; simp [m]
  · have := h.mem n
    rw [memS_append, memS_append]
    constructor
    · rintro ((g | g) | g | g)
      · rcases this.1 (.inl g) with g | g
        · exact .inl (.inl g)
        · exact .inr g
      · exact .inl (.inr g)
      · rcases this.1 (.inr (.inl g)) with g | g
        · exact .inl (.inl g)
        · exact .inr g
      · rcases this.1 (.inr (.inr g)) with g | g
        · exact .inl (.inl g)
        · exact .inr g
    · rintro ((g | g) | g)
      · rcases this.2 (.inl g) with g | g | g
        · exact .inl (.inl g)
        · exact .inr (.inl g)
        · exact .inr (.inr g)
      · exact .inl (.inr g)
      · rcases this.2 (.inr g) with g | g | g
        · exact .inl (.inl g)
        · exact .inr (.inl g)
        · exact .inr (.inr g)
theorem WInv.behind {m0 m s : Sp} {p A B : List Sp} (h : WInv m0 p A B m) (hc : Canon (p ++ [s])) (hs : m.hi + 1 < s.lo) : WInv m0 (p ++ [s]) A (B ++ [s]) m := by
  obtain ⟨_, hn, hp⟩ := hc.snoc
  refine ⟨h.ca, h.cb.add hn (fun a ha => hp a (h.sb a ha)), h.am, fun a ha => ?_, h.ne, fun b hb => by simp [h.sa b hb], fun a ha => ?_, fun n => ?_, fun c d h1 h2 h3 => h.inb c d h1 h2 (fun s hs => h3 s (by simp [hs])), by have := h.ln; simp; omega⟩
  · rcases List.mem_append.1 ha with m | m
    · exact h.mb a m
    · simp at m; subst m; exact hs
  · rcases List.mem_append.1 ha with m | m
    · simp [h.sb a m]
    · simp at m; simp [m]
  · have := h.mem n
    rw [memS_append, memS_append]
    constructor
    · rintro (g | g | (g | g))
      · rcases this.1 (.inl g) with g | g
        · exact .inl (.inl g)
        · exact .inr g
      · rcases this.1 (.inr (.inl g)) with g | g
        · exact .inl (.inl g)
        · exact .inr g
      · rcases this.1 (.inr (.inr g)) with g | g
        · exact .inl (.inl g)
        · exact .inr g
      · exact .inl (.inr g)
    · rintro ((g | g) | g)
      · rcases this.2 (.inl g) with g | g | g
        · exact .inl g
        · exact .inr (.inl g)
        · exact .inr (.inr (.inl g))
      · exact .inr (.inr (.inr g))
      · rcases this.2 (.inr g) with g | g | g
        · exact .inl g
        · exact .inr (.inl g)
        · exact .inr (.inr (.inl g))
theorem WInv.join {m0 m s : Sp} {p A B : List Sp} (h : WInv m0 p A B m) (hc : Canon (p ++ [s])) (h1 : ¬ s.hi + 1 < m.lo) (h2 : ¬ m.hi + 1 < s.lo) : WInv m0 (p ++ [s]) A B ⟨min m.lo s.lo, max m.hi s.hi⟩ := by
  obtain ⟨hcp, hn, hp⟩ := hc.snoc
  have hne := h.ne
  refine ⟨h.ca, h.cb, fun a ha => ?_, fun b hb => ?_, by show min m.lo s.lo ≤ max m.hi s.hi; omega, fun a ha => by simp [h.sa a ha], fun a ha => by simp [h.sb a ha], fun n => ?_, fun c d g1 g2 g3 => ?_, by have := h.ln; simp; omega⟩
  · have a1 := h.am a ha
    have a2 := hp a (h.sa a ha)
    unfold Apart at *
    show a.hi + 1 < min m.lo s.lo
    omega
  · have b1 := h.mb b hb
    have b2 := hp b (h.sb b hb)
    have b3 := h.cb.ne b hb
    unfold Apart at *
    omega
  · have := h.mem n
    rw [memS_append, memS_one]
    show (memS A n ∨ (min m.lo s.lo ≤ n ∧ n ≤ max m.hi s.hi) ∨ memS B n) ↔ _
    have key : (min m.lo s.lo ≤ n ∧ n ≤ max m.hi s.hi) ↔ ((m.lo ≤ n ∧ n ≤ m.hi) ∨ (s.lo ≤ n ∧ n ≤ s.hi)) := by omega
    rw [key]
    constructor
    · rintro (g | (g | g) | g)
      · rcases this.1 (.inl g) with g | g
        · exact .inl (.inl g)
        · exact .inr g
      · rcases this.1 (.inr (.inl g)) with g | g
        · exact .inl (.inl g)
        · exact .inr g
      · exact .inl (.inr g)
      · rcases this.1 (.inr (.inr g)) with g | g
        · exact .inl (.inl g)
        · exact .inr g
    · rintro ((g | g) | g)
      · rcases this.2 (.inl g) with g | g | g
        · exact .inl g
        · exact .inr (.inl (.inl g))
        · exact .inr (.inr g)
      · exact .inr (.inl (.inr g))
      · rcases this.2 (.inr g) with g | g | g
        · exact .inl g
        · exact .inr (.inl (.inl g))
        · exact .inr (.inr g)
  · have i1 := h.inb c d g1 g2 (fun s hs => g3 s (by simp [hs]))
    have i2 := g3 s (by simp)
    show c ≤ min m.lo s.lo ∧ max m.hi s.hi ≤ d
    omega
theorem WInv.canon {m0 m : Sp} {p A B : List Sp} (h : WInv m0 p A B m) : Canon (A ++ [m] ++ B) := by
  have h1 := h.ca.add h.ne h.am
  refine ⟨fun s hs => ?_, List.pairwise_append.2 ⟨h1.sep, h.cb.sep, fun a ha b hb => ?_⟩⟩
  · rcases List.mem_append.1 hs with g | g
    · exact h1.ne s g
    · exact h.cb.ne s g
  · have b1 := h.mb b hb
    rcases List.mem_append.1 ha with g | g
    · have a1 := h.am a g
      have := h.ne
      unfold Apart at *
      omega
    · simp at g; subst g; exact b1
theorem WInv.memAll {m0 m : Sp} {p A B : List Sp} (h : WInv m0 p A B m) (n : Int) : memS (A ++ [m] ++ B) n ↔ (memS p n ∨ (m0.lo ≤ n ∧ n ≤ m0.hi)) := by
  rw [memS_append, memS_append, memS_one, ← h.mem n, or_assoc]
theorem WInv.bound {m0 m : Sp} {p A B : List Sp} (h : WInv m0 p A B m) {c d : Int} (h1 : c ≤ m0.lo) (h2 : m0.hi ≤ d) (h3 : ∀ s ∈ p, c ≤ s.lo ∧ s.hi ≤ d) : ∀ s ∈ A ++ [m] ++ B, c ≤ s.lo ∧ s.hi ≤ d := by
  intro s hs
  rcases List.mem_append.1 hs with g | g
  · rcases List.mem_append.1 g with g | g
    · exact h3 s (h.sa s g)
    · simp at g; subst g; exact h.inb c d h1 h2 h3
  · exact h3 s (h.sb s g)
/-- Spans that stand for some of the numbers 0 to most. -/
structure Bars (most : Int) (l : List Sp) : Prop where
  c : Canon l
  b : ∀ s ∈ l, 0 ≤ s.lo ∧ s.hi ≤ most
theorem bars_nil (most : Int) : Bars most [] := ⟨canon_nil, by simp⟩
theorem canon_length : ∀ (l : List Sp) (c d : Int), Canon l → (∀ s ∈ l, c ≤ s.lo ∧ s.hi ≤ d) → (l.length : Int) ≤ max 0 (d + 1 - c)
  | [], c, d, _, _ => by simp; omega
  | a :: r, c, d, h, hb => by
    have ha := hb a (by simp)
    have hn := h.ne a (by simp)
    have hs := List.pairwise_cons.1 h.sep
    have := canon_length r (a.hi + 1) d ⟨fun s m => h.ne s (by simp [m]), hs.2⟩ (fun s m => ⟨by have := hs.1 s m; unfold Apart at this; omega, (hb s (by simp [m])).2⟩)
    simp only [List.length_cons]
    omega
theorem Bars.len {most : Int} {l : List Sp} (h : Bars most l) (hm : most ≤ 300) : l.length ≤ 301 := by
  have := canon_length l 0 most h.c h.b
  omega
/-- Two ways to say the same numbers are one. -/
theorem canon_uniq : ∀ (l m : List Sp), Canon l → Canon m → (∀ n, memS l n ↔ memS m n) → l = m
  | [], [], _, _, _ => rfl
  | [], b :: s, _, hm, h => absurd ((h b.lo).2 ⟨b, by simp, by omega, hm.ne b (by simp)⟩) (memS_nil _)
  | a :: r, [], hl, _, h => absurd ((h a.lo).1 ⟨a, by simp, by omega, hl.ne a (by simp)⟩) (memS_nil _)
  | a :: r, b :: s, hl, hm, h => by
    have na := hl.ne a (by simp)
    have nb := hm.ne b (by simp)
    have pa := List.pairwise_cons.1 hl.sep
    have pb := List.pairwise_cons.1 hm.sep
    have lowA : ∀ n, memS (a :: r) n → a.lo ≤ n ∧ (n ≤ a.hi ∨ a.hi + 1 < n) := by
      rintro n ⟨t, ht, g⟩
      rcases List.mem_cons.1 ht with rfl | ht
      · exact ⟨g.1, .inl g.2⟩
      · have := pa.1 t ht; unfold Apart at this; exact ⟨by omega, .inr (by omega)⟩
    have lowB : ∀ n, memS (b :: s) n → b.lo ≤ n ∧ (n ≤ b.hi ∨ b.hi + 1 < n) := by
      rintro n ⟨t, ht, g⟩
      rcases List.mem_cons.1 ht with rfl | ht
      · exact ⟨g.1, .inl g.2⟩
      · have := pb.1 t ht; unfold Apart at this; exact ⟨by omega, .inr (by omega)⟩
    have inA : ∀ n, a.lo ≤ n → n ≤ a.hi → memS (a :: r) n := fun n g1 g2 => ⟨a, by simp, g1, g2⟩
    have inB : ∀ n, b.lo ≤ n → n ≤ b.hi → memS (b :: s) n := fun n g1 g2 => ⟨b, by simp, g1, g2⟩
    have e1 : a.lo = b.lo := by
      have x1 := (lowA _ ((h b.lo).2 (inB _ (by omega) nb))).1
      have x2 := (lowB _ ((h a.lo).1 (inA _ (by omega) na))).1
      omega
    have e2 : a.hi = b.hi := by
      rcases (by omega : a.hi < b.hi ∨ a.hi = b.hi ∨ b.hi < a.hi) with g | g | g
      · have := (lowA _ ((h (a.hi + 1)).2 (inB _ (by omega) (by omega)))).2; omega
      · exact g
      · have := (lowB _ ((h (b.hi + 1)).1 (inA _ (by omega) (by omega)))).2; omega
    have eab : a = b := by cases a; cases b; simp_all
    subst eab
    have hr : r = s := canon_uniq r s ⟨fun t m => hl.ne t (by simp [m]), pa.2⟩ ⟨fun t m => hm.ne t (by simp [m]), pb.2⟩ fun n => by
      constructor
      · rintro ⟨t, ht, g⟩
        have hn := pa.1 t ht
        obtain ⟨u, hu, gu⟩ := (h n).1 ⟨t, by simp [ht], g⟩
        rcases List.mem_cons.1 hu with rfl | hu
        · unfold Apart at hn; omega
        · exact ⟨u, hu, gu⟩
      · rintro ⟨t, ht, g⟩
        have hn := pb.1 t ht
        obtain ⟨u, hu, gu⟩ := (h n).2 ⟨t, by simp [ht], g⟩
        rcases List.mem_cons.1 hu with rfl | hu
        · unfold Apart at hn; omega
        · exact ⟨u, hu, gu⟩
    rw [hr]
/-- The least number of 0 to most that is not barred. -/
def Earl (most : Int) (bar : Int → Prop) : Option Int → Prop
  | some d => 0 ≤ d ∧ d ≤ most ∧ ¬ bar d ∧ ∀ e, 0 ≤ e → e < d → bar e
  | none => ∀ e, 0 ≤ e → e ≤ most → bar e
theorem earl_uniq {most : Int} {p q : Int → Prop} (h : ∀ d, 0 ≤ d → d ≤ most → (p d ↔ q d)) : ∀ {a b : Option Int}, Earl most p a → Earl most q b → a = b
  | none, none, _, _ => rfl
  | some d, none, h1, h2 => absurd ((h d h1.1 h1.2.1).2 (h2 d h1.1 h1.2.1)) h1.2.2.1
  | none, some d, h1, h2 => absurd ((h d h2.1 h2.2.1).1 (h1 d h2.1 h2.2.1)) h2.2.2.1
  | some d, some e, h1, h2 => by
    rcases (by omega : d < e ∨ d = e ∨ e < d) with g | g | g
    · exact absurd ((h d h1.1 h1.2.1).2 (h2.2.2.2 d h1.1 g)) h1.2.2.1
    · rw [g]
    · exact absurd ((h e h2.1 h2.2.1).1 (h1.2.2.2 e h2.1 g)) h2.2.2.1
/-- The walk of 'leastOutside' behind the spans p. -/
structure LInv (l p : List Sp) (least : Int) : Prop where
  lo : 0 ≤ least
  all : ∀ e, 0 ≤ e → e < least → memS l e
  no : ¬ memS p least
end Go.Proofs.YtficfhcmbhlagabGreat
