import Derived.Test.YtjlliijeaekmfaaGreatDoorDt
import Derived.Test.YtjlliijeaekmfaaGreatDoorEa
namespace Go.Proofs.YtjlliijeaekmfaaGreatDoor
open Go.RowKit Go.Shelf
attribute [local go_sem] Oper.semAt_some
theorem atI_cases (l : List Hx) (nm : ByteArray) : atI l nm = -1 ∨ ∃ j, j < l.length ∧ atI l nm = (j : Int) := by
  unfold atI
  cases h : l.findIdx? (fun h => h.n.toList == nm.toList) with
  | none => exact .inl rfl
  | some i => exact .inr ⟨i, (List.findIdx?_eq_some_iff_getElem.1 h).1, rfl⟩
/-- One who holds something is changed, in the model's book. -/
theorem SpBk.put {z : Nat} {w w' : World} {b : Bk} {g cap i n : Nat} {x' : Hx} {f : Nat → Value} (h : SpBk z w b) (ha : b.ha = some ⟨g, 0, none⟩) (hgz : z ≤ g) (hr : w.rowIs g 87 n f) (hb : But (fun k => k = g) w w') (hR : RowX 87 3 Hx.cells w' g cap (b.hl.set i x') b.hl.length) (hcap : b.hl.length ≤ cap) (hc : b.hc = cap) (hx : TOwn z w' x') :
    SpBk z w' ⟨b.now, b.fa, b.fl, b.fc, b.ha, b.hl.set i x', b.hc⟩ := by
  refine ⟨?_, .inr ⟨g, cap, by rw [ha, hc], hgz, by simpa using hcap, by simpa using hR⟩, fun y hy => ?_⟩
  · rcases h.f with e | ⟨p, cp, e, h1, h2, f3, h3, h4⟩
    · exact .inl e
    · refine .inr ⟨p, cp, e, h1, h2, f3, h3.of_block (hb.block p h3.lt (fun e => ?_)), h4⟩
      have e' : p = g := e
      subst e'
      exact absurd (row_type hr h3) (by decide)
  · rcases List.mem_or_eq_of_mem_set hy with hy | rfl
    · exact (h.t y hy).butHeld hr hb
    · exact hx
def T10 (X g n cap j : Nat) (na : Value) (i : Nat) (v : Value) (_w : World) : Prop :=
  match i with
  | 0 => v = .pointer (some ⟨X, 2, none⟩)
  | 1 => v = .slice (some ⟨g, 0, none⟩) n cap
  | 2 => v = .int .i64 (j : Int)
  | 3 => v = .pointer (some ⟨X, 2, none⟩)
  | 4 => v = .slice (some ⟨g, 0, none⟩) n cap
  | 5 => v = .int .i64 (j : Int)
  | 6 => v = .pointer (some ⟨g, j * 3, none⟩)
  | 7 => v = .pointer (some ⟨g, j * 3 + 2, none⟩)
  | 8 => v = na
  | _ => True
theorem T10.later {X g n cap j : Nat} {na : Value} (i : Nat) (v : Value) (w w' : World) (h : T10 X g n cap j na i v w) (_ : Below w.heap.size w w') : T10 X g n cap j na i v w' := h
theorem own_none {w : World} {z E : Nat} (hE : w.heap[E]? = some (.cells #[] 111)) (hz : z ≤ E) : OwnBx w z (.slice (some ⟨E, 0, none⟩) ([] : List Bx).length 0) [] :=
  .inr ⟨E, 0, rfl, hz, Nat.le_refl _, fun _ => undef, ⟨#[], hE, rfl, fun i hi => absurd hi (by omega)⟩, fun i hi => absurd hi (by simp)⟩
/-- The model's look at a book, here and later. -/
def SpecOk (b : Bk) (w : World) : Prop := ∀ W, Below w.heap.size w W → Calls Tryz.prog 40 #[b.val] W fun e w' => e = .returned (.bool (bookB b)) ∧ Below W.heap.size W w'
/-- What the model's book is behind an answer. -/
def hearCS (b : Bk) (nm : ByteArray) : Int := if atI b.hl nm < 0 then 6 else (match b.hl[(atI b.hl nm).toNat]? with | some x => if x.nl = [] then 8 else 0 | none => 6)
def hearLS (b : Bk) (nm : ByteArray) (took : Bool) : List Hx := if hearCS b nm = 0 then (match b.hl[(atI b.hl nm).toNat]? with | some x => b.hl.set (atI b.hl nm).toNat (hearX took x) | none => b.hl) else b.hl
/-- An answer of the model: a code, and a book of the lists. -/
def SpecTold (b : Bk) (l : List Hx) (c : Int) (z : Nat) (e : Ending) (w' : World) : Prop :=
  (bookB b = false ∧ e = .returned (.tuple #[Bk.val ⟨0, none, [], 0, none, [], 0⟩, .int .i64 1])) ∨
  (bookB b = true ∧ ∃ b' : Bk, e = .returned (.tuple #[b'.val, .int .i64 c]) ∧ b'.now = b.now ∧ b'.fl = b.fl ∧ Likes l b'.hl ∧ SpBk z w' b')
set_option maxRecDepth 100000 in
set_option maxHeartbeats 8000000 in
theorem specHear_any (b : Bk) (nm : ByteArray) (took : Bool) (w : World) (hok : SpecOk b w) (hf : Xs 3 Fx.cells w b.fa b.fl) (hnf : b.fl.length ≤ 1048576) (hh : Xs 3 Hx.cells w b.ha b.hl) (hnh : b.hl.length ≤ 1048576) (hg : ∀ h ∈ b.hl, h.In w ∧ h.Fit) :
    Calls Tryz.prog 26 #[b.val, .string nm, .bool took] w fun e w' => SpecTold b (hearLS b nm took) (hearCS b nm) w.heap.size e w' ∧ Below w.heap.size w w' := by
  have hB0 : Below w.heap.size w ((w.alloc b.obj).alloc (.cells #[.int .i64 0, .slice none 0 0, .slice none 0 0] 35)) := balloc (balloc (Below.refl _ _) _) _
  have A0 := (Below.heap_alloc (w.alloc b.obj) (.cells #[.int .i64 0, .slice none 0 0, .slice none 0 0] 35) w.heap.size (by simp)).trans (World.alloc_heap_new w b.obj)
  have R0 := World.alloc_heap_new (w.alloc b.obj) (.cells #[.int .i64 0, .slice none 0 0, .slice none 0 0] 35)
  rw [World.size_alloc] at R0
  go_enter Tryz.func26, Tryz.ntmps26
  go_wp2_with fail
  obtain ⟨W0, hW0⟩ : ∃ W0, (w.alloc b.obj).alloc (.cells #[.int .i64 0, .slice none 0 0, .slice none 0 0] 35) = W0 := ⟨_, rfl⟩
  rw [hW0] at hB0 A0 R0 ⊢
  have hz1 : w.heap.size + 1 < W0.heap.size := (Array.getElem?_eq_some_iff.1 R0).1
  clear hW0
  refine (hok W0 hB0).mono ?_
  rintro e w1 ⟨rfl, hb1⟩
  have N1 := bstep hB0 hb1
  have A1 := blk A0 hb1
  have R1 := blk R0 hb1
  have hs1 := hb1.size
  clear A0 R0 hb1 hB0 hok
  have hset : ∀ (X : World) (u v x : Value), But (fun k => k = w.heap.size + 1) X (((X.setCell ⟨w.heap.size + 1, 0, none⟩ u).setCell ⟨w.heap.size + 1, 1, none⟩ v).setCell ⟨w.heap.size + 1, 2, none⟩ x) := fun X u v x => (((But.refl (fun k => k = w.heap.size + 1) X).set (g := w.heap.size + 1) rfl _ _).set (g := w.heap.size + 1) rfl _ _).set (g := w.heap.size + 1) rfl _ _
  cases hbk : bookB b with
  | false =>
    have HBK : Hid _ := hbk
    have r0 : w1.cell? ⟨w.heap.size + 1, 0, none⟩ = some (.int .i64 0) := objc R1 rfl
    have r1 : w1.cell? ⟨w.heap.size + 1, 1, none⟩ = some (.slice none 0 0) := objc R1 rfl
    have r2 : w1.cell? ⟨w.heap.size + 1, 2, none⟩ = some (.slice none 0 0) := objc R1 rfl
    have rf : ∀ i, w1.frozen? ⟨w.heap.size + 1, i, none⟩ = false := fun i => by simp [World.frozen?, R1]
    clear A1 R1 hbk
    go_wp2_with fail
    exact bodyPost_ret (v := .tuple #[Bk.val ⟨0, none, [], 0, none, [], 0⟩, .int .i64 1]) (by simp [results, Tryz.results26, go_sem, r0, r1, r2]) rfl ⟨.inl ⟨HBK.out, rfl⟩, (hset w1 _ _ _).under N1 (Nat.le_refl _) (fun k hk => by rw [hk]; omega)⟩
  | true =>
    have HBK : Hid _ := hbk
    have k0 : w1.cell? ⟨w.heap.size, 0, none⟩ = some (.int .i64 b.now) := objc A1 rfl
    have k1 : w1.cell? ⟨w.heap.size, 1, none⟩ = some (.slice b.fa b.fl.length b.fc) := objc A1 rfl
    have k2 : w1.cell? ⟨w.heap.size, 2, none⟩ = some (.slice b.ha b.hl.length b.hc) := objc A1 rfl
    have HA1 : Hid _ := A1
    have HR1 : Hid _ := R1
    clear A1 R1 hbk
    go_wp2_with fail
    refine (l2Copy_any b w1 (hf.later N1) hnf (hh.later N1) hnh (fun h m => ⟨(hg h m).1.later N1, (hg h m).2⟩)).mono ?_
    rintro e w2 ⟨⟨x, rfl, e1, e2, hlk, hA⟩, hb2⟩
    have hbx : Below w2.heap.size w2 (w2.alloc x.obj) := balloc (Below.refl _ _) _
    have X3 := World.alloc_heap_new w2 x.obj
    have N3 := bstep (bstep N1 hb2) hbx
    have A3 := blk (blk HA1.out hb2) hbx
    have HR3 : Hid _ := blk (blk HR1.out hb2) hbx
    have hA3 := hA.later hbx
    have hs2 := hb2.size
    obtain ⟨w3, hw3⟩ : ∃ w3, w2.alloc x.obj = w3 := ⟨_, rfl⟩
    rw [hw3] at X3 N3 A3 HR3 hA3
    have HX3 : Hid _ := X3
    have HA3 : Hid _ := A3
    have HS3 : Hid _ := hA3
    have HE1 : Hid _ := e1
    have HE2 : Hid _ := e2
    have HLK : Hid _ := hlk
    have hs3 : w2.heap.size < w3.heap.size := (Array.getElem?_eq_some_iff.1 X3).1
    clear k0 k1 k2
    have k0 : w3.cell? ⟨w.heap.size, 0, none⟩ = some (.int .i64 b.now) := objc A3 rfl
    have k1 : w3.cell? ⟨w.heap.size, 1, none⟩ = some (.slice b.fa b.fl.length b.fc) := objc A3 rfl
    have k2 : w3.cell? ⟨w.heap.size, 2, none⟩ = some (.slice b.ha b.hl.length b.hc) := objc A3 rfl
    clear X3 A3 hA3 hA hbx hb2 N1 HA1 HR1 e1 e2 hlk
    go_wp2_with fail
    clear hw3
    refine (l2At_any b nm w3 (hh.later N3) hnh).mono ?_
    rintro e w4 ⟨rfl, hb4⟩
    have N4 := bstep N3 hb4
    have X4 := blk HX3.out hb4
    have A4 := blk HA3.out hb4
    have HR4 : Hid _ := blk HR3.out hb4
    have HS4 : Hid _ := HS3.out.later hb4
    have hs4 := hb4.size
    clear k0 k1 k2 hb4 HX3 HA3 HR3 HS3 N3
    -- how it ends, with the book as it is
    have HEnd : Hid (∀ (X : World) (y : Bk), y.now = b.now → y.fl = b.fl → Below w.heap.size w X → SpBk w1.heap.size X y → ∀ l c, Likes l y.hl → hearLS b nm took = l → hearCS b nm = c → SpecTold b (hearLS b nm took) (hearCS b nm) w.heap.size (.returned (.tuple #[y.val, .int .i64 c])) (((X.setCell ⟨w.heap.size + 1, 0, none⟩ (.int .i64 y.now)).setCell ⟨w.heap.size + 1, 1, none⟩ (.slice y.fa y.fl.length y.fc)).setCell ⟨w.heap.size + 1, 2, none⟩ (.slice y.ha y.hl.length y.hc)) ∧ Below w.heap.size w (((X.setCell ⟨w.heap.size + 1, 0, none⟩ (.int .i64 y.now)).setCell ⟨w.heap.size + 1, 1, none⟩ (.slice y.fa y.fl.length y.fc)).setCell ⟨w.heap.size + 1, 2, none⟩ (.slice y.ha y.hl.length y.hc))) := fun X y h1 h2 hN hS l c hl el ec => by
      refine ⟨.inr ⟨HBK.out, y, by rw [ec], h1, h2, by rw [el]; exact hl, (hS.but (hset X _ _ _) (fun k hk => by rw [hk]; omega)).weak (by omega)⟩, (hset X _ _ _).under hN (Nat.le_refl _) (fun k hk => by rw [hk]; omega)⟩
    obtain ⟨at0, hat⟩ : ∃ at0, atI b.hl nm = at0 := ⟨_, rfl⟩
    have r0 : w4.cell? ⟨w.heap.size + 1, 0, none⟩ = some (.int .i64 0) := objc HR4.out rfl
    have r1 : w4.cell? ⟨w.heap.size + 1, 1, none⟩ = some (.slice none 0 0) := objc HR4.out rfl
    have r2 : w4.cell? ⟨w.heap.size + 1, 2, none⟩ = some (.slice none 0 0) := objc HR4.out rfl
    have rf : ∀ i, w4.frozen? ⟨w.heap.size + 1, i, none⟩ = false := fun i => by simp [World.frozen?, HR4.out]
    have x0 : w4.cell? ⟨w2.heap.size, 0, none⟩ = some (.int .i64 x.now) := objc X4 rfl
    have x1 : w4.cell? ⟨w2.heap.size, 1, none⟩ = some (.slice x.fa x.fl.length x.fc) := objc X4 rfl
    have x2 : w4.cell? ⟨w2.heap.size, 2, none⟩ = some (.slice x.ha x.hl.length x.hc) := objc X4 rfl
    rcases atI_cases b.hl nm with h | ⟨j, hj, h⟩
    · have hneg : decide (atI b.hl nm < 0) = true := by rw [h]; rfl
      have HC : Hid (hearCS b nm = 6 ∧ hearLS b nm took = b.hl) := by
        have h6 : hearCS b nm = 6 := by unfold hearCS; rw [h]; rfl
        exact ⟨h6, by unfold hearLS; rw [h6]; rfl⟩
      clear h hat X4 A4
      generalize atI b.hl nm = at1 at hneg
      have HN4 : Hid _ := N4
      go_wp2_with fail
      exact bodyPost_ret (v := .tuple #[x.val, .int .i64 6]) (by simp [results, Tryz.results26, go_sem, r0, r1, r2]) rfl (HEnd.out w4 x HE1.out HE2.out HN4.out HS4.out _ _ HLK.out HC.out.2 HC.out.1)
    · obtain ⟨bl, off, ea, hc⟩ : ∃ bl off, b.ha = some ⟨bl, off, none⟩ ∧ ∀ k (h : k < b.hl.length), CellsAt w bl (off + k * 3) b.hl[k].cells := by
        rcases hh with h | h
        · rw [h] at hj; simp at hj
        · exact h
      obtain ⟨e0, e1, e2⟩ := hx_at ((hc j hj).later N4)
      have k2 : w4.cell? ⟨w.heap.size, 2, none⟩ = some (.slice (some ⟨bl, off, none⟩) b.hl.length b.hc) := by rw [← ea]; exact objc A4 rfl
      have hnn := (hg b.hl[j] (List.getElem_mem hj)).2.nn
      rw [h]
      cases hnl : b.hl[j].nl with
      | nil =>
        have HC : Hid (hearCS b nm = 8 ∧ hearLS b nm took = b.hl) := by
          have h8 : hearCS b nm = 8 := by
            unfold hearCS
            rw [h, if_neg (by omega)]
            simp [List.getElem?_eq_getElem hj, hnl]
          exact ⟨h8, by unfold hearLS; rw [h8]; rfl⟩
        rw [hnl] at e2
        have HN4 : Hid _ := N4
        clear h hat X4 A4 hc ea hnl e0 e1
        go_wp2_with fail
        exact bodyPost_ret (v := .tuple #[x.val, .int .i64 8]) (by simp [results, Tryz.results26, go_sem, r0, r1, r2]) rfl (HEnd.out w4 x HE1.out HE2.out HN4.out HS4.out _ _ HLK.out HC.out.2 HC.out.1)
      | cons y ys =>
        have HC : Hid (hearCS b nm = 0 ∧ hearLS b nm took = b.hl.set j (hearX took b.hl[j])) := by
          have h0 : hearCS b nm = 0 := by
            unfold hearCS
            rw [h, if_neg (by omega)]
            simp [List.getElem?_eq_getElem hj, hnl]
          refine ⟨h0, ?_⟩
          unfold hearLS
          rw [h0, h]
          simp [List.getElem?_eq_getElem hj]
        have hlen : 0 < b.hl[j].nl.length := by rw [hnl]; simp
        have hz2 : ((b.hl[j].nl.length : Int) == 0) = false := beq_false_of_ne (by omega)
        have hjx : j < x.hl.length := by rw [HLK.out.len]; exact hj
        obtain ⟨y, hy⟩ : ∃ y, y = x.hl[j] := ⟨_, rfl⟩
        have hlike : b.hl[j].Like y := by rw [hy]; exact HLK.out.like j hj
        obtain ⟨g, cap, hxa, hxc, hgz, hcap, f, hrw, hfr⟩ : ∃ g cap, x.ha = some ⟨g, 0, none⟩ ∧ x.hc = cap ∧ w1.heap.size ≤ g ∧ x.hl.length ≤ cap ∧ RowX 87 3 Hx.cells w4 g cap x.hl x.hl.length := by
          rcases HS4.out.h with ⟨_, e⟩ | ⟨g, cap, e, h1, h2, h3⟩
          · rw [e] at hjx; simp at hjx
          · simp only [Value.slice.injEq] at e
            exact ⟨g, cap, e.1, e.2.2, h1, h2, h3⟩
        have hXg : w2.heap.size ≠ g := fun e => by
          obtain ⟨cs, hcs, _⟩ := hrw
          rw [← e, X4] at hcs
          cases hcs
        have hRg : w.heap.size + 1 ≠ g := by omega
        have HY : Hid _ := hy
        have HXa : Hid _ := hxa
        have HXc : Hid (x.hc = cap) := hxc
        have HTy : Hid (TOwn w1.heap.size w4 y) := HS4.out.t y (by rw [hy]; exact List.getElem_mem hjx)
        have HFr : Hid _ := hfr
        rw [hxa, hxc] at x2
        have f1 := hrw.cell (i := j * 3 + 1) (by omega)
        have f2 := hrw.cell (i := j * 3 + 2) (by omega)
        rw [show f (j * 3 + 1) = .slice y.ta y.tl.length y.tc from by rw [hy]; exact hfr j hjx hjx 1 _ rfl] at f1
        rw [show f (j * 3 + 2) = .slice y.na y.nl.length y.nc from by rw [hy]; exact hfr j hjx hjx 2 _ rfl] at f2
        have cf := fun i => hrw.frozen i
        have hjb : (j : Int) < (b.hl.length : Int) := by omega
        have hjx2 : (j : Int) < (x.hl.length : Int) := by omega
        have hxl : x.hl.length ≤ 1048576 := by rw [HLK.out.len]; exact hnh
        cases took with
        | false =>
          have HLs : Hid (∀ y' : Hx, (hearX false b.hl[j]).Like y' → Likes (b.hl.set j (hearX false b.hl[j])) (x.hl.set j y')) := fun y' h => HLK.out.set j h
          have hLk : (hearX false b.hl[j]).Like ⟨y.n, y.ta, y.tl, y.tc, some ⟨w4.heap.size, 0, none⟩, [], 0⟩ := ⟨hlike.n, hlike.t, rfl⟩
          have HLk : Hid _ := hLk
          have hba : But (fun k => k = g) w4 w4 := But.refl _ _
          have hra : w4.rowIs g 87 (cap * 3) (fun i => if i = j * 3 + 1 then .slice y.ta y.tl.length y.tc else f i) := by
            have h2 : f = (fun i => if i = j * 3 + 1 then .slice y.ta y.tl.length y.tc else f i) := by
              funext i
              by_cases e : i = j * 3 + 1
              · subst e
                rw [if_pos rfl, HY.out]
                exact HFr.out j hjx hjx 1 _ rfl
              · rw [if_neg e]
            rw [← h2]
            exact hrw
          have hWE := World.alloc_heap_new w4 (.cells #[] 111)
          have hrb := hra.alloc (.cells #[] 111)
          have hrc := hrb.set (j * 3 + 2) (.slice (some ⟨w4.heap.size, 0, none⟩) 0 0)
          have hbc : But (fun k => k = g) w4 ((w4.alloc (.cells #[] 111)).setCell ⟨g, j * 3 + 2, none⟩ (.slice (some ⟨w4.heap.size, 0, none⟩) 0 0)) := (hba.trans (But.below (balloc (Below.refl _ _) _))).set (g := g) rfl _ _
          have hEc := obj_setOther hWE (p := ⟨g, j * 3 + 2, none⟩) (by show w4.heap.size ≠ g; have := hra.lt; omega) (.slice (some ⟨w4.heap.size, 0, none⟩) 0 0)
          have cb := hrb.cell (i := j * 3 + 2) (by omega)
          have cfb := fun i => hrb.frozen i
          have xb2 : (w4.alloc (.cells #[] 111)).cell? ⟨w2.heap.size, 2, none⟩ = some (.slice (some ⟨g, 0, none⟩) x.hl.length cap) := (hba.trans (But.below (balloc (Below.refl _ _) _))).cell (p := ⟨w2.heap.size, 2, none⟩) hXg x2
          have xa2 : w4.cell? ⟨w2.heap.size, 2, none⟩ = some (.slice (some ⟨g, 0, none⟩) x.hl.length cap) := hba.cell (p := ⟨w2.heap.size, 2, none⟩) hXg x2
          have y0 := hbc.cell (p := ⟨w2.heap.size, 0, none⟩) hXg x0
          have y1 := hbc.cell (p := ⟨w2.heap.size, 1, none⟩) hXg x1
          have y2 := hbc.cell (p := ⟨w2.heap.size, 2, none⟩) hXg x2
          have s0 := hbc.cell (p := ⟨w.heap.size + 1, 0, none⟩) hRg r0
          have s1 := hbc.cell (p := ⟨w.heap.size + 1, 1, none⟩) hRg r1
          have s2 := hbc.cell (p := ⟨w.heap.size + 1, 2, none⟩) hRg r2
          have sB := blk_but HR4.out hbc hRg
          have hza : w4.heap.size ≥ w1.heap.size := by omega
          have hSp : SpBk w1.heap.size ((w4.alloc (.cells #[] 111)).setCell ⟨g, j * 3 + 2, none⟩ (.slice (some ⟨w4.heap.size, 0, none⟩) 0 0)) ⟨x.now, x.fa, x.fl, x.fc, x.ha, x.hl.set j ⟨y.n, y.ta, y.tl, y.tc, some ⟨w4.heap.size, 0, none⟩, [], 0⟩, x.hc⟩ :=
            HS4.out.put HXa.out hgz hrw hbc (RowX.lists (h := y) hrc HFr.out (by rw [HY.out]; exact List.getElem?_eq_getElem hjx) rfl) hcap HXc.out ⟨(HTy.out.butHeld hrw hbc).t, own_none hEc (by omega)⟩
          have HSp : Hid _ := hSp
          have HNc : Hid _ := hbc.under N4 (Nat.le_refl _) (fun k hk => by have hk' : k = g := hk; omega)
          obtain ⟨Wb, hWb⟩ : ∃ Wb, w4.alloc (.cells #[] 111) = Wb := ⟨_, rfl⟩
          rw [hWb] at cb cfb xb2 y0 y1 y2 s0 s1 s2 sB HSp HNc
          obtain ⟨Wc, hWc⟩ : ∃ Wc, Wb.setCell ⟨g, j * 3 + 2, none⟩ (.slice (some ⟨w4.heap.size, 0, none⟩) 0 0) = Wc := ⟨_, rfl⟩
          rw [hWc] at y0 y1 y2 s0 s1 s2 sB HSp HNc
          have sf : ∀ i, Wc.frozen? ⟨w.heap.size + 1, i, none⟩ = false := fun i => by simp [World.frozen?, sB]
          clear hrb hrc hbc hEc hWE hSp sB hra hba x0 x1 x2 r0 r1 r2 rf
          clear f1 f2 cf hrw hfr hy hxa hxc h hat X4 A4 hc ea hnl e0 e1 hlike hLk
          go_wp2_with fail
          have hle : (x.hl.set j (⟨y.n, y.ta, y.tl, y.tc, some ⟨w4.heap.size, 0, none⟩, [], 0⟩ : Hx)).length = x.hl.length := by simp
          exact bodyPost_ret (v := .tuple #[Bk.val ⟨x.now, x.fa, x.fl, x.fc, x.ha, x.hl.set j ⟨y.n, y.ta, y.tl, y.tc, some ⟨w4.heap.size, 0, none⟩, [], 0⟩, x.hc⟩, .int .i64 0]) (by simp [results, Tryz.results26, go_sem, s0, s1, s2, HXa.out, HXc.out]) rfl (by
            have := HEnd.out Wc ⟨x.now, x.fa, x.fl, x.fc, x.ha, x.hl.set j ⟨y.n, y.ta, y.tl, y.tc, some ⟨w4.heap.size, 0, none⟩, [], 0⟩, x.hc⟩ HE1.out HE2.out HNc.out HSp.out _ _ (HLs.out _ HLk.out) HC.out.2 HC.out.1
            simpa [HXa.out, HXc.out] using this)
        | true =>
          have HLs : Hid (∀ y' : Hx, (hearX true b.hl[j]).Like y' → Likes (b.hl.set j (hearX true b.hl[j])) (x.hl.set j y')) := fun y' h => HLK.out.set j h
          have HLi : Hid _ := hlike
          have HRw : Hid (w4.rowIs g 87 (cap * 3) f) := hrw
          clear hfr hy hxa hxc h hat X4 A4 hc ea hnl e0 e1 hlike hrw
          go_wp2_with fail
          have hrw := HRw.out
          refine wpIn_wide.1 (wpIn_region_valsB (F := Fence.wide) (n := 0) (by kernel_rfl) 9 [some 32, some 33, some 34, some 35, some 36, some 37, some 38, some 39, some 40] (by decide) (T10 w2.heap.size g x.hl.length cap j (.slice y.na y.nl.length y.nc)) T10.later (by kernel_rfl) (by kernel_rfl) (by kernel_rfl) ?step ?fin)
          case step =>
            intro i o vs w' hi' ho hB hd
            match i, hi' with
            | 0, _ =>
              simp at ho
              subst ho
              simp only [putD, Act.put]
              gi_wp2
              exact ⟨_, by simp [upd], rfl, Below.refl _ _⟩
            | 1, _ =>
              simp at ho
              subst ho
              have d0 : vs 0 = _ := hd { on := 0, ground := Ground.data } (by simp) rfl
              have kx : w'.cell? ⟨w2.heap.size, 2, none⟩ = some (.slice (some ⟨g, 0, none⟩) x.hl.length cap) := (hB.cell (cell_lt x2)).trans x2
              simp only [putD, Act.put]
              rw [d0]
              gi_wp2
              exact ⟨_, by simp [upd, d0], rfl, Below.refl _ _⟩
            | 2, _ =>
              simp at ho
              subst ho
              simp only [putD, Act.put]
              gi_wp2
              exact ⟨_, by simp [upd], rfl, Below.refl _ _⟩
            | 3, _ =>
              simp at ho
              subst ho
              simp only [putD, Act.put]
              gi_wp2
              exact ⟨_, by simp [upd], rfl, Below.refl _ _⟩
            | 4, _ =>
              simp at ho
              subst ho
              have d3 : vs 3 = _ := hd { on := 3, ground := Ground.data } (by simp) rfl
              have kx : w'.cell? ⟨w2.heap.size, 2, none⟩ = some (.slice (some ⟨g, 0, none⟩) x.hl.length cap) := (hB.cell (cell_lt x2)).trans x2
              simp only [putD, Act.put]
              rw [d3]
              gi_wp2
              exact ⟨_, by simp [upd, d3], rfl, Below.refl _ _⟩
            | 5, _ =>
              simp at ho
              subst ho
              simp only [putD, Act.put]
              gi_wp2
              exact ⟨_, by simp [upd], rfl, Below.refl _ _⟩
            | 6, _ =>
              simp at ho
              subst ho
              have d4 : vs 4 = _ := hd { on := 4, ground := Ground.data } (by simp) rfl
              have d5 : vs 5 = _ := hd { on := 5, ground := Ground.data } (by simp) rfl
              simp only [putD, Act.put]
              rw [d4, d5]
              gi_wp2
              exact ⟨_, by simp [upd, d4, d5], rfl, Below.refl _ _⟩
            | 7, _ =>
              simp at ho
              subst ho
              have d6 : vs 6 = _ := hd { on := 6, ground := Ground.data } (by simp) rfl
              simp only [putD, Act.put]
              rw [d6]
              gi_wp2
              exact ⟨_, by simp [upd, d6], rfl, Below.refl _ _⟩
            | 8, _ =>
              simp at ho
              subst ho
              have d7 : vs 7 = _ := hd { on := 7, ground := Ground.data } (by simp) rfl
              have kn : w'.cell? ⟨g, j * 3 + 2, none⟩ = some (.slice y.na y.nl.length y.nc) := (hB.cell (cell_lt f2)).trans f2
              simp only [putD, Act.put]
              rw [d7]
              gi_wp2
              exact ⟨_, by simp [upd, d7], rfl, Below.refl _ _⟩
            | q + 9, h => exact absurd h (by omega)
          case fin =>
            intro vs w5 hB hp
            have d1 : vs 1 = _ := hp 1 (by decide)
            have d2 : vs 2 = _ := hp 2 (by decide)
            have d8 : vs 8 = _ := hp 8 (by decide)
            clear hp
            simp only [List.drop_succ_cons, List.drop_zero, putD, Act.put]
            rw [d1, d2, d8]
            clear d1 d2 d8
            generalize vs 0 = v0
            generalize vs 3 = v3
            generalize vs 4 = v4
            generalize vs 5 = v5
            generalize vs 6 = v6
            generalize vs 7 = v7
            have hr5 := hrw.of_block (hB.block _ hrw.lt)
            have c5 := hr5.cell (i := j * 3 + 1) (by omega)
            have cf5 := fun i => hr5.frozen i
            have hba : But (fun k => k = g) w4 (w5.setCell ⟨g, j * 3 + 1, none⟩ (.slice y.na y.nl.length y.nc)) := (But.below (S := fun k => k = g) hB).set (g := g) rfl _ _
            have hra := hr5.set (j * 3 + 1) (.slice y.na y.nl.length y.nc)
            obtain ⟨Wa, hWa⟩ : ∃ Wa, w5.setCell ⟨g, j * 3 + 1, none⟩ (.slice y.na y.nl.length y.nc) = Wa := ⟨_, rfl⟩
            rw [hWa] at hba hra
            have hs5 := hB.size
            have hsa : w4.heap.size ≤ Wa.heap.size := hba.size
            clear f1 f2 cf hr5 hB
            have hWE := World.alloc_heap_new Wa (.cells #[] 111)
            have hrb := hra.alloc (.cells #[] 111)
            have hrc := hrb.set (j * 3 + 2) (.slice (some ⟨Wa.heap.size, 0, none⟩) 0 0)
            have hbc : But (fun k => k = g) w4 ((Wa.alloc (.cells #[] 111)).setCell ⟨g, j * 3 + 2, none⟩ (.slice (some ⟨Wa.heap.size, 0, none⟩) 0 0)) := (hba.trans (But.below (balloc (Below.refl _ _) _))).set (g := g) rfl _ _
            have hEc := obj_setOther hWE (p := ⟨g, j * 3 + 2, none⟩) (by show Wa.heap.size ≠ g; have := hra.lt; omega) (.slice (some ⟨Wa.heap.size, 0, none⟩) 0 0)
            have cb := hrb.cell (i := j * 3 + 2) (by omega)
            have cfb := fun i => hrb.frozen i
            have xb2 : (Wa.alloc (.cells #[] 111)).cell? ⟨w2.heap.size, 2, none⟩ = some (.slice (some ⟨g, 0, none⟩) x.hl.length cap) := (hba.trans (But.below (balloc (Below.refl _ _) _))).cell (p := ⟨w2.heap.size, 2, none⟩) hXg x2
            have xa2 : Wa.cell? ⟨w2.heap.size, 2, none⟩ = some (.slice (some ⟨g, 0, none⟩) x.hl.length cap) := hba.cell (p := ⟨w2.heap.size, 2, none⟩) hXg x2
            have y0 := hbc.cell (p := ⟨w2.heap.size, 0, none⟩) hXg x0
            have y1 := hbc.cell (p := ⟨w2.heap.size, 1, none⟩) hXg x1
            have y2 := hbc.cell (p := ⟨w2.heap.size, 2, none⟩) hXg x2
            have s0 := hbc.cell (p := ⟨w.heap.size + 1, 0, none⟩) hRg r0
            have s1 := hbc.cell (p := ⟨w.heap.size + 1, 1, none⟩) hRg r1
            have s2 := hbc.cell (p := ⟨w.heap.size + 1, 2, none⟩) hRg r2
            have sB := blk_but HR4.out hbc hRg
            have hza : Wa.heap.size ≥ w1.heap.size := by have := hba.size; omega
            have hSp : SpBk w1.heap.size ((Wa.alloc (.cells #[] 111)).setCell ⟨g, j * 3 + 2, none⟩ (.slice (some ⟨Wa.heap.size, 0, none⟩) 0 0)) ⟨x.now, x.fa, x.fl, x.fc, x.ha, x.hl.set j ⟨y.n, y.na, y.nl, y.nc, some ⟨Wa.heap.size, 0, none⟩, [], 0⟩, x.hc⟩ :=
              HS4.out.put HXa.out hgz hrw hbc (RowX.lists (h := y) hrc HFr.out (by rw [HY.out]; exact List.getElem?_eq_getElem hjx) rfl) hcap HXc.out ⟨(HTy.out.butHeld hrw hbc).n, own_none hEc (by omega)⟩
            have HSp : Hid _ := hSp
            have HNc : Hid _ := hbc.under N4 (Nat.le_refl _) (fun k hk => by have hk' : k = g := hk; omega)
            obtain ⟨Wb, hWb⟩ : ∃ Wb, Wa.alloc (.cells #[] 111) = Wb := ⟨_, rfl⟩
            rw [hWb] at cb cfb xb2 y0 y1 y2 s0 s1 s2 sB HSp HNc
            obtain ⟨Wc, hWc⟩ : ∃ Wc, Wb.setCell ⟨g, j * 3 + 2, none⟩ (.slice (some ⟨Wa.heap.size, 0, none⟩) 0 0) = Wc := ⟨_, rfl⟩
            rw [hWc] at y0 y1 y2 s0 s1 s2 sB HSp HNc
            have sf : ∀ i, Wc.frozen? ⟨w.heap.size + 1, i, none⟩ = false := fun i => by simp [World.frozen?, sB]
            clear hrw hrb hrc hbc hEc hWE hSp sB hra hba x0 x1 x2 r0 r1 r2 rf
            gi_wp2_with fail
            go_wp2_with fail
            have hle : (x.hl.set j (⟨y.n, y.na, y.nl, y.nc, some ⟨Wa.heap.size, 0, none⟩, [], 0⟩ : Hx)).length = x.hl.length := by simp
            exact bodyPost_ret (v := .tuple #[Bk.val ⟨x.now, x.fa, x.fl, x.fc, x.ha, x.hl.set j ⟨y.n, y.na, y.nl, y.nc, some ⟨Wa.heap.size, 0, none⟩, [], 0⟩, x.hc⟩, .int .i64 0]) (by simp [results, Tryz.results26, go_sem, s0, s1, s2, HXa.out, HXc.out]) rfl (by
              have := HEnd.out Wc ⟨x.now, x.fa, x.fl, x.fc, x.ha, x.hl.set j ⟨y.n, y.na, y.nl, y.nc, some ⟨Wa.heap.size, 0, none⟩, [], 0⟩, x.hc⟩ HE1.out HE2.out HNc.out HSp.out _ _ (HLs.out _ ⟨HLi.out.n, HLi.out.x, rfl⟩) HC.out.2 HC.out.1
              simpa [HXa.out, HXc.out] using this)
end Go.Proofs.YtjlliijeaekmfaaGreatDoor
