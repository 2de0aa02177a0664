import Derived.Test.YtjlliijeaekmfaaGreatDoorDq
import Derived.Test.YtjlliijeaekmfaaGreatDoorEa
namespace Go.Proofs.YtjlliijeaekmfaaGreatDoor
open Go.RowKit Go.Shelf
attribute [local go_sem] Oper.semAt_some
def AmdR (nm : ByteArray) (tl : List Bx) (b' : Bk) (i : Nat) (f : Bool) (b'' : Bk) (c : Int) : Prop := c = amdC b' nm i f tl ∧ b''.now = b'.now ∧ b''.fl = b'.fl ∧ Likes (amdL b' nm i f tl) b''.hl
theorem book_asc {b : Bk} (h : bookB b = true) : ascG Hx.n b.hl = true := by
  simp only [bookB, heldsB, namesG, Bool.and_eq_true] at h
  exact h.2.2.2.1.2
theorem book_len {b : Bk} (h : bookB b = true) : b.hl.length ≤ 16 := by
  simp only [bookB, sixteenB, Bool.and_eq_true, decide_eq_true_eq] at h
  exact h.2.2.1
set_option maxRecDepth 100000 in
theorem amend1_changes (tl : List Bx) (ta : Option Addr) (tc : Nat) (T : Nat) (b : Bk) (nm : ByteArray) (w : World) (hT : w.cell? ⟨T, 0, none⟩ = some (.slice ta tl.length tc)) (ht : Bxs w ta tl) (hnt : tl.length ≤ 1048576) (hnf : b.fl.length ≤ 1048576) (hft : ∀ h ∈ b.hl, h.Fit) :
    Changes 69 #[.pointer (some ⟨T, 0, none⟩)] b nm (AmdR nm tl) w := by
  intro b' i f P z W hbk hpg hz hzW hI hN
  have c0 : W.cell? ⟨T, 0, none⟩ = some (.slice ta tl.length tc) := (hN.cell (cell_lt hT)).trans hT
  have h16 := book_len hbk
  have HBK : Hid _ := hbk
  clear hbk
  show Calls Tryz.prog 69 #[.pointer (some ⟨P, 0, none⟩), .pointer (some ⟨T, 0, none⟩)] W _
  go_enter Tryz.func69, Tryz.ntmps69
  go_wp2_with fail
  refine (amend_any z P b' nm i f tl ta tc W hI hzW (fun e => by obtain ⟨h, _⟩ := hpg.hd.1 e; rw [hpg.lk.len]; exact h) (hpg.lk.fit hft) (by rw [hpg.fl]; exact hnf) (by rw [hpg.lk.len]; omega) (ht.later hN) hnt).mono ?_
  rintro e w1 ⟨b'', rfl, e1, e2, e3, hI1, hb1⟩
  go_wp2
  go_ret
  exact ⟨_, _, rfl, ⟨rfl, e1, e2, e3⟩, hI1, hb1⟩
set_option maxRecDepth 100000 in
set_option maxHeartbeats 4000000 in
theorem implAmend_any (b : Bk) (nm : ByteArray) (tl : List Bx) (ta : Option Addr) (tc : Nat) (w : World) (hL : Laid w) (hf : Xs 3 Fx.cells w b.fa b.fl) (hnf : b.fl.length ≤ 1048576) (hcf : b.fl.length ≤ b.fc) (hcf2 : b.fc ≤ 1048576) (hsf : ∀ f ∈ b.fl, f.n.size ≤ 9223372036854775807) (hh : Xs 3 Hx.cells w b.ha b.hl) (hnh : b.hl.length ≤ 1048576) (hg : ∀ h ∈ b.hl, h.In w ∧ h.Fit) (ht : Bxs w ta tl) (hnt : tl.length ≤ 1048576) :
    Calls Tryz.prog 23 #[b.val, .string nm, .slice ta tl.length tc] w fun e w' => Changed b nm (AmdR nm tl) w.heap.size e w' ∧ Below w.heap.size w w' := by
  have hB0 : Below w.heap.size w (((w.alloc b.obj).alloc (.cells #[.slice ta tl.length tc] 55)).alloc (.cells #[.int .i64 0, .slice none 0 0, .slice none 0 0] 35)) := balloc (balloc (balloc (Below.refl _ _) _) _) _
  have T0 := (Below.heap_alloc ((w.alloc b.obj).alloc (.cells #[.slice ta tl.length tc] 55)) (.cells #[.int .i64 0, .slice none 0 0, .slice none 0 0] 35) (w.alloc b.obj).heap.size (by simp)).trans (World.alloc_heap_new (w.alloc b.obj) (.cells #[.slice ta tl.length tc] 55))
  have R0 := World.alloc_heap_new ((w.alloc b.obj).alloc (.cells #[.slice ta tl.length tc] 55)) (.cells #[.int .i64 0, .slice none 0 0, .slice none 0 0] 35)
  simp only [World.size_alloc] at T0 R0
  go_enter Tryz.func23, Tryz.ntmps23
  go_wp2_with fail
  obtain ⟨W0, hW0⟩ : ∃ W0, ((w.alloc b.obj).alloc (.cells #[.slice ta tl.length tc] 55)).alloc (.cells #[.int .i64 0, .slice none 0 0, .slice none 0 0] 35) = W0 := ⟨_, rfl⟩
  rw [hW0] at hB0 T0 R0 ⊢
  have hz1 : w.heap.size + 1 + 1 < W0.heap.size := (Array.getElem?_eq_some_iff.1 R0).1
  have t0 : W0.cell? ⟨w.heap.size + 1, 0, none⟩ = some (.slice ta tl.length tc) := objc T0 rfl
  clear hW0
  refine (changed_amend (.pointer (some ⟨w.heap.size + 1, 0, none⟩)) b nm (AmdR nm tl) W0 (amend1_changes tl ta tc (w.heap.size + 1) b nm W0 t0 (ht.later hB0) hnt hnf (fun h m => (hg h m).2)) (hL.later hB0) (hf.later hB0) hnf hcf hcf2 hsf (hh.later hB0) hnh (fun h m => ⟨(hg h m).1.later hB0, (hg h m).2⟩)).mono ?_
  rintro e w1 ⟨hC, hb1⟩
  have N1 := bstep hB0 hb1
  have R1 := blk R0 hb1
  have r0 : w1.cell? ⟨w.heap.size + 1 + 1, 0, none⟩ = some (.int .i64 0) := objc R1 rfl
  have r1 : w1.cell? ⟨w.heap.size + 1 + 1, 1, none⟩ = some (.slice none 0 0) := objc R1 rfl
  have r2 : w1.cell? ⟨w.heap.size + 1 + 1, 2, none⟩ = some (.slice none 0 0) := objc R1 rfl
  have rf : ∀ i, w1.frozen? ⟨w.heap.size + 1 + 1, i, none⟩ = false := fun i => by simp [World.frozen?, R1]
  have hs1 := hb1.size
  clear T0 R0 R1 hb1 hB0 t0
  have hS : ∀ u v x : Value, But (fun k => k = w.heap.size + 1 + 1) w1 (((w1.setCell ⟨w.heap.size + 1 + 1, 0, none⟩ u).setCell ⟨w.heap.size + 1 + 1, 1, none⟩ v).setCell ⟨w.heap.size + 1 + 1, 2, none⟩ x) := fun u v x => (((But.refl (fun k => k = w.heap.size + 1 + 1) w1).set (g := w.heap.size + 1 + 1) rfl _ _).set (g := w.heap.size + 1 + 1) rfl _ _).set (g := w.heap.size + 1 + 1) rfl _ _
  have hN6 := fun u v x => (hS u v x).under N1 (Nat.le_refl _) (fun k hk => by rw [hk]; omega)
  rcases hC with ⟨hbk, rfl⟩ | ⟨hbk, b', i, f, b'', c, hpg, hR, rfl, hA⟩
  · have HBK : Hid _ := hbk
    clear hbk
    go_wp2_with fail
    exact bodyPost_ret (v := .tuple #[Bk.val ⟨0, none, [], 0, none, [], 0⟩, .int .i64 1]) (by simp [results, Tryz.results23, go_sem, r0, r1, r2]) rfl ⟨.inl ⟨HBK.out, rfl⟩, hN6 _ _ _⟩
  · have HBK : Hid _ := hbk
    have HR : Hid _ := hR
    clear hbk hR
    go_wp2_with fail
    exact bodyPost_ret (v := .tuple #[b''.val, .int .i64 c]) (by simp [results, Tryz.results23, go_sem, r0, r1, r2]) rfl ⟨.inr ⟨HBK.out, b', i, f, b'', c, hpg, HR.out, rfl, (hA.but (hS _ _ _) (fun k hk => by rw [hk]; omega)).weak (by omega)⟩, hN6 _ _ _⟩
end Go.Proofs.YtjlliijeaekmfaaGreatDoor
