import Derived.Test.YtjlliijeaekmfaaGreatDoorDp
import Derived.Test.YtjlliijeaekmfaaGreatDoorTubes
import Derived.Test.YtjlliijeaekmfaaGreatDoorAs
import Derived.Test.YtjlliijeaekmfaaGreatDoorLeaf
import Derived.Test.YtjlliijeaekmfaaGreatDoorSq
namespace Go.Proofs.YtjlliijeaekmfaaGreatDoor
set_option maxRecDepth 100000
set_option maxHeartbeats 4000000
open Go.RowKit Go.Shelf
attribute [local go_sem] Oper.semAt_some
abbrev pgv (b : Bk) (nm : ByteArray) (i : Nat) (f : Bool) : Value := .agg #[.int .i64 b.now, .slice b.fa b.fl.length b.fc, .slice b.ha b.hl.length b.hc, .string nm, .int .i64 (i : Int), .bool f]
abbrev pgo (b : Bk) (nm : ByteArray) (i : Nat) (f : Bool) : Obj := .cells #[.int .i64 b.now, .slice b.fa b.fl.length b.fc, .slice b.ha b.hl.length b.hc, .string nm, .int .i64 (i : Int), .bool f] 157
structure PageOf (b : Bk) (nm : ByteArray) (b' : Bk) (i : Nat) (f : Bool) : Prop where
 now : b'.now = b.now
 fl : b'.fl = b.fl
 lk : Likes b.hl b'.hl
 at' : PlaceAt b.hl nm i
 hd : f = true ↔ ∃ h : i < b.hl.length, b.hl[i].n.toList = nm.toList
theorem pageAt_any (b : Bk) (nm : ByteArray) (w : World) (hf : Xs 3 Fx.cells w b.fa b.fl) (hnf : b.fl.length <= 1048576) (hh : Xs 3 Hx.cells w b.ha b.hl) (hnh : b.hl.length <= 64) (hg : ∀ h ∈ b.hl, h.In w /\ h.Fit) (ha : ascG Hx.n b.hl = true) :
 Calls Tryz.prog 96 #[b.val, .string nm] w fun e w' => (∃ (b' : Bk) (i : Nat) (f : Bool), e = .returned (pgv b' nm i f) /\ PageOf b nm b' i f /\ PgBk w.heap.size w' b') /\ Below w.heap.size w w' := by
 have hB0 : Below w.heap.size w ((w.alloc b.obj).alloc (.cells #[.int .i64 0, .slice none 0 0, .slice none 0 0, .string ⟨#[]⟩, .int .i64 0, .bool false] 157)) := balloc (balloc (Below.refl _ _) _) _; have A0 := (Below.heap_alloc (w.alloc b.obj) (.cells #[.int .i64 0, .slice none 0 0, .slice none 0 0, .string ⟨#[]⟩, .int .i64 0, .bool false] 157) w.heap.size (by simp)).trans (World.alloc_heap_new w b.obj); have R0 := World.alloc_heap_new (w.alloc b.obj) (.cells #[.int .i64 0, .slice none 0 0, .slice none 0 0, .string ⟨#[]⟩, .int .i64 0, .bool false] 157); rw [World.size_alloc] at R0
 go_enter Tryz.func96, Tryz.ntmps96
 go_wp2_with fail
 obtain ⟨W0, hW0⟩ : ∃ W0, (w.alloc b.obj).alloc (.cells #[.int .i64 0, .slice none 0 0, .slice none 0 0, .string ⟨#[]⟩, .int .i64 0, .bool false] 157) = W0 := ⟨_, rfl⟩; rw [hW0] at hB0 A0 R0 ⊢; have hz1 : w.heap.size + 1 < W0.heap.size := (alt R0); clear hW0; refine (search_any b.hl b.ha b.hc nm W0 (hh.later hB0) hnh ha).mono ?_; rintro e w1 ⟨⟨i, f, rfl, hp, hfd⟩, hb1⟩; have N1 := bstep hB0 hb1; have A1 := blk A0 hb1; have HR1 : Hid _ := blk R0 hb1; have HP : Hid _ := hp; have HD : Hid _ := hfd; obtain ⟨k0, k1, k2⟩ := cells3 A1; have hs1 := hb1.size; clear A0 R0 A1 hb1 hB0 hp hfd ha; go_wp2_with fail
 refine (copyOf_any b w1 (hf.later N1) hnf (hh.later N1) hnh (fun h m => ⟨(hg h m).1.later N1, (hg h m).2⟩)).mono ?_; rintro e w2 ⟨⟨b', rfl, e1, e2, hlk, hA⟩, hb2⟩; have HPg : Hid (PageOf b nm b' i f) := ⟨e1, e2, hlk, HP.out, HD.out⟩; have N2 := bstep N1 hb2; have R2 := blk HR1.out hb2; obtain ⟨r0, r1, r2, r3, r4, r5⟩ := cells6 R2; have rf : ∀ i, w2.frozen? ⟨w.heap.size + 1, i, none⟩ = false := fun i => by simp [World.frozen?, R2]
 have HA : Hid (PgBk w1.heap.size w2 b') := hA; clear k0 k1 k2 e1 e2 hlk hA HP HD HR1 R2 hb2 N1; go_wp2_with fail
 have hS : But (fun k => k = w.heap.size + 1) w2 ((((((w2.setCell ⟨w.heap.size + 1, 0, none⟩ (.int .i64 b'.now)).setCell ⟨w.heap.size + 1, 1, none⟩ (.slice b'.fa b'.fl.length b'.fc)).setCell ⟨w.heap.size + 1, 2, none⟩ (.slice b'.ha b'.hl.length b'.hc)).setCell ⟨w.heap.size + 1, 3, none⟩ (.string nm)).setCell ⟨w.heap.size + 1, 4, none⟩ (.int .i64 (i : Int))).setCell ⟨w.heap.size + 1, 5, none⟩ (.bool f)) := ((((((But.refl (fun k => k = w.heap.size + 1) w2).set (g := w.heap.size + 1) rfl _ _).set (g := w.heap.size + 1) rfl _ _).set (g := w.heap.size + 1) rfl _ _).set (g := w.heap.size + 1) rfl _ _).set (g := w.heap.size + 1) rfl _ _).set (g := w.heap.size + 1) rfl _ _; have hA2 := (HA.out.but hS (fun k hk => by rw [hk]; omega)).weak (z' := w.heap.size) (by omega); have hN2 := hS.under N2 (Nat.le_refl _) (fun k hk => by rw [hk]; omega); exact bodyPost_ret (v := pgv b' nm i f) (by simp [results, Tryz.results96, go_sem, r0, r1, r2, r3, r4, r5]) rfl ⟨⟨b', i, f, rfl, HPg.out, hA2⟩, hN2⟩
def errV (c : Int) : Value := if c = 0 then .nilIface else .iface 155 (.int .i64 c)
theorem code_any (c : Int) (w : World) (hg : Laid w) :
 Calls Tryz.prog 95 #[errV c] w fun e w' => e = .returned (.int .i64 c) /\ Below w.heap.size w w' := by
 unfold errV
 split
 · rename_i h; subst h; exact code_nil w
 · exact code_hit c w hg
theorem bdrew (w : World) (n : Nat) : Below w.heap.size w (w.drewN n) := ⟨rfl, rfl, rfl, Nat.le_refl _, fun _ _ => rfl⟩
structure PgIn (z P : Nat) (w : World) (b : Bk) (nm : ByteArray) (i : Nat) (f : Bool) : Prop where
 p : w.heap[P]? = some (pgo b nm i f)
 a : PgBk z w b
 zp : z <= P
end Go.Proofs.YtjlliijeaekmfaaGreatDoor
namespace Go.Proofs.YtjlliijeaekmfaaGreatDoor
open Go.RowKit Go.Shelf
attribute [local go_sem] Oper.semAt_some
def cutH (frm : Int) (x : Hx) : Hx := if cutL frm x.tl = [] then ⟨x.n, none, cutL frm x.nl, 0, none, [], 0⟩ else ⟨x.n, none, cutL frm x.tl, 0, none, cutL frm x.nl, 0⟩
end Go.Proofs.YtjlliijeaekmfaaGreatDoor
namespace Go.Proofs.YtjlliijeaekmfaaGreatDoor
open Go.RowKit Go.Shelf
attribute [local go_sem] Oper.semAt_some
theorem Likes.refl (l : List Hx) : Likes l l := ⟨rfl, fun _ _ => ⟨rfl, rfl, rfl⟩⟩
theorem Likes.set {l m : List Hx} (h : Likes l m) (i : Nat) {a b : Hx} (g : a.Like b) : Likes (l.set i a) (m.set i b) := by
 refine ⟨by simp [h.len], fun k hk => ?_⟩
 by_cases e : i = k
 · subst e
   rw [List.getElem_set_self, List.getElem_set_self]; exact g
 · rw [List.getElem_set_ne e, List.getElem_set_ne e]
   exact h.like k (by simpa using hk)
def A9 (P : Nat) (b : Bk) (g i : Nat) (tv : Value) (Z : Nat) (tl : List Bx) (j : Nat) (v : Value) (w : World) : Prop :=
 match j with
 | 0 => v = .pointer (some ⟨P, 0, none⟩)
 | 1 => v = .pointer (some ⟨P, 0, none⟩)
 | 2 => v = .pointer (some ⟨P, 0, none⟩)
 | 3 => v = .pointer (some ⟨P, 2, none⟩)
 | 4 => v = .slice (some ⟨g, 0, none⟩) b.hl.length b.hc
 | 5 => v = .pointer (some ⟨P, 0, none⟩)
 | 6 => v = .pointer (some ⟨P, 0, none⟩)
 | 7 => v = .pointer (some ⟨P, 4, none⟩)
 | 8 => v = .int .i64 (i : Int)
 | 9 => v = tv
 | 10 => OwnBx w Z v tl
 | _ => True
end Go.Proofs.YtjlliijeaekmfaaGreatDoor
namespace Go.Proofs.YtjlliijeaekmfaaGreatDoor
open Go.RowKit Go.Shelf
attribute [local go_sem] Oper.semAt_some
def Changes (k : Nat) (fr : Array Value) (b : Bk) (nm : ByteArray) (R : Bk -> Nat -> Bool -> Bk -> Int -> Prop) (w : World) : Prop :=
 ∀ (b' : Bk) (i : Nat) (f : Bool) (P z : Nat) (W : World), bookB b = true -> PageOf b nm b' i f -> w.heap.size <= z -> z <= W.heap.size -> PgIn z P W b' nm i f -> Below w.heap.size w W ->
  Calls Tryz.prog k (#[.pointer (some ⟨P, 0, none⟩)] ++ fr) W fun e W' => ∃ b'' c, e = .returned (errV c) /\ R b' i f b'' c /\ PgIn z P W' b'' nm i f /\ But (fun q => z <= q) W W'
def D5 (B8 : Nat) (b : Bk) (c : Int) (j : Nat) (v : Value) (_w : World) : Prop :=
 match j with
 | 0 => v = .pointer (some ⟨B8, 0, none⟩)
 | 1 => v = b.val
 | 2 => v = errV c
 | 3 => v = .int .i64 c
 | _ => True
theorem D5.later {B8 : Nat} {b : Bk} {c : Int} (j : Nat) (v : Value) (w w' : World) (h : D5 B8 b c j v w) (_ : Below w.heap.size w w') : D5 B8 b c j v w' := h
end Go.Proofs.YtjlliijeaekmfaaGreatDoor
namespace Go.Proofs.YtjlliijeaekmfaaGreatDoor
open Go.RowKit Go.Shelf
attribute [local go_sem] Oper.semAt_some
theorem book_asc {b : Bk} (h : bookB b = true) : ascG Hx.n b.hl = true := by
 simp only [bookB, heldsB, namesG, Bool.and_eq_true] at h; exact h.2.2.2.1.2
theorem book_len {b : Bk} (h : bookB b = true) : b.hl.length <= 16 := by
 simp only [bookB, sixteenB, Bool.and_eq_true, decide_eq_true_eq] at h; exact h.2.2.1
end Go.Proofs.YtjlliijeaekmfaaGreatDoor
