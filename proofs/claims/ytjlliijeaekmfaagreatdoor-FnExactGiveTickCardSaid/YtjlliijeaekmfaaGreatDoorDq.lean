import Derived.Test.YtjlliijeaekmfaaGreatDoorDp
import Derived.Test.YtjlliijeaekmfaaGreatDoorTubes
import Derived.Test.YtjlliijeaekmfaaGreatDoorAs
namespace Go.Proofs.YtjlliijeaekmfaaGreatDoor
open Go.RowKit Go.Shelf
attribute [local go_sem] Oper.semAt_some
/-- A page of a book. -/
abbrev pgv (b : Bk) (nm : ByteArray) (i : Nat) (f : Bool) : Value := .agg #[.int .i64 b.now, .slice b.fa b.fl.length b.fc, .slice b.ha b.hl.length b.hc, .string nm, .int .i64 (i : Int), .bool f]
abbrev pgo (b : Bk) (nm : ByteArray) (i : Nat) (f : Bool) : Obj := .cells #[.int .i64 b.now, .slice b.fa b.fl.length b.fc, .slice b.ha b.hl.length b.hc, .string nm, .int .i64 (i : Int), .bool f] 157
/-- A page at a name: a copy of the book, the place, whether they hold something. -/
structure PageOf (b : Bk) (nm : ByteArray) (b' : Bk) (i : Nat) (f : Bool) : Prop where
  now : b'.now = b.now
  fl : b'.fl = b.fl
  lk : Likes b.hl b'.hl
  at' : PlaceAt b.hl nm i
  hd : f = true ↔ ∃ h : i < b.hl.length, b.hl[i].n.toList = nm.toList
theorem row6 (w : World) (t : Nat) (v0 v1 v2 v3 v4 v5 : Value) : (w.alloc (.cells #[v0, v1, v2, v3, v4, v5] t)).rowIs w.heap.size t 6 (fun i => (#[v0, v1, v2, v3, v4, v5] : Array Value).getD i undef) :=
  World.rowIs_alloc w #[v0, v1, v2, v3, v4, v5] t _ (fun i hi => by simp at hi; match i, hi with | 0, _ => rfl | 1, _ => rfl | 2, _ => rfl | 3, _ => rfl | 4, _ => rfl | 5, _ => rfl)
set_option maxRecDepth 100000 in
set_option maxHeartbeats 4000000 in
theorem pageAt_any (b : Bk) (nm : ByteArray) (w : World) (hf : Xs 3 Fx.cells w b.fa b.fl) (hnf : b.fl.length ≤ 1048576) (hh : Xs 3 Hx.cells w b.ha b.hl) (hnh : b.hl.length ≤ 64) (hg : ∀ h ∈ b.hl, h.In w ∧ h.Fit) (ha : ascG Hx.n b.hl = true) :
    Calls Tryz.prog 96 #[b.val, .string nm] w fun e w' => (∃ (b' : Bk) (i : Nat) (f : Bool), e = .returned (pgv b' nm i f) ∧ PageOf b nm b' i f ∧ PgBk w.heap.size w' b') ∧ Below w.heap.size w w' := by
  have hB0 : Below w.heap.size w ((w.alloc b.obj).alloc (.cells #[.int .i64 0, .slice none 0 0, .slice none 0 0, .string ⟨#[]⟩, .int .i64 0, .bool false] 157)) := balloc (balloc (Below.refl _ _) _) _
  have A0 := (Below.heap_alloc (w.alloc b.obj) (.cells #[.int .i64 0, .slice none 0 0, .slice none 0 0, .string ⟨#[]⟩, .int .i64 0, .bool false] 157) w.heap.size (by simp)).trans (World.alloc_heap_new w b.obj)
  have R0 := World.alloc_heap_new (w.alloc b.obj) (.cells #[.int .i64 0, .slice none 0 0, .slice none 0 0, .string ⟨#[]⟩, .int .i64 0, .bool false] 157)
  rw [World.size_alloc] at R0
  go_enter Tryz.func96, Tryz.ntmps96
  go_wp2_with fail
  obtain ⟨W0, hW0⟩ : ∃ W0, (w.alloc b.obj).alloc (.cells #[.int .i64 0, .slice none 0 0, .slice none 0 0, .string ⟨#[]⟩, .int .i64 0, .bool false] 157) = W0 := ⟨_, rfl⟩
  rw [hW0] at hB0 A0 R0 ⊢
  have hz1 : w.heap.size + 1 < W0.heap.size := (Array.getElem?_eq_some_iff.1 R0).1
  clear hW0
  refine (search_any b.hl b.ha b.hc nm W0 (hh.later hB0) hnh ha).mono ?_
  rintro e w1 ⟨⟨i, f, rfl, hp, hfd⟩, hb1⟩
  have N1 := bstep hB0 hb1
  have A1 := blk A0 hb1
  have HR1 : Hid _ := blk R0 hb1
  have HP : Hid _ := hp
  have HD : Hid _ := hfd
  have k0 : w1.cell? ⟨w.heap.size, 0, none⟩ = some (.int .i64 b.now) := objc A1 rfl
  have k1 : w1.cell? ⟨w.heap.size, 1, none⟩ = some (.slice b.fa b.fl.length b.fc) := objc A1 rfl
  have k2 : w1.cell? ⟨w.heap.size, 2, none⟩ = some (.slice b.ha b.hl.length b.hc) := objc A1 rfl
  have hs1 := hb1.size
  clear A0 R0 A1 hb1 hB0 hp hfd ha
  go_wp2_with fail
  refine (copyOf_any b w1 (hf.later N1) hnf (hh.later N1) hnh (fun h m => ⟨(hg h m).1.later N1, (hg h m).2⟩)).mono ?_
  rintro e w2 ⟨⟨b', rfl, e1, e2, hlk, hA⟩, hb2⟩
  have HPg : Hid (PageOf b nm b' i f) := ⟨e1, e2, hlk, HP.out, HD.out⟩
  have N2 := bstep N1 hb2
  have R2 := blk HR1.out hb2
  have r0 : w2.cell? ⟨w.heap.size + 1, 0, none⟩ = some (.int .i64 0) := objc R2 rfl
  have r1 : w2.cell? ⟨w.heap.size + 1, 1, none⟩ = some (.slice none 0 0) := objc R2 rfl
  have r2 : w2.cell? ⟨w.heap.size + 1, 2, none⟩ = some (.slice none 0 0) := objc R2 rfl
  have r3 : w2.cell? ⟨w.heap.size + 1, 3, none⟩ = some (.string ⟨#[]⟩) := objc R2 rfl
  have r4 : w2.cell? ⟨w.heap.size + 1, 4, none⟩ = some (.int .i64 0) := objc R2 rfl
  have r5 : w2.cell? ⟨w.heap.size + 1, 5, none⟩ = some (.bool false) := objc R2 rfl
  have rf : ∀ i, w2.frozen? ⟨w.heap.size + 1, i, none⟩ = false := fun i => by simp [World.frozen?, R2]
  have HA : Hid (PgBk w1.heap.size w2 b') := hA
  clear k0 k1 k2 e1 e2 hlk hA HP HD HR1 R2 hb2 N1
  go_wp2_with fail
  have hS : But (fun k => k = w.heap.size + 1) w2 ((((((w2.setCell ⟨w.heap.size + 1, 0, none⟩ (.int .i64 b'.now)).setCell ⟨w.heap.size + 1, 1, none⟩ (.slice b'.fa b'.fl.length b'.fc)).setCell ⟨w.heap.size + 1, 2, none⟩ (.slice b'.ha b'.hl.length b'.hc)).setCell ⟨w.heap.size + 1, 3, none⟩ (.string nm)).setCell ⟨w.heap.size + 1, 4, none⟩ (.int .i64 (i : Int))).setCell ⟨w.heap.size + 1, 5, none⟩ (.bool f)) := ((((((But.refl (fun k => k = w.heap.size + 1) w2).set (g := w.heap.size + 1) rfl _ _).set (g := w.heap.size + 1) rfl _ _).set (g := w.heap.size + 1) rfl _ _).set (g := w.heap.size + 1) rfl _ _).set (g := w.heap.size + 1) rfl _ _).set (g := w.heap.size + 1) rfl _ _
  have hA2 := (HA.out.but hS (fun k hk => by rw [hk]; omega)).weak (z' := w.heap.size) (by omega)
  have hN2 := hS.under N2 (Nat.le_refl _) (fun k hk => by rw [hk]; omega)
  exact bodyPost_ret (v := pgv b' nm i f) (by simp [results, Tryz.results96, go_sem, r0, r1, r2, r3, r4, r5]) rfl ⟨⟨b', i, f, rfl, HPg.out, hA2⟩, hN2⟩
/-- What a change answers: nothing, or a refusal. -/
def errV (c : Int) : Value := if c = 0 then .nilIface else .iface 155 (.int .i64 c)
theorem code_any (c : Int) (w : World) (hg : Laid w) :
    Calls Tryz.prog 95 #[errV c] w fun e w' => e = .returned (.int .i64 c) ∧ Below w.heap.size w w' := by
  unfold errV
  split
  · rename_i h; subst h; exact code_nil w
  · exact code_hit c w hg
set_option maxRecDepth 100000 in
set_option maxHeartbeats 4000000 in
theorem hear_no (b : Bk) (nm : ByteArray) (i : Nat) (took : Bool) (P : Nat) (w : World) (hP : w.heap[P]? = some (pgo b nm i false)) :
    Calls Tryz.prog 73 #[.pointer (some ⟨P, 0, none⟩), .bool took] w fun e w' => e = .returned (errV 6) ∧ w' = w := by
  have p5 : w.cell? ⟨P, 5, none⟩ = some (.bool false) := objc hP rfl
  clear hP
  go_enter Tryz.func73, Tryz.ntmps73
  go_wp2
  go_ret
  exact ⟨rfl, rfl⟩
theorem bdrew (w : World) (n : Nat) : Below w.heap.size w (w.drewN n) := ⟨rfl, rfl, rfl, Nat.le_refl _, fun _ _ => rfl⟩
theorem flat_set_sub : ∀ (l : List Hx) (i : Nat) (x' : Hx) (h : i < l.length), x'.bs.Sublist l[i].bs → ((l.set i x').flatMap Hx.bs).Sublist (l.flatMap Hx.bs)
  | [], _, _, h, _ => by simp at h
  | a :: r, 0, x', _, hs => by
    simp only [List.set_cons_zero, List.flatMap_cons]
    exact List.Sublist.append hs (List.Sublist.refl _)
  | a :: r, i + 1, x', h, hs => by
    simp only [List.set_cons_succ, List.flatMap_cons]
    exact List.Sublist.append (List.Sublist.refl _) (flat_set_sub r i x' (by simpa using h) (by simpa using hs))
theorem PgBk.held {z : Nat} {w : World} {b : Bk} {i : Nat} (h : PgBk z w b) (hi : i < b.hl.length) : ∃ g, b.ha = some ⟨g, 0, none⟩ ∧ z ≤ g ∧ b.hl.length ≤ b.hc ∧ RowX 87 3 Hx.cells w g b.hc b.hl b.hl.length := by
  rcases h.h with ⟨_, e⟩ | ⟨g, cap, e, h1, h2, h3⟩
  · rw [e] at hi; simp at hi
  · simp only [Value.slice.injEq] at e
    obtain ⟨e1, _, rfl⟩ := e
    exact ⟨g, e1, h1, h2, h3⟩
/-- A page lies at P; what it holds is its own from z on. -/
structure PgIn (z P : Nat) (w : World) (b : Bk) (nm : ByteArray) (i : Nat) (f : Bool) : Prop where
  p : w.heap[P]? = some (pgo b nm i f)
  a : PgBk z w b
  zp : z ≤ P
theorem PgIn.later {z P : Nat} {w w' : World} {b : Bk} {nm : ByteArray} {i : Nat} {f : Bool} (h : PgIn z P w b nm i f) (hb : Below w.heap.size w w') : PgIn z P w' b nm i f := ⟨blk h.p hb, h.a.later hb, h.zp⟩
/-- Who heard an answer. -/
def hearX (took : Bool) (x : Hx) : Hx := if took then ⟨x.n, x.na, x.nl, x.nc, none, [], 0⟩ else ⟨x.n, x.ta, x.tl, x.tc, none, [], 0⟩
def hearC (b : Bk) (i : Nat) (f : Bool) : Int := if f then (match b.hl[i]? with | some x => if x.nl = [] then 8 else 0 | none => 6) else 6
def hearB (b : Bk) (i : Nat) (f : Bool) (took : Bool) : Bk := if hearC b i f = 0 then (match b.hl[i]? with | some x => ⟨b.now, b.fa, b.fl, b.fc, b.ha, b.hl.set i (hearX took x), b.hc⟩ | none => b) else b
theorem hearX_own {z : Nat} {w : World} {x : Hx} (took : Bool) (h : TOwn z w x) : TOwn z w (hearX took x) ∧ (hearX took x).bs.Sublist x.bs := by
  unfold hearX
  cases took with
  | true => exact ⟨⟨h.n, .inl ⟨rfl, rfl⟩⟩, by simp [Hx.bs]⟩
  | false => exact ⟨⟨h.t, .inl ⟨rfl, rfl⟩⟩, by simp [Hx.bs]⟩
set_option maxRecDepth 100000 in
set_option maxHeartbeats 4000000 in
theorem hear_any (z P : Nat) (b : Bk) (nm : ByteArray) (i : Nat) (f took : Bool) (w : World) (hI : PgIn z P w b nm i f) (hfi : f = true → i < b.hl.length) (hft : ∀ h ∈ b.hl, h.Fit) :
    Calls Tryz.prog 73 #[.pointer (some ⟨P, 0, none⟩), .bool took] w fun e w' => e = .returned (errV (hearC b i f)) ∧ PgIn z P w' (hearB b i f took) nm i f ∧ But (fun k => z ≤ k) w w' := by
  cases f with
  | false =>
    refine (hear_no b nm i took P w hI.p).mono ?_
    rintro e w' ⟨rfl, rfl⟩
    exact ⟨rfl, hI, But.refl _ _⟩
  | true =>
    have hi := hfi rfl
    obtain ⟨x, hx⟩ : ∃ x, x = b.hl[i] := ⟨_, rfl⟩
    have hxi : b.hl[i]? = some x := by rw [hx]; exact List.getElem?_eq_getElem hi
    have hxf := hft x (by rw [hx]; exact List.getElem_mem hi)
    obtain ⟨g, ha, hgz, hcap, hR⟩ := hI.a.held hi
    have p2 : w.cell? ⟨P, 2, none⟩ = some (.slice (some ⟨g, 0, none⟩) b.hl.length b.hc) := by rw [← ha]; exact objc hI.p rfl
    have p4 : w.cell? ⟨P, 4, none⟩ = some (.int .i64 (i : Int)) := objc hI.p rfl
    have p5 : w.cell? ⟨P, 5, none⟩ = some (.bool true) := objc hI.p rfl
    obtain ⟨f, hrow, hf⟩ := hR
    have e1 := hrow.cell (i := i * 3 + 1) (by omega)
    have e2 := hrow.cell (i := i * 3 + 2) (by omega)
    rw [show f (i * 3 + 1) = .slice x.ta x.tl.length x.tc from by rw [hx]; exact hf i hi hi 1 _ rfl] at e1
    rw [show f (i * 3 + 2) = .slice x.na x.nl.length x.nc from by rw [hx]; exact hf i hi hi 2 _ rfl] at e2
    have cf := fun i => hrow.frozen i
    have hPg : P ≠ g := fun e => by
      subst e
      obtain ⟨cs, hcs, _⟩ := hrow
      rw [hI.p] at hcs
      cases hcs
    have hnn := hxf.nn
    have HI : Hid _ := hI
    have HX : Hid (x = b.hl[i]) := hx
    have HXi : Hid _ := hxi
    have HR : Hid _ := hrow
    have HF : Hid _ := hf
    have HA : Hid _ := ha
    clear hf hI hx hxi hrow ha
    cases hnl : x.nl with
    | nil =>
      have HC : Hid (hearC b i true = 8 ∧ hearB b i true took = b) := by
        have : hearC b i true = 8 := by unfold hearC; rw [HXi.out]; simp [hnl]
        refine ⟨this, ?_⟩
        unfold hearB; rw [this]; rfl
      rw [hnl] at e2
      clear hnl
      go_enter Tryz.func73, Tryz.ntmps73
      go_wp2
      go_quiet (fail)
      go_wp2
      go_ret
      rw [HC.out.1, HC.out.2]
      exact ⟨rfl, HI.out.later (bdrew _ _), But.below (bdrew _ _)⟩
    | cons y ys =>
      have hlen : 0 < x.nl.length := by rw [hnl]; simp
      have HC : Hid (hearC b i true = 0 ∧ hearB b i true took = ⟨b.now, b.fa, b.fl, b.fc, b.ha, b.hl.set i (hearX took x), b.hc⟩) := by
        have h0 : hearC b i true = 0 := by unfold hearC; rw [HXi.out]; simp [hnl]
        refine ⟨h0, ?_⟩
        unfold hearB; rw [h0, HXi.out]; rfl
      have hT : TOwn z w x := HI.out.a.t x (by rw [HX.out]; exact List.getElem_mem hi)
      have HT : Hid _ := hearX_own took hT
      have HE : Hid (∀ (w' : World), But (fun k => k = g) w w' → RowX 87 3 Hx.cells w' g b.hc (b.hl.set i (hearX took x)) b.hl.length → PgIn z P w' ⟨b.now, b.fa, b.fl, b.fc, b.ha, b.hl.set i (hearX took x), b.hc⟩ nm i true ∧ But (fun k => z ≤ k) w w') := fun w' hb hR => by
        refine ⟨⟨?_, HI.out.a.put HA.out hi hb hR (HT.out.1.butHeld HR.out hb) (HI.out.a.d.sublist (flat_set_sub b.hl i _ hi (by rw [← HX.out]; exact HT.out.2))), HI.out.zp⟩, hb.wide (fun k hk => by rw [hk]; exact hgz)⟩
        have := blk_but HI.out.p hb hPg
        rw [this]
        simp
      have hz2 : ((x.nl.length : Int) == 0) = false := beq_false_of_ne (by omega)
      clear hnl hT
      cases took with
      | true =>
        go_enter Tryz.func73, Tryz.ntmps73
        go_wp2
        go_quiet (fail)
        go_wp2
        go_ret
        rw [HC.out.1, HC.out.2]
        refine ⟨rfl, HE.out _ (((But.below (S := fun k => k = g) (bdrew _ _)).set (g := g) rfl _ _).set (g := g) rfl _ _) ?_⟩
        exact RowX.lists (h := x) ((((World.rowIs.of_block HR.out ((bdrew w _).block _ (World.rowIs.lt HR.out))).set _ _).set _ _)) HF.out HXi.out rfl
      | false =>
        go_enter Tryz.func73, Tryz.ntmps73
        go_wp2
        go_quiet (fail)
        go_wp2
        go_ret
        rw [HC.out.1, HC.out.2]
        refine ⟨rfl, HE.out _ ((But.below (S := fun k => k = g) (bdrew _ _)).set (g := g) rfl _ _) ?_⟩
        have h1 := (World.rowIs.of_block HR.out ((bdrew w nq).block _ (World.rowIs.lt HR.out))).set (i * 3 + 2) (.slice none 0 0)
        have h2 : (fun j => if j = i * 3 + 2 then Value.slice none 0 0 else f j) = (fun j => if j = i * 3 + 2 then Value.slice none 0 0 else if j = i * 3 + 1 then .slice x.ta x.tl.length x.tc else f j) := by
          funext j
          by_cases e : j = i * 3 + 1
          · subst e
            rw [if_neg (by omega), if_neg (by omega), if_pos rfl, HX.out]
            exact HF.out i hi hi 1 _ rfl
          · simp [e]
        rw [h2] at h1
        exact RowX.lists (h := x) h1 HF.out HXi.out rfl
end Go.Proofs.YtjlliijeaekmfaaGreatDoor
namespace Go.Proofs.YtjlliijeaekmfaaGreatDoor
open Go.RowKit Go.Shelf
attribute [local go_sem] Oper.semAt_some
/-- What a change of a page does: the page behind it, and what it answers. -/
def Changes (k : Nat) (fr : Array Value) (b : Bk) (nm : ByteArray) (R : Bk → Nat → Bool → Bk → Int → Prop) (w : World) : Prop :=
  ∀ (b' : Bk) (i : Nat) (f : Bool) (P z : Nat) (W : World), bookB b = true → PageOf b nm b' i f → w.heap.size ≤ z → z ≤ W.heap.size → PgIn z P W b' nm i f → Below w.heap.size w W →
    Calls Tryz.prog k (#[.pointer (some ⟨P, 0, none⟩)] ++ fr) W fun e W' => ∃ b'' c, e = .returned (errV c) ∧ R b' i f b'' c ∧ PgIn z P W' b'' nm i f ∧ But (fun q => z ≤ q) W W'
/-- What a changed book is. -/
def Changed (b : Bk) (nm : ByteArray) (R : Bk → Nat → Bool → Bk → Int → Prop) (z : Nat) (e : Ending) (w' : World) : Prop :=
  (bookB b = false ∧ e = .returned (.tuple #[Bk.val ⟨0, none, [], 0, none, [], 0⟩, .int .i64 1])) ∨
  (bookB b = true ∧ ∃ (b' : Bk) (i : Nat) (f : Bool) (b'' : Bk) (c : Int), PageOf b nm b' i f ∧ R b' i f b'' c ∧ e = .returned (.tuple #[b''.val, .int .i64 c]) ∧ PgBk z w' b'')
def D5 (B8 : Nat) (b : Bk) (c : Int) (j : Nat) (v : Value) (_w : World) : Prop :=
  match j with
  | 0 => v = .pointer (some ⟨B8, 0, none⟩)
  | 1 => v = b.val
  | 2 => v = errV c
  | 3 => v = .int .i64 c
  | _ => True
theorem D5.later {B8 : Nat} {b : Bk} {c : Int} (j : Nat) (v : Value) (w w' : World) (h : D5 B8 b c j v w) (_ : Below w.heap.size w w') : D5 B8 b c j v w' := h
set_option maxRecDepth 100000 in
set_option maxHeartbeats 8000000 in
theorem changed_hear (v0 : Value) (b : Bk) (nm : ByteArray) (R : Bk → Nat → Bool → Bk → Int → Prop) (w : World) (hC : Changes 72 #[v0] b nm R w) (hL : Laid w) (hf : Xs 3 Fx.cells w b.fa b.fl) (hnf : b.fl.length ≤ 1048576) (hcf : b.fl.length ≤ b.fc) (hcf2 : b.fc ≤ 1048576) (hsf : ∀ f ∈ b.fl, f.n.size ≤ 9223372036854775807) (hh : Xs 3 Hx.cells w b.ha b.hl) (hnh : b.hl.length ≤ 1048576) (hg : ∀ h ∈ b.hl, h.In w ∧ h.Fit) :
    Calls Tryz.prog 51 #[b.val, .string nm, .func (.func 72) #[] #[v0]] w fun e w' => Changed b nm R w.heap.size e w' ∧ Below w.heap.size w w' := by
  have hB0 : Below w.heap.size w ((w.alloc b.obj).alloc (.cells #[.int .i64 0, .slice none 0 0, .slice none 0 0] 35)) := balloc (balloc (Below.refl _ _) _) _
  have A0 := (Below.heap_alloc (w.alloc b.obj) (.cells #[.int .i64 0, .slice none 0 0, .slice none 0 0] 35) w.heap.size (by simp)).trans (World.alloc_heap_new w b.obj)
  have R0 := World.alloc_heap_new (w.alloc b.obj) (.cells #[.int .i64 0, .slice none 0 0, .slice none 0 0] 35)
  rw [World.size_alloc] at R0
  go_enter Tryz.func51, Tryz.ntmps51
  go_wp2_with fail
  obtain ⟨W0, hW0⟩ : ∃ W0, (w.alloc b.obj).alloc (.cells #[.int .i64 0, .slice none 0 0, .slice none 0 0] 35) = W0 := ⟨_, rfl⟩
  rw [hW0] at hB0 A0 R0 ⊢
  have hz1 : w.heap.size + 1 < W0.heap.size := (Array.getElem?_eq_some_iff.1 R0).1
  clear hW0
  refine (implBook_any b W0 (hf.later hB0) hnf hcf hcf2 hsf (hh.later hB0) hnh (fun h m => ⟨(hg h m).1.later hB0, (hg h m).2⟩)).mono ?_
  rintro e w1 ⟨rfl, hb1⟩
  have N1 := bstep hB0 hb1
  have A1 := blk A0 hb1
  have R1 := blk R0 hb1
  have hs1 := hb1.size
  clear A0 R0 hb1 hB0
  cases hbk : bookB b with
  | false =>
    have HBK : Hid _ := hbk
    have HR1 : Hid _ := R1
    clear A1 R1 hbk
    go_wp2_with fail
    refine (code_hit 1 w1 (hL.later N1)).mono ?_
    rintro e w2 ⟨rfl, hb2⟩
    have N2 := bstep N1 hb2
    have R2 := blk HR1.out hb2
    have r0 : w2.cell? ⟨w.heap.size + 1, 0, none⟩ = some (.int .i64 0) := objc R2 rfl
    have r1 : w2.cell? ⟨w.heap.size + 1, 1, none⟩ = some (.slice none 0 0) := objc R2 rfl
    have r2 : w2.cell? ⟨w.heap.size + 1, 2, none⟩ = some (.slice none 0 0) := objc R2 rfl
    have rf : ∀ i, w2.frozen? ⟨w.heap.size + 1, i, none⟩ = false := fun i => by simp [World.frozen?, R2]
    clear R2 HR1 hb2
    go_wp2_with fail
    have hN3 := ((N2.setCell (p := ⟨w.heap.size + 1, 0, none⟩) (by show w.heap.size ≤ w.heap.size + 1; omega) (.int .i64 0)).setCell (p := ⟨w.heap.size + 1, 1, none⟩) (by show w.heap.size ≤ w.heap.size + 1; omega) (.slice none 0 0)).setCell (p := ⟨w.heap.size + 1, 2, none⟩) (by show w.heap.size ≤ w.heap.size + 1; omega) (.slice none 0 0)
    exact bodyPost_ret (v := .tuple #[Bk.val ⟨0, none, [], 0, none, [], 0⟩, .int .i64 1]) (by simp [results, Tryz.results51, go_sem, r0, r1, r2]) rfl ⟨.inl ⟨HBK.out, rfl⟩, hN3⟩
  | true =>
    have HBK : Hid _ := hbk
    have k0 : w1.cell? ⟨w.heap.size, 0, none⟩ = some (.int .i64 b.now) := objc A1 rfl
    have k1 : w1.cell? ⟨w.heap.size, 1, none⟩ = some (.slice b.fa b.fl.length b.fc) := objc A1 rfl
    have k2 : w1.cell? ⟨w.heap.size, 2, none⟩ = some (.slice b.ha b.hl.length b.hc) := objc A1 rfl
    have hh16 : b.hl.length ≤ 64 := by
      have := hbk
      simp only [bookB, sixteenB, Bool.and_eq_true, decide_eq_true_eq] at this
      omega
    have hasc : ascG Hx.n b.hl = true := by
      have := hbk
      simp only [bookB, heldsB, namesG, Bool.and_eq_true] at this
      exact this.2.2.2.1.2
    have HR1 : Hid _ := R1
    clear A1 R1 hbk
    go_wp2_with fail
    refine (pageAt_any b nm w1 (hf.later N1) hnf (hh.later N1) hh16 (fun h m => ⟨(hg h m).1.later N1, (hg h m).2⟩) hasc).mono ?_
    rintro e w2 ⟨⟨b', i, f, rfl, hpg, hA⟩, hb2⟩
    have hbx : Below w2.heap.size w2 (w2.alloc (pgo b' nm i f)) := balloc (Below.refl _ _) _
    have P3 := World.alloc_heap_new w2 (pgo b' nm i f)
    have N3 := bstep (bstep N1 hb2) hbx
    have HR3 : Hid _ := blk (blk HR1.out hb2) hbx
    have hA3 := hA.later hbx
    have hs2 := hb2.size
    obtain ⟨w3, hw3⟩ : ∃ w3, w2.alloc (pgo b' nm i f) = w3 := ⟨_, rfl⟩
    rw [hw3] at P3 N3 HR3 hA3
    have hs3 : w2.heap.size < w3.heap.size := (Array.getElem?_eq_some_iff.1 P3).1
    have HI : Hid (PgIn w1.heap.size w2.heap.size w3 b' nm i f) := ⟨P3, hA3, hs2⟩
    have HPg : Hid _ := hpg
    clear k0 k1 k2 hA hA3 P3 hbx hb2 N1 HR1 hpg hasc
    go_wp2_with fail
    clear hw3
    refine (hC b' i f w2.heap.size w1.heap.size w3 HBK.out HPg.out (by omega) (by omega) HI.out N3).mono ?_
    rintro e w4 ⟨b'', c, rfl, hR, hI4, hb4⟩
    have N4 := hb4.under N3 (Nat.le_refl _) (fun q hq => by have hq' : w1.heap.size ≤ q := hq; omega)
    have HR4 : Hid _ := blk_but HR3.out hb4 (fun hq => by have hq' : w1.heap.size ≤ w.heap.size + 1 := hq; omega)
    have HI4 : Hid _ := hI4
    have HRR : Hid _ := hR
    clear hC HI HR3 N3 hI4 hb4 hR
    go_wp2_with fail
    refine wpIn_wide.1 (wpIn_region_valsB (F := Fence.wide) (n := 0) (by kernel_rfl) 4 [some 21, some 22, some 23, some 24] (by decide) (D5 w2.heap.size b'' c) D5.later (by kernel_rfl) (by kernel_rfl) (by kernel_rfl) ?step ?fin)
    case step =>
      intro i o vs w' hi' ho hB hd
      match i, hi' with
      | 0, _ =>
        simp at ho
        subst ho
        simp only [putD, Act.put]
        gi_wp2
        exact ⟨_, by simp [upd], rfl, Below.refl _ _⟩
      | 1, _ =>
        simp at ho
        subst ho
        have d0 : vs 0 = _ := hd { on := 0, ground := Ground.data } (by simp) rfl
        have P5 := blk HI4.out.p hB
        have k0 : w'.cell? ⟨w2.heap.size, 0, none⟩ = some (.int .i64 b''.now) := objc P5 rfl
        have k1 : w'.cell? ⟨w2.heap.size, 1, none⟩ = some (.slice b''.fa b''.fl.length b''.fc) := objc P5 rfl
        have k2 : w'.cell? ⟨w2.heap.size, 2, none⟩ = some (.slice b''.ha b''.hl.length b''.hc) := objc P5 rfl
        clear P5
        simp only [putD, Act.put]
        rw [d0]
        gi_wp2
        exact ⟨_, by simp [upd, d0], rfl, Below.refl _ _⟩
      | 2, _ =>
        simp at ho
        subst ho
        simp only [putD, Act.put]
        gi_wp2
        exact ⟨_, by simp [upd], rfl, Below.refl _ _⟩
      | 3, _ =>
        simp at ho
        subst ho
        have d2 : vs 2 = _ := hd { on := 2, ground := Ground.data } (by simp) rfl
        simp only [putD, Act.put]
        rw [d2]
        gi_wp2_with fail
        refine ⟨trivial, rfl, ?_⟩
        refine (callsIn_wide.2 (code_any c w' (hL.later (bstep N4 hB)))).mono ?_
        rintro e w5 ⟨rfl, hb5⟩
        gi_wp2
        exact ⟨_, by simp [upd, d2], rfl, hb5⟩
      | j + 4, h => exact absurd h (by omega)
    case fin =>
      intro vs w5 hB hp
      have d1 : vs 1 = _ := hp 1 (by decide)
      have d3 : vs 3 = _ := hp 3 (by decide)
      have N5 := bstep N4 hB
      have R5 := blk HR4.out hB
      have HA5 : Hid _ := HI4.out.a.later hB
      have r0 : w5.cell? ⟨w.heap.size + 1, 0, none⟩ = some (.int .i64 0) := objc R5 rfl
      have r1 : w5.cell? ⟨w.heap.size + 1, 1, none⟩ = some (.slice none 0 0) := objc R5 rfl
      have r2 : w5.cell? ⟨w.heap.size + 1, 2, none⟩ = some (.slice none 0 0) := objc R5 rfl
      have rf : ∀ i, w5.frozen? ⟨w.heap.size + 1, i, none⟩ = false := fun i => by simp [World.frozen?, R5]
      clear hp R5 HR4 hB N4
      simp only [List.drop_succ_cons, List.drop_zero, putD, Act.put]
      rw [d1, d3]
      clear d1 d3
      generalize vs 0 = v0
      generalize vs 2 = v2
      gi_wp2_with fail
      go_wp2_with fail
      have hS : But (fun k => k = w.heap.size + 1) w5 (((w5.setCell ⟨w.heap.size + 1, 0, none⟩ (.int .i64 b''.now)).setCell ⟨w.heap.size + 1, 1, none⟩ (.slice b''.fa b''.fl.length b''.fc)).setCell ⟨w.heap.size + 1, 2, none⟩ (.slice b''.ha b''.hl.length b''.hc)) := (((But.refl (fun k => k = w.heap.size + 1) w5).set (g := w.heap.size + 1) rfl _ _).set (g := w.heap.size + 1) rfl _ _).set (g := w.heap.size + 1) rfl _ _
      have hA6 := (HA5.out.but hS (fun k hk => by rw [hk]; omega)).weak (z' := w.heap.size) (by omega)
      have hN6 := hS.under N5 (Nat.le_refl _) (fun k hk => by rw [hk]; omega)
      exact bodyPost_ret (v := .tuple #[b''.val, .int .i64 c]) (by simp [results, Tryz.results51, go_sem, r0, r1, r2]) rfl ⟨.inr ⟨HBK.out, b', i, f, b'', c, HPg.out, HRR.out, rfl, hA6⟩, hN6⟩
end Go.Proofs.YtjlliijeaekmfaaGreatDoor
namespace Go.Proofs.YtjlliijeaekmfaaGreatDoor
open Go.RowKit Go.Shelf
attribute [local go_sem] Oper.semAt_some
set_option maxRecDepth 100000 in
set_option maxHeartbeats 8000000 in
theorem changed_let (v0 : Value) (b : Bk) (nm : ByteArray) (R : Bk → Nat → Bool → Bk → Int → Prop) (w : World) (hC : Changes 115 #[v0] b nm R w) (hL : Laid w) (hf : Xs 3 Fx.cells w b.fa b.fl) (hnf : b.fl.length ≤ 1048576) (hcf : b.fl.length ≤ b.fc) (hcf2 : b.fc ≤ 1048576) (hsf : ∀ f ∈ b.fl, f.n.size ≤ 9223372036854775807) (hh : Xs 3 Hx.cells w b.ha b.hl) (hnh : b.hl.length ≤ 1048576) (hg : ∀ h ∈ b.hl, h.In w ∧ h.Fit) :
    Calls Tryz.prog 51 #[b.val, .string nm, .func (.func 115) #[] #[v0]] w fun e w' => Changed b nm R w.heap.size e w' ∧ Below w.heap.size w w' := by
  have hB0 : Below w.heap.size w ((w.alloc b.obj).alloc (.cells #[.int .i64 0, .slice none 0 0, .slice none 0 0] 35)) := balloc (balloc (Below.refl _ _) _) _
  have A0 := (Below.heap_alloc (w.alloc b.obj) (.cells #[.int .i64 0, .slice none 0 0, .slice none 0 0] 35) w.heap.size (by simp)).trans (World.alloc_heap_new w b.obj)
  have R0 := World.alloc_heap_new (w.alloc b.obj) (.cells #[.int .i64 0, .slice none 0 0, .slice none 0 0] 35)
  rw [World.size_alloc] at R0
  go_enter Tryz.func51, Tryz.ntmps51
  go_wp2_with fail
  obtain ⟨W0, hW0⟩ : ∃ W0, (w.alloc b.obj).alloc (.cells #[.int .i64 0, .slice none 0 0, .slice none 0 0] 35) = W0 := ⟨_, rfl⟩
  rw [hW0] at hB0 A0 R0 ⊢
  have hz1 : w.heap.size + 1 < W0.heap.size := (Array.getElem?_eq_some_iff.1 R0).1
  clear hW0
  refine (implBook_any b W0 (hf.later hB0) hnf hcf hcf2 hsf (hh.later hB0) hnh (fun h m => ⟨(hg h m).1.later hB0, (hg h m).2⟩)).mono ?_
  rintro e w1 ⟨rfl, hb1⟩
  have N1 := bstep hB0 hb1
  have A1 := blk A0 hb1
  have R1 := blk R0 hb1
  have hs1 := hb1.size
  clear A0 R0 hb1 hB0
  cases hbk : bookB b with
  | false =>
    have HBK : Hid _ := hbk
    have HR1 : Hid _ := R1
    clear A1 R1 hbk
    go_wp2_with fail
    refine (code_hit 1 w1 (hL.later N1)).mono ?_
    rintro e w2 ⟨rfl, hb2⟩
    have N2 := bstep N1 hb2
    have R2 := blk HR1.out hb2
    have r0 : w2.cell? ⟨w.heap.size + 1, 0, none⟩ = some (.int .i64 0) := objc R2 rfl
    have r1 : w2.cell? ⟨w.heap.size + 1, 1, none⟩ = some (.slice none 0 0) := objc R2 rfl
    have r2 : w2.cell? ⟨w.heap.size + 1, 2, none⟩ = some (.slice none 0 0) := objc R2 rfl
    have rf : ∀ i, w2.frozen? ⟨w.heap.size + 1, i, none⟩ = false := fun i => by simp [World.frozen?, R2]
    clear R2 HR1 hb2
    go_wp2_with fail
    have hN3 := ((N2.setCell (p := ⟨w.heap.size + 1, 0, none⟩) (by show w.heap.size ≤ w.heap.size + 1; omega) (.int .i64 0)).setCell (p := ⟨w.heap.size + 1, 1, none⟩) (by show w.heap.size ≤ w.heap.size + 1; omega) (.slice none 0 0)).setCell (p := ⟨w.heap.size + 1, 2, none⟩) (by show w.heap.size ≤ w.heap.size + 1; omega) (.slice none 0 0)
    exact bodyPost_ret (v := .tuple #[Bk.val ⟨0, none, [], 0, none, [], 0⟩, .int .i64 1]) (by simp [results, Tryz.results51, go_sem, r0, r1, r2]) rfl ⟨.inl ⟨HBK.out, rfl⟩, hN3⟩
  | true =>
    have HBK : Hid _ := hbk
    have k0 : w1.cell? ⟨w.heap.size, 0, none⟩ = some (.int .i64 b.now) := objc A1 rfl
    have k1 : w1.cell? ⟨w.heap.size, 1, none⟩ = some (.slice b.fa b.fl.length b.fc) := objc A1 rfl
    have k2 : w1.cell? ⟨w.heap.size, 2, none⟩ = some (.slice b.ha b.hl.length b.hc) := objc A1 rfl
    have hh16 : b.hl.length ≤ 64 := by
      have := hbk
      simp only [bookB, sixteenB, Bool.and_eq_true, decide_eq_true_eq] at this
      omega
    have hasc : ascG Hx.n b.hl = true := by
      have := hbk
      simp only [bookB, heldsB, namesG, Bool.and_eq_true] at this
      exact this.2.2.2.1.2
    have HR1 : Hid _ := R1
    clear A1 R1 hbk
    go_wp2_with fail
    refine (pageAt_any b nm w1 (hf.later N1) hnf (hh.later N1) hh16 (fun h m => ⟨(hg h m).1.later N1, (hg h m).2⟩) hasc).mono ?_
    rintro e w2 ⟨⟨b', i, f, rfl, hpg, hA⟩, hb2⟩
    have hbx : Below w2.heap.size w2 (w2.alloc (pgo b' nm i f)) := balloc (Below.refl _ _) _
    have P3 := World.alloc_heap_new w2 (pgo b' nm i f)
    have N3 := bstep (bstep N1 hb2) hbx
    have HR3 : Hid _ := blk (blk HR1.out hb2) hbx
    have hA3 := hA.later hbx
    have hs2 := hb2.size
    obtain ⟨w3, hw3⟩ : ∃ w3, w2.alloc (pgo b' nm i f) = w3 := ⟨_, rfl⟩
    rw [hw3] at P3 N3 HR3 hA3
    have hs3 : w2.heap.size < w3.heap.size := (Array.getElem?_eq_some_iff.1 P3).1
    have HI : Hid (PgIn w1.heap.size w2.heap.size w3 b' nm i f) := ⟨P3, hA3, hs2⟩
    have HPg : Hid _ := hpg
    clear k0 k1 k2 hA hA3 P3 hbx hb2 N1 HR1 hpg hasc
    go_wp2_with fail
    clear hw3
    refine (hC b' i f w2.heap.size w1.heap.size w3 HBK.out HPg.out (by omega) (by omega) HI.out N3).mono ?_
    rintro e w4 ⟨b'', c, rfl, hR, hI4, hb4⟩
    have N4 := hb4.under N3 (Nat.le_refl _) (fun q hq => by have hq' : w1.heap.size ≤ q := hq; omega)
    have HR4 : Hid _ := blk_but HR3.out hb4 (fun hq => by have hq' : w1.heap.size ≤ w.heap.size + 1 := hq; omega)
    have HI4 : Hid _ := hI4
    have HRR : Hid _ := hR
    clear hC HI HR3 N3 hI4 hb4 hR
    go_wp2_with fail
    refine wpIn_wide.1 (wpIn_region_valsB (F := Fence.wide) (n := 0) (by kernel_rfl) 4 [some 21, some 22, some 23, some 24] (by decide) (D5 w2.heap.size b'' c) D5.later (by kernel_rfl) (by kernel_rfl) (by kernel_rfl) ?step ?fin)
    case step =>
      intro i o vs w' hi' ho hB hd
      match i, hi' with
      | 0, _ =>
        simp at ho
        subst ho
        simp only [putD, Act.put]
        gi_wp2
        exact ⟨_, by simp [upd], rfl, Below.refl _ _⟩
      | 1, _ =>
        simp at ho
        subst ho
        have d0 : vs 0 = _ := hd { on := 0, ground := Ground.data } (by simp) rfl
        have P5 := blk HI4.out.p hB
        have k0 : w'.cell? ⟨w2.heap.size, 0, none⟩ = some (.int .i64 b''.now) := objc P5 rfl
        have k1 : w'.cell? ⟨w2.heap.size, 1, none⟩ = some (.slice b''.fa b''.fl.length b''.fc) := objc P5 rfl
        have k2 : w'.cell? ⟨w2.heap.size, 2, none⟩ = some (.slice b''.ha b''.hl.length b''.hc) := objc P5 rfl
        clear P5
        simp only [putD, Act.put]
        rw [d0]
        gi_wp2
        exact ⟨_, by simp [upd, d0], rfl, Below.refl _ _⟩
      | 2, _ =>
        simp at ho
        subst ho
        simp only [putD, Act.put]
        gi_wp2
        exact ⟨_, by simp [upd], rfl, Below.refl _ _⟩
      | 3, _ =>
        simp at ho
        subst ho
        have d2 : vs 2 = _ := hd { on := 2, ground := Ground.data } (by simp) rfl
        simp only [putD, Act.put]
        rw [d2]
        gi_wp2_with fail
        refine ⟨trivial, rfl, ?_⟩
        refine (callsIn_wide.2 (code_any c w' (hL.later (bstep N4 hB)))).mono ?_
        rintro e w5 ⟨rfl, hb5⟩
        gi_wp2
        exact ⟨_, by simp [upd, d2], rfl, hb5⟩
      | j + 4, h => exact absurd h (by omega)
    case fin =>
      intro vs w5 hB hp
      have d1 : vs 1 = _ := hp 1 (by decide)
      have d3 : vs 3 = _ := hp 3 (by decide)
      have N5 := bstep N4 hB
      have R5 := blk HR4.out hB
      have HA5 : Hid _ := HI4.out.a.later hB
      have r0 : w5.cell? ⟨w.heap.size + 1, 0, none⟩ = some (.int .i64 0) := objc R5 rfl
      have r1 : w5.cell? ⟨w.heap.size + 1, 1, none⟩ = some (.slice none 0 0) := objc R5 rfl
      have r2 : w5.cell? ⟨w.heap.size + 1, 2, none⟩ = some (.slice none 0 0) := objc R5 rfl
      have rf : ∀ i, w5.frozen? ⟨w.heap.size + 1, i, none⟩ = false := fun i => by simp [World.frozen?, R5]
      clear hp R5 HR4 hB N4
      simp only [List.drop_succ_cons, List.drop_zero, putD, Act.put]
      rw [d1, d3]
      clear d1 d3
      generalize vs 0 = v0
      generalize vs 2 = v2
      gi_wp2_with fail
      go_wp2_with fail
      have hS : But (fun k => k = w.heap.size + 1) w5 (((w5.setCell ⟨w.heap.size + 1, 0, none⟩ (.int .i64 b''.now)).setCell ⟨w.heap.size + 1, 1, none⟩ (.slice b''.fa b''.fl.length b''.fc)).setCell ⟨w.heap.size + 1, 2, none⟩ (.slice b''.ha b''.hl.length b''.hc)) := (((But.refl (fun k => k = w.heap.size + 1) w5).set (g := w.heap.size + 1) rfl _ _).set (g := w.heap.size + 1) rfl _ _).set (g := w.heap.size + 1) rfl _ _
      have hA6 := (HA5.out.but hS (fun k hk => by rw [hk]; omega)).weak (z' := w.heap.size) (by omega)
      have hN6 := hS.under N5 (Nat.le_refl _) (fun k hk => by rw [hk]; omega)
      exact bodyPost_ret (v := .tuple #[b''.val, .int .i64 c]) (by simp [results, Tryz.results51, go_sem, r0, r1, r2]) rfl ⟨.inr ⟨HBK.out, b', i, f, b'', c, HPg.out, HRR.out, rfl, hA6⟩, hN6⟩
end Go.Proofs.YtjlliijeaekmfaaGreatDoor
namespace Go.Proofs.YtjlliijeaekmfaaGreatDoor
open Go.RowKit Go.Shelf
attribute [local go_sem] Oper.semAt_some
set_option maxRecDepth 100000 in
set_option maxHeartbeats 8000000 in
theorem changed_amend (v0 : Value) (b : Bk) (nm : ByteArray) (R : Bk → Nat → Bool → Bk → Int → Prop) (w : World) (hC : Changes 69 #[v0] b nm R w) (hL : Laid w) (hf : Xs 3 Fx.cells w b.fa b.fl) (hnf : b.fl.length ≤ 1048576) (hcf : b.fl.length ≤ b.fc) (hcf2 : b.fc ≤ 1048576) (hsf : ∀ f ∈ b.fl, f.n.size ≤ 9223372036854775807) (hh : Xs 3 Hx.cells w b.ha b.hl) (hnh : b.hl.length ≤ 1048576) (hg : ∀ h ∈ b.hl, h.In w ∧ h.Fit) :
    Calls Tryz.prog 51 #[b.val, .string nm, .func (.func 69) #[] #[v0]] w fun e w' => Changed b nm R w.heap.size e w' ∧ Below w.heap.size w w' := by
  have hB0 : Below w.heap.size w ((w.alloc b.obj).alloc (.cells #[.int .i64 0, .slice none 0 0, .slice none 0 0] 35)) := balloc (balloc (Below.refl _ _) _) _
  have A0 := (Below.heap_alloc (w.alloc b.obj) (.cells #[.int .i64 0, .slice none 0 0, .slice none 0 0] 35) w.heap.size (by simp)).trans (World.alloc_heap_new w b.obj)
  have R0 := World.alloc_heap_new (w.alloc b.obj) (.cells #[.int .i64 0, .slice none 0 0, .slice none 0 0] 35)
  rw [World.size_alloc] at R0
  go_enter Tryz.func51, Tryz.ntmps51
  go_wp2_with fail
  obtain ⟨W0, hW0⟩ : ∃ W0, (w.alloc b.obj).alloc (.cells #[.int .i64 0, .slice none 0 0, .slice none 0 0] 35) = W0 := ⟨_, rfl⟩
  rw [hW0] at hB0 A0 R0 ⊢
  have hz1 : w.heap.size + 1 < W0.heap.size := (Array.getElem?_eq_some_iff.1 R0).1
  clear hW0
  refine (implBook_any b W0 (hf.later hB0) hnf hcf hcf2 hsf (hh.later hB0) hnh (fun h m => ⟨(hg h m).1.later hB0, (hg h m).2⟩)).mono ?_
  rintro e w1 ⟨rfl, hb1⟩
  have N1 := bstep hB0 hb1
  have A1 := blk A0 hb1
  have R1 := blk R0 hb1
  have hs1 := hb1.size
  clear A0 R0 hb1 hB0
  cases hbk : bookB b with
  | false =>
    have HBK : Hid _ := hbk
    have HR1 : Hid _ := R1
    clear A1 R1 hbk
    go_wp2_with fail
    refine (code_hit 1 w1 (hL.later N1)).mono ?_
    rintro e w2 ⟨rfl, hb2⟩
    have N2 := bstep N1 hb2
    have R2 := blk HR1.out hb2
    have r0 : w2.cell? ⟨w.heap.size + 1, 0, none⟩ = some (.int .i64 0) := objc R2 rfl
    have r1 : w2.cell? ⟨w.heap.size + 1, 1, none⟩ = some (.slice none 0 0) := objc R2 rfl
    have r2 : w2.cell? ⟨w.heap.size + 1, 2, none⟩ = some (.slice none 0 0) := objc R2 rfl
    have rf : ∀ i, w2.frozen? ⟨w.heap.size + 1, i, none⟩ = false := fun i => by simp [World.frozen?, R2]
    clear R2 HR1 hb2
    go_wp2_with fail
    have hN3 := ((N2.setCell (p := ⟨w.heap.size + 1, 0, none⟩) (by show w.heap.size ≤ w.heap.size + 1; omega) (.int .i64 0)).setCell (p := ⟨w.heap.size + 1, 1, none⟩) (by show w.heap.size ≤ w.heap.size + 1; omega) (.slice none 0 0)).setCell (p := ⟨w.heap.size + 1, 2, none⟩) (by show w.heap.size ≤ w.heap.size + 1; omega) (.slice none 0 0)
    exact bodyPost_ret (v := .tuple #[Bk.val ⟨0, none, [], 0, none, [], 0⟩, .int .i64 1]) (by simp [results, Tryz.results51, go_sem, r0, r1, r2]) rfl ⟨.inl ⟨HBK.out, rfl⟩, hN3⟩
  | true =>
    have HBK : Hid _ := hbk
    have k0 : w1.cell? ⟨w.heap.size, 0, none⟩ = some (.int .i64 b.now) := objc A1 rfl
    have k1 : w1.cell? ⟨w.heap.size, 1, none⟩ = some (.slice b.fa b.fl.length b.fc) := objc A1 rfl
    have k2 : w1.cell? ⟨w.heap.size, 2, none⟩ = some (.slice b.ha b.hl.length b.hc) := objc A1 rfl
    have hh16 : b.hl.length ≤ 64 := by
      have := hbk
      simp only [bookB, sixteenB, Bool.and_eq_true, decide_eq_true_eq] at this
      omega
    have hasc : ascG Hx.n b.hl = true := by
      have := hbk
      simp only [bookB, heldsB, namesG, Bool.and_eq_true] at this
      exact this.2.2.2.1.2
    have HR1 : Hid _ := R1
    clear A1 R1 hbk
    go_wp2_with fail
    refine (pageAt_any b nm w1 (hf.later N1) hnf (hh.later N1) hh16 (fun h m => ⟨(hg h m).1.later N1, (hg h m).2⟩) hasc).mono ?_
    rintro e w2 ⟨⟨b', i, f, rfl, hpg, hA⟩, hb2⟩
    have hbx : Below w2.heap.size w2 (w2.alloc (pgo b' nm i f)) := balloc (Below.refl _ _) _
    have P3 := World.alloc_heap_new w2 (pgo b' nm i f)
    have N3 := bstep (bstep N1 hb2) hbx
    have HR3 : Hid _ := blk (blk HR1.out hb2) hbx
    have hA3 := hA.later hbx
    have hs2 := hb2.size
    obtain ⟨w3, hw3⟩ : ∃ w3, w2.alloc (pgo b' nm i f) = w3 := ⟨_, rfl⟩
    rw [hw3] at P3 N3 HR3 hA3
    have hs3 : w2.heap.size < w3.heap.size := (Array.getElem?_eq_some_iff.1 P3).1
    have HI : Hid (PgIn w1.heap.size w2.heap.size w3 b' nm i f) := ⟨P3, hA3, hs2⟩
    have HPg : Hid _ := hpg
    clear k0 k1 k2 hA hA3 P3 hbx hb2 N1 HR1 hpg hasc
    go_wp2_with fail
    clear hw3
    refine (hC b' i f w2.heap.size w1.heap.size w3 HBK.out HPg.out (by omega) (by omega) HI.out N3).mono ?_
    rintro e w4 ⟨b'', c, rfl, hR, hI4, hb4⟩
    have N4 := hb4.under N3 (Nat.le_refl _) (fun q hq => by have hq' : w1.heap.size ≤ q := hq; omega)
    have HR4 : Hid _ := blk_but HR3.out hb4 (fun hq => by have hq' : w1.heap.size ≤ w.heap.size + 1 := hq; omega)
    have HI4 : Hid _ := hI4
    have HRR : Hid _ := hR
    clear hC HI HR3 N3 hI4 hb4 hR
    go_wp2_with fail
    refine wpIn_wide.1 (wpIn_region_valsB (F := Fence.wide) (n := 0) (by kernel_rfl) 4 [some 21, some 22, some 23, some 24] (by decide) (D5 w2.heap.size b'' c) D5.later (by kernel_rfl) (by kernel_rfl) (by kernel_rfl) ?step ?fin)
    case step =>
      intro i o vs w' hi' ho hB hd
      match i, hi' with
      | 0, _ =>
        simp at ho
        subst ho
        simp only [putD, Act.put]
        gi_wp2
        exact ⟨_, by simp [upd], rfl, Below.refl _ _⟩
      | 1, _ =>
        simp at ho
        subst ho
        have d0 : vs 0 = _ := hd { on := 0, ground := Ground.data } (by simp) rfl
        have P5 := blk HI4.out.p hB
        have k0 : w'.cell? ⟨w2.heap.size, 0, none⟩ = some (.int .i64 b''.now) := objc P5 rfl
        have k1 : w'.cell? ⟨w2.heap.size, 1, none⟩ = some (.slice b''.fa b''.fl.length b''.fc) := objc P5 rfl
        have k2 : w'.cell? ⟨w2.heap.size, 2, none⟩ = some (.slice b''.ha b''.hl.length b''.hc) := objc P5 rfl
        clear P5
        simp only [putD, Act.put]
        rw [d0]
        gi_wp2
        exact ⟨_, by simp [upd, d0], rfl, Below.refl _ _⟩
      | 2, _ =>
        simp at ho
        subst ho
        simp only [putD, Act.put]
        gi_wp2
        exact ⟨_, by simp [upd], rfl, Below.refl _ _⟩
      | 3, _ =>
        simp at ho
        subst ho
        have d2 : vs 2 = _ := hd { on := 2, ground := Ground.data } (by simp) rfl
        simp only [putD, Act.put]
        rw [d2]
        gi_wp2_with fail
        refine ⟨trivial, rfl, ?_⟩
        refine (callsIn_wide.2 (code_any c w' (hL.later (bstep N4 hB)))).mono ?_
        rintro e w5 ⟨rfl, hb5⟩
        gi_wp2
        exact ⟨_, by simp [upd, d2], rfl, hb5⟩
      | j + 4, h => exact absurd h (by omega)
    case fin =>
      intro vs w5 hB hp
      have d1 : vs 1 = _ := hp 1 (by decide)
      have d3 : vs 3 = _ := hp 3 (by decide)
      have N5 := bstep N4 hB
      have R5 := blk HR4.out hB
      have HA5 : Hid _ := HI4.out.a.later hB
      have r0 : w5.cell? ⟨w.heap.size + 1, 0, none⟩ = some (.int .i64 0) := objc R5 rfl
      have r1 : w5.cell? ⟨w.heap.size + 1, 1, none⟩ = some (.slice none 0 0) := objc R5 rfl
      have r2 : w5.cell? ⟨w.heap.size + 1, 2, none⟩ = some (.slice none 0 0) := objc R5 rfl
      have rf : ∀ i, w5.frozen? ⟨w.heap.size + 1, i, none⟩ = false := fun i => by simp [World.frozen?, R5]
      clear hp R5 HR4 hB N4
      simp only [List.drop_succ_cons, List.drop_zero, putD, Act.put]
      rw [d1, d3]
      clear d1 d3
      generalize vs 0 = v0
      generalize vs 2 = v2
      gi_wp2_with fail
      go_wp2_with fail
      have hS : But (fun k => k = w.heap.size + 1) w5 (((w5.setCell ⟨w.heap.size + 1, 0, none⟩ (.int .i64 b''.now)).setCell ⟨w.heap.size + 1, 1, none⟩ (.slice b''.fa b''.fl.length b''.fc)).setCell ⟨w.heap.size + 1, 2, none⟩ (.slice b''.ha b''.hl.length b''.hc)) := (((But.refl (fun k => k = w.heap.size + 1) w5).set (g := w.heap.size + 1) rfl _ _).set (g := w.heap.size + 1) rfl _ _).set (g := w.heap.size + 1) rfl _ _
      have hA6 := (HA5.out.but hS (fun k hk => by rw [hk]; omega)).weak (z' := w.heap.size) (by omega)
      have hN6 := hS.under N5 (Nat.le_refl _) (fun k hk => by rw [hk]; omega)
      exact bodyPost_ret (v := .tuple #[b''.val, .int .i64 c]) (by simp [results, Tryz.results51, go_sem, r0, r1, r2]) rfl ⟨.inr ⟨HBK.out, b', i, f, b'', c, HPg.out, HRR.out, rfl, hA6⟩, hN6⟩
end Go.Proofs.YtjlliijeaekmfaaGreatDoor
namespace Go.Proofs.YtjlliijeaekmfaaGreatDoor
open Go.RowKit Go.Shelf
attribute [local go_sem] Oper.semAt_some
def HearR (took : Bool) (b' : Bk) (i : Nat) (f : Bool) (b'' : Bk) (c : Int) : Prop := c = hearC b' i f ∧ b'' = hearB b' i f took
set_option maxRecDepth 100000 in
theorem hear1_changes (took : Bool) (T : Nat) (b : Bk) (nm : ByteArray) (w : World) (hT : w.cell? ⟨T, 0, none⟩ = some (.bool took)) (hft : ∀ h ∈ b.hl, h.Fit) :
    Changes 72 #[.pointer (some ⟨T, 0, none⟩)] b nm (HearR took) w := by
  intro b' i f P z W _ hpg hz hzW hI hN
  have c0 : W.cell? ⟨T, 0, none⟩ = some (.bool took) := (hN.cell (cell_lt hT)).trans hT
  show Calls Tryz.prog 72 #[.pointer (some ⟨P, 0, none⟩), .pointer (some ⟨T, 0, none⟩)] W _
  go_enter Tryz.func72, Tryz.ntmps72
  go_wp2_with fail
  refine (hear_any z P b' nm i f took W hI (fun e => by obtain ⟨h, _⟩ := hpg.hd.1 e; rw [hpg.lk.len]; exact h) (hpg.lk.fit hft)).mono ?_
  rintro e w1 ⟨rfl, hI1, hb1⟩
  go_wp2
  go_ret
  exact ⟨_, _, rfl, ⟨rfl, rfl⟩, hI1, hb1⟩
set_option maxRecDepth 100000 in
set_option maxHeartbeats 4000000 in
theorem implHear_any (b : Bk) (nm : ByteArray) (took : Bool) (w : World) (hL : Laid w) (hf : Xs 3 Fx.cells w b.fa b.fl) (hnf : b.fl.length ≤ 1048576) (hcf : b.fl.length ≤ b.fc) (hcf2 : b.fc ≤ 1048576) (hsf : ∀ f ∈ b.fl, f.n.size ≤ 9223372036854775807) (hh : Xs 3 Hx.cells w b.ha b.hl) (hnh : b.hl.length ≤ 1048576) (hg : ∀ h ∈ b.hl, h.In w ∧ h.Fit) :
    Calls Tryz.prog 27 #[b.val, .string nm, .bool took] w fun e w' => Changed b nm (HearR took) w.heap.size e w' ∧ Below w.heap.size w w' := by
  have hB0 : Below w.heap.size w (((w.alloc b.obj).alloc (.cells #[.bool took] 4)).alloc (.cells #[.int .i64 0, .slice none 0 0, .slice none 0 0] 35)) := balloc (balloc (balloc (Below.refl _ _) _) _) _
  have T0 := (Below.heap_alloc ((w.alloc b.obj).alloc (.cells #[.bool took] 4)) (.cells #[.int .i64 0, .slice none 0 0, .slice none 0 0] 35) (w.alloc b.obj).heap.size (by simp)).trans (World.alloc_heap_new (w.alloc b.obj) (.cells #[.bool took] 4))
  have R0 := World.alloc_heap_new ((w.alloc b.obj).alloc (.cells #[.bool took] 4)) (.cells #[.int .i64 0, .slice none 0 0, .slice none 0 0] 35)
  simp only [World.size_alloc] at T0 R0
  go_enter Tryz.func27, Tryz.ntmps27
  go_wp2_with fail
  obtain ⟨W0, hW0⟩ : ∃ W0, ((w.alloc b.obj).alloc (.cells #[.bool took] 4)).alloc (.cells #[.int .i64 0, .slice none 0 0, .slice none 0 0] 35) = W0 := ⟨_, rfl⟩
  rw [hW0] at hB0 T0 R0 ⊢
  have hz1 : w.heap.size + 1 + 1 < W0.heap.size := (Array.getElem?_eq_some_iff.1 R0).1
  have t0 : W0.cell? ⟨w.heap.size + 1, 0, none⟩ = some (.bool took) := objc T0 rfl
  clear hW0
  refine (changed_hear (.pointer (some ⟨w.heap.size + 1, 0, none⟩)) b nm (HearR took) W0 (hear1_changes took (w.heap.size + 1) b nm W0 t0 (fun h m => (hg h m).2)) (hL.later hB0) (hf.later hB0) hnf hcf hcf2 hsf (hh.later hB0) hnh (fun h m => ⟨(hg h m).1.later hB0, (hg h m).2⟩)).mono ?_
  rintro e w1 ⟨hC, hb1⟩
  have N1 := bstep hB0 hb1
  have R1 := blk R0 hb1
  have r0 : w1.cell? ⟨w.heap.size + 1 + 1, 0, none⟩ = some (.int .i64 0) := objc R1 rfl
  have r1 : w1.cell? ⟨w.heap.size + 1 + 1, 1, none⟩ = some (.slice none 0 0) := objc R1 rfl
  have r2 : w1.cell? ⟨w.heap.size + 1 + 1, 2, none⟩ = some (.slice none 0 0) := objc R1 rfl
  have rf : ∀ i, w1.frozen? ⟨w.heap.size + 1 + 1, i, none⟩ = false := fun i => by simp [World.frozen?, R1]
  have hs1 := hb1.size
  clear T0 R0 R1 hb1 hB0 t0
  have hS : ∀ u v x : Value, But (fun k => k = w.heap.size + 1 + 1) w1 (((w1.setCell ⟨w.heap.size + 1 + 1, 0, none⟩ u).setCell ⟨w.heap.size + 1 + 1, 1, none⟩ v).setCell ⟨w.heap.size + 1 + 1, 2, none⟩ x) := fun u v x => (((But.refl (fun k => k = w.heap.size + 1 + 1) w1).set (g := w.heap.size + 1 + 1) rfl _ _).set (g := w.heap.size + 1 + 1) rfl _ _).set (g := w.heap.size + 1 + 1) rfl _ _
  have hN6 := fun u v x => (hS u v x).under N1 (Nat.le_refl _) (fun k hk => by rw [hk]; omega)
  rcases hC with ⟨hbk, rfl⟩ | ⟨hbk, b', i, f, b'', c, hpg, hR, rfl, hA⟩
  · have HBK : Hid _ := hbk
    clear hbk
    go_wp2_with fail
    exact bodyPost_ret (v := .tuple #[Bk.val ⟨0, none, [], 0, none, [], 0⟩, .int .i64 1]) (by simp [results, Tryz.results27, go_sem, r0, r1, r2]) rfl ⟨.inl ⟨HBK.out, rfl⟩, hN6 _ _ _⟩
  · have HBK : Hid _ := hbk
    have HR : Hid _ := hR
    clear hbk hR
    go_wp2_with fail
    exact bodyPost_ret (v := .tuple #[b''.val, .int .i64 c]) (by simp [results, Tryz.results27, go_sem, r0, r1, r2]) rfl ⟨.inr ⟨HBK.out, b', i, f, b'', c, hpg, HR.out, rfl, (hA.but (hS _ _ _) (fun k hk => by rw [hk]; omega)).weak (by omega)⟩, hN6 _ _ _⟩
end Go.Proofs.YtjlliijeaekmfaaGreatDoor
