import Derived.Test.YtjlliijeaekmfaaGreatDoorFa
import Derived.Test.YtjlliijeaekmfaaGreatDoorEa
import Derived.Test.YtjlliijeaekmfaaGreatDoorDt
namespace Go.Proofs.YtjlliijeaekmfaaGreatDoor
open Go.RowKit Go.Shelf
attribute [local go_sem] Oper.semAt_some
/-- Who is left from a tick on. -/
def keepL (frm : Int) (l : List Hx) : List Hx := (l.map (cutH frm)).filter (fun x => !x.tl.isEmpty)
theorem keepL_yes {frm : Int} {l : List Hx} {x : Hx} (h : (cutH frm x).tl ≠ []) : keepL frm (l ++ [x]) = keepL frm l ++ [cutH frm x] := by
  unfold keepL
  rw [List.map_append, List.filter_append]
  simp [h]
theorem keepL_no {frm : Int} {l : List Hx} {x : Hx} (h : (cutH frm x).tl = []) : keepL frm (l ++ [x]) = keepL frm l := by
  unfold keepL
  rw [List.map_append, List.filter_append]
  simp [h]
theorem keepL_len (frm : Int) (l : List Hx) : (keepL frm l).length ≤ l.length := by
  unfold keepL
  exact Nat.le_trans (List.length_filter_le _ _) (by simp)
theorem cutH_fit (frm : Int) {x : Hx} (h : x.Fit) : (cutH frm x).Fit := by
  unfold cutH
  split
  · exact ⟨Nat.le_trans (cutL_length frm x.nl) h.nn, by simp, h.sn⟩
  · exact ⟨Nat.le_trans (cutL_length frm x.tl) h.tn, Nat.le_trans (cutL_length frm x.nl) h.nn, h.sn⟩
def tickC (b : Bk) (n : Int) : Int := if n < 0 ∨ 10000 - b.now < n then 2 else 0
def tickN (b : Bk) (n : Int) : Int := if tickC b n = 0 then b.now + n else b.now
def tickL (b : Bk) (n : Int) : List Hx := if tickC b n = 0 then keepL (b.now + n) b.hl else b.hl
/-- A book is no page. -/
theorem PgBk.butPage {z P : Nat} {w w' : World} {b : Bk} {cs : Array Value} (h : PgBk z w b) (hb : But (fun k => k = P) w w') (hP : w.heap[P]? = some (.cells cs 157)) : PgBk z w' b := by
  have no : ∀ {t n : Nat} {f : Nat → Value}, t ≠ 157 → w.rowIs P t n f → False := fun ht hr => by
    obtain ⟨c, hc, _⟩ := hr
    rw [hP] at hc
    cases hc
    exact ht rfl
  refine ⟨h.f.butRow hb (fun k _ _ _ hr e => by have e' : k = P := e; subst e'; exact no (by decide) hr), h.h.butRow hb (fun k _ _ _ hr e => by have e' : k = P := e; subst e'; exact no (by decide) hr), fun x hx => (h.t x hx).but hb (fun q hq e => ?_), h.d⟩
  have e' : q = P := e
  subst e'
  obtain ⟨_, _, r⟩ := (h.t x hx).bs_row q hq
  exact no (by decide) r
/-- What a walk over those who hold something leaves. -/
structure PM (Wn : World) (frm : Int) (d0 dn : List Hx) (v : Value) (wr : World) : Prop where
  n : Below Wn.heap.size Wn wr
  h : wr.ownsRow Wn.heap.size 87 3 v dn.length (flatX Hx.cells dn)
  k : Likes (keepL frm d0) dn
  t : ∀ x ∈ dn, TOwn Wn.heap.size wr x
  d : (dn.flatMap Hx.bs).Nodup
theorem own_later {w w' : World} {base : Nat} {e : TypeId} {size : Nat} {v : Value} {n : Nat} {xs : List Value} (h : w.ownsRow base e size v n xs) (hb : Below w.heap.size w w') : w'.ownsRow base e size v n xs := by
  obtain ⟨h0, ⟨hv, hn⟩ | ⟨g, cap, cur, hv, hbb, hg, hr⟩⟩ := h
  · exact ⟨h0, .inl ⟨hv, hn⟩⟩
  · exact ⟨h0, .inr ⟨g, cap, cur, hv, hbb, (hb.block _ (Array.getElem?_eq_some_iff.1 hg).1).trans hg, hr⟩⟩
theorem PM.later {Wn : World} {frm : Int} {d0 dn : List Hx} {v : Value} {wr w' : World} (h : PM Wn frm d0 dn v wr) (hb : Below wr.heap.size wr w') : PM Wn frm d0 dn v w' :=
  ⟨bstep h.n hb, own_later h.h hb, h.k, fun x hx => (h.t x hx).later hb, h.d⟩
theorem PM.len {Wn : World} {frm : Int} {d0 dn : List Hx} {v : Value} {wr : World} (h : PM Wn frm d0 dn v wr) : dn.length ≤ d0.length := by
  rw [h.k.len]; exact keepL_len frm d0
theorem PM.skip {Wn : World} {frm : Int} {d0 dn : List Hx} {v : Value} {wr : World} {x : Hx} (h : PM Wn frm d0 dn v wr) (hx : (cutH frm x).tl = []) : PM Wn frm (d0 ++ [x]) dn v wr :=
  ⟨h.n, h.h, by rw [keepL_no hx]; exact h.k, h.t, h.d⟩
theorem PM.grow {Wn : World} {frm : Int} {d0 dn : List Hx} {v v' : Value} {w' w2 : World} {x x' : Hx} {B : Nat} (h : PM Wn frm d0 dn v w') (hl : (cutH frm x).Like x') (hx : (cutH frm x).tl ≠ []) (ht : TOwn B w' x') (hd : x'.bs.Nodup) (hB : Wn.heap.size ≤ B ∧ ∀ y ∈ dn, ∀ q ∈ y.bs, q < B)
    (hown : w2.ownsRow Wn.heap.size 87 3 v' (dn.length + 1) (flatX Hx.cells dn ++ x'.cells)) (hg : w'.grownBy w2 v.ownBlock) :
    PM Wn frm (d0 ++ [x]) (dn ++ [x']) v' w2 := by
  have hty : ∀ k, v.ownBlock = some k → ∃ cur, w'.heap[k]? = some (.cells cur 87) := fun k hk => by
    obtain ⟨_, ⟨rfl, _⟩ | ⟨g, cap, cur, rfl, _, e, _⟩⟩ := h.h
    · simp [Value.ownBlock] at hk
    · simp [Value.ownBlock] at hk
      subst hk
      exact ⟨cur, e⟩
  have hf : flatX Hx.cells (dn ++ [x']) = flatX Hx.cells dn ++ x'.cells := by rw [flatX_append, flatX_one]
  refine ⟨h.n.grown hg h.n.size (fun k hk => own_ge h.h hk), by rw [hf, List.length_append]; exact hown, by rw [keepL_yes hx]; exact h.k.snoc hl, fun y hy => ?_, ?_⟩
  · simp only [List.mem_append, List.mem_singleton] at hy
    have hyT : TOwn Wn.heap.size w' y := by
      rcases hy with hy | rfl
      · exact h.t y hy
      · exact ht.weak hB.1
    exact ⟨hyT.t.gkeep hg hty, hyT.n.gkeep hg hty⟩
  · rw [List.flatMap_append, List.nodup_append]
    refine ⟨h.d, by simpa using hd, fun q hq r hr e => ?_⟩
    subst e
    obtain ⟨y, hy, hq⟩ := List.mem_flatMap.1 hq
    have h1 := hB.2 y hy q hq
    have h2 := (ht.bs_in q (by simpa using hr)).1
    omega
def P8 (P : Nat) (frm : Int) (x : Hx) (Z : Nat) (j : Nat) (v : Value) (w : World) : Prop :=
  match j with
  | 0 => v = x.val
  | 1 => v = .pointer (some ⟨P, 0, none⟩)
  | 2 => v = .pointer (some ⟨P, 0, none⟩)
  | 3 => v = .pointer (some ⟨P, 0, none⟩)
  | 4 => v = .pointer (some ⟨P, 0, none⟩)
  | 5 => v = .int .i64 frm
  | 6 => ∃ x' : Hx, v = x'.val ∧ (cutH frm x).Like x' ∧ TOwn Z w x' ∧ x'.bs.Nodup
  | _ => True
theorem P8.later {P : Nat} {frm : Int} {x : Hx} {Z : Nat} (j : Nat) (v : Value) (w w' : World) (h : P8 P frm x Z j v w) (hb : Below w.heap.size w w') : P8 P frm x Z j v w' := by
  unfold P8 at h ⊢
  split
  all_goals first
    | exact h
    | (obtain ⟨x', e, h1, h2, h3⟩ := h; exact ⟨x', e, h1, h2.later hb, h3⟩)
    | trivial
set_option maxRecDepth 100000 in
set_option maxHeartbeats 8000000 in
theorem pass_any (z P : Nat) (b : Bk) (nm : ByteArray) (i : Nat) (f : Bool) (n : Int) (w : World) (hI : PgIn z P w b nm i f) (hzw : z ≤ w.heap.size) (hft : ∀ h ∈ b.hl, h.Fit) (hnh : b.hl.length ≤ 64) (hn0 : 0 ≤ b.now) (hn1 : b.now ≤ 10000) :
    Calls Tryz.prog 160 #[.pointer (some ⟨P, 0, none⟩), .int .i64 n] w fun e w' => ∃ b'' : Bk, e = .returned (errV (tickC b n)) ∧ b''.now = tickN b n ∧ b''.fl = b.fl ∧ Likes (tickL b n) b''.hl ∧ PgIn z P w' b'' nm i f ∧ But (fun k => z ≤ k) w w' := by
  have p0 : w.cell? ⟨P, 0, none⟩ = some (.int .i64 b.now) := objc hI.p rfl
  have HI : Hid _ := hI
  have HFt : Hid _ := hft
  clear hI hft
  have hno : tickC b n = 2 → ∃ b'' : Bk, Ending.returned (errV 2) = .returned (errV (tickC b n)) ∧ b''.now = tickN b n ∧ b''.fl = b.fl ∧ Likes (tickL b n) b''.hl ∧ PgIn z P w b'' nm i f ∧ But (fun k => z ≤ k) w w := fun h => ⟨b, by rw [h], by unfold tickN; rw [h]; rfl, rfl, by unfold tickL; rw [h]; exact Likes.refl _, HI.out, But.refl _ _⟩
  have HNo : Hid _ := hno
  clear hno
  by_cases h1 : n < 0
  · have hd1 : decide (n < 0) = true := by simp [h1]
    have HC : Hid (tickC b n = 2) := by
      have : tickC b n = 2 := by unfold tickC; rw [if_pos (.inl h1)]
      exact this
    clear h1
    go_enter Tryz.func160, Tryz.ntmps160
    go_wp2_with fail
    go_ret
    first
      | exact HNo.out HC.out
      | (obtain ⟨b'', h1, h2⟩ := HNo.out HC.out; exact ⟨h1, b'', h2⟩)
  have hd1 : decide (n < 0) = false := by simp; omega
  by_cases h2 : 10000 - b.now < n
  · have hd2 : decide (10000 - b.now < n) = true := by simp [h2]
    have HC : Hid (tickC b n = 2) := by
      have : tickC b n = 2 := by unfold tickC; rw [if_pos (.inr h2)]
      exact this
    clear h2
    go_enter Tryz.func160, Tryz.ntmps160
    go_wp2_with fail
    go_ret
    first
      | exact HNo.out HC.out
      | (obtain ⟨b'', h1, h2⟩ := HNo.out HC.out; exact ⟨h1, b'', h2⟩)
  have hd2 : decide (10000 - b.now < n) = false := by simp; omega
  have HC : Hid (tickC b n = 0) := by
    have : tickC b n = 0 := by unfold tickC; rw [if_neg (by omega)]
    exact this
  clear HNo
  obtain ⟨j0, hih, hy0, hy1, hy2⟩ := info_parts Tryz.info87
  have pf : ∀ i, w.frozen? ⟨P, i, none⟩ = false := fun i => by simp [World.frozen?, HI.out.p]
  have Pn := obj_set HI.out.p 0 (.int .i64 (b.now + n))
  have bN : But (fun k => k = P) w (w.setCell ⟨P, 0, none⟩ (.int .i64 (b.now + n))) := (But.refl (fun k => k = P) w).set (g := P) rfl _ _
  have HAn : Hid _ := HI.out.a.butPage bN HI.out.p
  have p2 : (w.setCell ⟨P, 0, none⟩ (.int .i64 (b.now + n))).cell? ⟨P, 2, none⟩ = some (.slice b.ha b.hl.length b.hc) := objc Pn rfl
  have hszn : (w.setCell ⟨P, 0, none⟩ (.int .i64 (b.now + n))).heap.size = w.heap.size := by simp
  obtain ⟨Wn, hWn⟩ : ∃ Wn, w.setCell ⟨P, 0, none⟩ (.int .i64 (b.now + n)) = Wn := ⟨_, rfl⟩
  rw [hWn] at Pn bN HAn p2 hszn
  have HPn : Hid (Wn.heap[P]? = some (pgo ⟨b.now + n, b.fa, b.fl, b.fc, b.ha, b.hl, b.hc⟩ nm i f)) := Pn
  have HBN : Hid _ := bN
  have hzn : z ≤ Wn.heap.size := by rw [hszn]; exact hzw
  clear Pn bN hszn
  go_enter Tryz.func160, Tryz.ntmps160
  go_wp2_with fail
  clear hWn p0 pf hd1 hd2
  go_loopw [5, 37] (fun v iv wr => ∃ (d0 rs dn : List Hx) (vv : Value), Hid (b.hl = d0 ++ rs) ∧ v = vv ∧ iv = .int .i64 (d0.length : Int) ∧ PM Wn (b.now + n) d0 dn vv wr) (fun _ iv _ => b.hl.length - (intOf iv).toNat)
  case atStart => exact ⟨[], b.hl, [], _, rfl, rfl, rfl, ⟨Below.refl _ _, World.ownsRow_nil _ _ _ _, ⟨rfl, fun k h => by simp [keepL] at h⟩, fun x hx => by simp at hx, by simp⟩⟩
  case round =>
    obtain ⟨d0, rs, dn, v, hm, rfl, rfl, hS⟩ := hrel
    have hml : b.hl.length = d0.length + rs.length := by rw [hm.out]; simp
    have HS : Hid (PM Wn (b.now + n) d0 dn _ wr) := hS
    cases rs with
    | cons x rs =>
      have hlt : d0.length < b.hl.length := by rw [hml]; simp
      have hxe : b.hl[d0.length] = x := by
        have : b.hl[d0.length]? = some x := by rw [hm.out, List.getElem?_append_right (Nat.le_refl _), Nat.sub_self]; rfl
        rw [List.getElem?_eq_getElem hlt] at this
        exact Option.some.inj this
      have hmem : x ∈ b.hl := by rw [← hxe]; exact List.getElem_mem hlt
      have hxf := HFt.out x hmem
      obtain ⟨g, ha, hgz, hcap, fv, hrow, hf⟩ := PgBk.held HAn.out hlt
      have hrw := hrow.of_block (hS.n.block _ hrow.lt)
      have e0 := hrw.cell (i := d0.length * 3 + 0) (by omega)
      have e1 := hrw.cell (i := d0.length * 3 + 1) (by omega)
      have e2 := hrw.cell (i := d0.length * 3 + 2) (by omega)
      rw [show fv (d0.length * 3 + 0) = .string x.n from by rw [← hxe]; exact hf d0.length hlt hlt 0 _ rfl] at e0
      rw [show fv (d0.length * 3 + 1) = .slice x.ta x.tl.length x.tc from by rw [← hxe]; exact hf d0.length hlt hlt 1 _ rfl] at e1
      rw [show fv (d0.length * 3 + 2) = .slice x.na x.nl.length x.nc from by rw [← hxe]; exact hf d0.length hlt hlt 2 _ rfl] at e2
      rw [Nat.add_zero] at e0
      have hxi : x.In Wn := PgBk.ans HAn.out |>.inn x hmem
      have HMN : Hid (b.hl = (d0 ++ [x]) ++ rs) := by rw [Hid, hm.out]; simp
      have M2 : Below wr.heap.size wr (wr.alloc (.cells #[.string x.n, .slice x.ta x.tl.length x.tc, .slice x.na x.nl.length x.nc] 87)) := balloc (Below.refl _ _) _
      have Y2 := World.alloc_heap_new wr (.cells #[.string x.n, .slice x.ta x.tl.length x.tc, .slice x.na x.nl.length x.nc] 87)
      have hp2 : Wn.heap.size ≤ wr.heap.size := hS.n.size
      have HXI : Hid (x.In (wr.alloc (.cells #[.string x.n, .slice x.ta x.tl.length x.tc, .slice x.na x.nl.length x.nc] 87))) := (hxi.later hS.n).later M2
      have p0 : (wr.alloc (.cells #[.string x.n, .slice x.ta x.tl.length x.tc, .slice x.na x.nl.length x.nc] 87)).cell? ⟨P, 0, none⟩ = some (.int .i64 (b.now + n)) := objc (blk (blk HPn.out hS.n) M2) rfl
      have hsz2 : (wr.alloc (.cells #[.string x.n, .slice x.ta x.tl.length x.tc, .slice x.na x.nl.length x.nc] 87)).heap.size = wr.heap.size + 1 := by simp
      obtain ⟨W2, hW2⟩ : ∃ W2, wr.alloc (.cells #[.string x.n, .slice x.ta x.tl.length x.tc, .slice x.na x.nl.length x.nc] 87) = W2 := ⟨_, rfl⟩
      rw [hW2] at M2 Y2 HXI p0 hsz2
      have HY2 : Hid (W2.heap[wr.heap.size]? = some (.cells #[.string x.n, .slice x.ta x.tl.length x.tc, .slice x.na x.nl.length x.nc] 87)) := Y2
      have y0 : W2.cell? ⟨wr.heap.size, 0, none⟩ = some (.string x.n) := objc Y2 rfl
      have y1 : W2.cell? ⟨wr.heap.size, 1, none⟩ = some (.slice x.ta x.tl.length x.tc) := objc Y2 rfl
      have y2 : W2.cell? ⟨wr.heap.size, 2, none⟩ = some (.slice x.na x.nl.length x.nc) := objc Y2 rfl
      have HW : Hid (Wn.heap.size ≤ W2.heap.size ∧ ∀ y ∈ dn, ∀ q ∈ y.bs, q < W2.heap.size) := ⟨by omega, fun y hy q hq => by have := ((hS.t y hy).bs_in q hq).2; omega⟩
      rw [ha]
      clear hf hrow hrw hxe hmem hxi hS hm Y2 ha hml
      go_wp2_with fail
      clear hW2 e0 e1 e2
      refine wpIn_wide.1 (wpIn_region_valsB (F := Fence.wide) (n := 0) (by kernel_rfl) 7 [some 41, some 42, some 43, some 44, some 45, some 46, some 47] (by decide) (P8 P (b.now + n) x W2.heap.size) P8.later (by kernel_rfl) (by kernel_rfl) (by kernel_rfl) ?step ?fin)
      case step =>
        intro ii o vs w' hi' ho hB hd
        match ii, hi' with
        | 0, _ =>
          simp at ho
          subst ho
          have q0 := (hB.cell (cell_lt y0)).trans y0
          have q1 := (hB.cell (cell_lt y1)).trans y1
          have q2 := (hB.cell (cell_lt y2)).trans y2
          simp only [putD, Act.put]
          gi_wp2
          exact ⟨_, by simp [upd], rfl, Below.refl _ _⟩
        | 1, _ =>
          simp at ho
          subst ho
          simp only [putD, Act.put]
          gi_wp2
          exact ⟨_, by simp [upd], rfl, Below.refl _ _⟩
        | 2, _ =>
          simp at ho
          subst ho
          have d1 : vs 1 = _ := hd { on := 1, ground := Ground.data } (by simp) rfl
          simp only [putD, Act.put]
          rw [d1]
          gi_wp2
          exact ⟨_, by simp [upd, d1], rfl, Below.refl _ _⟩
        | 3, _ =>
          simp at ho
          subst ho
          have d2 : vs 2 = _ := hd { on := 2, ground := Ground.data } (by simp) rfl
          simp only [putD, Act.put]
          rw [d2]
          gi_wp2
          exact ⟨_, by simp [upd, d2], rfl, Below.refl _ _⟩
        | 4, _ =>
          simp at ho
          subst ho
          have d3 : vs 3 = _ := hd { on := 3, ground := Ground.data } (by simp) rfl
          simp only [putD, Act.put]
          rw [d3]
          gi_wp2
          exact ⟨_, by simp [upd, d3], rfl, Below.refl _ _⟩
        | 5, _ =>
          simp at ho
          subst ho
          have d4 : vs 4 = _ := hd { on := 4, ground := Ground.data } (by simp) rfl
          have c0 := (hB.cell (cell_lt p0)).trans p0
          simp only [putD, Act.put]
          rw [d4]
          gi_wp2
          exact ⟨_, by simp [upd, d4], rfl, Below.refl _ _⟩
        | 6, _ =>
          simp at ho
          subst ho
          have d0 : vs 0 = _ := hd { on := 0, ground := Ground.data } (by simp) rfl
          have d5 : vs 5 = _ := hd { on := 5, ground := Ground.data } (by simp) rfl
          simp only [putD, Act.put]
          rw [d0, d5]
          gi_wp2_with fail
          refine ⟨trivial, rfl, ?_⟩
          refine (callsIn_wide.2 (cutHeld_any x (b.now + n) w' (Hx.In.later HXI.out hB) hxf)).mono ?_
          rintro e w5 ⟨⟨x5, rfl, hl5, ht5, hd5⟩, hb5⟩
          have HO5 : Hid (∃ x', Value.agg #[.string x5.n, .slice x5.ta x5.tl.length x5.tc, .slice x5.na x5.nl.length x5.nc] = Hx.val x' ∧ (cutH (b.now + n) x).Like x' ∧ TOwn W2.heap.size w5 x' ∧ x'.bs.Nodup) := ⟨x5, rfl, hl5, ht5.weak hB.size, hd5⟩
          clear hl5 ht5 hd5
          gi_wp2
          exact ⟨_, by simp [upd, d0, d5], HO5.out, hb5⟩
        | q + 7, h => exact absurd h (by omega)
      case fin =>
        intro vs w3 hB hp
        obtain ⟨x', d6, hl, ht, hd⟩ : ∃ x', vs 6 = Hx.val x' ∧ (cutH (b.now + n) x).Like x' ∧ TOwn W2.heap.size w3 x' ∧ x'.bs.Nodup := hp 6 (by decide)
        have M3 := bstep M2 hB
        have Y3 := blk HY2.out hB
        have hs3 := hB.size
        clear hp hB y0 y1 y2 p0
        simp only [List.drop_succ_cons, List.drop_zero, putD, Act.put]
        rw [d6]
        clear d6
        generalize vs 0 = v0
        generalize vs 1 = v1
        generalize vs 2 = v2
        generalize vs 3 = v3
        generalize vs 4 = v4
        generalize vs 5 = v5
        have rk : w3.rowIs wr.heap.size 87 3 (fun i => (#[.string x.n, .slice x.ta x.tl.length x.tc, .slice x.na x.nl.length x.nc] : Array Value).getD i undef) := ⟨_, Y3, rfl, fun i hi => by match i, hi with | 0, _ => rfl | 1, _ => rfl | 2, _ => rfl⟩
        have k0 : w3.cell? ⟨wr.heap.size, 0, none⟩ = some (.string x.n) := objc Y3 rfl
        have k1 : w3.cell? ⟨wr.heap.size, 1, none⟩ = some (.slice x.ta x.tl.length x.tc) := objc Y3 rfl
        have k2 : w3.cell? ⟨wr.heap.size, 2, none⟩ = some (.slice x.na x.nl.length x.nc) := objc Y3 rfl
        have kf := fun i => rk.frozen i
        have r4 := ((rk.set 0 (.string x'.n)).set 1 (.slice x'.ta x'.tl.length x'.tc)).set 2 (.slice x'.na x'.nl.length x'.nc)
        have bK := (((But.refl (fun k => k = wr.heap.size) w3).set (g := wr.heap.size) rfl 0 (.string x'.n)).set (g := wr.heap.size) rfl 1 (.slice x'.ta x'.tl.length x'.tc)).set (g := wr.heap.size) rfl 2 (.slice x'.na x'.nl.length x'.nc)
        have c0 : (((w3.setCell ⟨wr.heap.size, 0, none⟩ (.string x'.n)).setCell ⟨wr.heap.size, 1, none⟩ (.slice x'.ta x'.tl.length x'.tc)).setCell ⟨wr.heap.size, 2, none⟩ (.slice x'.na x'.nl.length x'.nc)).cell? ⟨wr.heap.size, 0, none⟩ = some (.string x'.n) := r4.cell (i := 0) (by decide)
        have c1 : (((w3.setCell ⟨wr.heap.size, 0, none⟩ (.string x'.n)).setCell ⟨wr.heap.size, 1, none⟩ (.slice x'.ta x'.tl.length x'.tc)).setCell ⟨wr.heap.size, 2, none⟩ (.slice x'.na x'.nl.length x'.nc)).cell? ⟨wr.heap.size, 1, none⟩ = some (.slice x'.ta x'.tl.length x'.tc) := r4.cell (i := 1) (by decide)
        have c2 : (((w3.setCell ⟨wr.heap.size, 0, none⟩ (.string x'.n)).setCell ⟨wr.heap.size, 1, none⟩ (.slice x'.ta x'.tl.length x'.tc)).setCell ⟨wr.heap.size, 2, none⟩ (.slice x'.na x'.nl.length x'.nc)).cell? ⟨wr.heap.size, 2, none⟩ = some (.slice x'.na x'.nl.length x'.nc) := r4.cell (i := 2) (by decide)
        have M4 := bK.under M3 (Nat.le_refl _) (fun k hk => by have hk' : k = wr.heap.size := hk; omega)
        have T4 := ht.but bK (fun q hq e => by have e' : q = wr.heap.size := e; have := (ht.bs_in q hq).1; omega)
        obtain ⟨w4, hw4⟩ : ∃ w4, ((w3.setCell ⟨wr.heap.size, 0, none⟩ (.string x'.n)).setCell ⟨wr.heap.size, 1, none⟩ (.slice x'.ta x'.tl.length x'.tc)).setCell ⟨wr.heap.size, 2, none⟩ (.slice x'.na x'.nl.length x'.nc) = w4 := ⟨_, rfl⟩
        rw [hw4] at c0 c1 c2 M4 T4
        have HS4 : Hid _ := HS.out.later M4
        have HT4 : Hid (TOwn W2.heap.size w4 x') := T4
        have HLk : Hid ((cutH (b.now + n) x).Like x') := hl
        have HDk : Hid (x'.bs.Nodup) := hd
        have hxl : x'.tl.length ≤ 1048576 := by rw [← hl.t]; exact (cutH_fit (b.now + n) hxf).tn
        have hsz4 := M4.size
        clear rk r4 bK T4 M3 ht hl hd Y3
        gi_wp2_with fail
        clear hw4 k0 k1 k2 kf
        by_cases hz : x'.tl = []
        · have hl0 : x'.tl.length = 0 := by rw [hz]; rfl
          have HZ : Hid ((cutH (b.now + n) x).tl = []) := by rw [Hid, HLk.out.t]; exact hz
          rw [hl0] at c1
          clear hz hl0 hxl
          go_wp2_with fail
          go_roundw
          case rel => exact ⟨d0 ++ [x], rs, dn, _, HMN, rfl, by simp, HS4.out.skip HZ.out⟩
          case measure => simp [intOf]; omega
        · have hpos : 0 < x'.tl.length := List.length_pos_iff.2 hz
          have hgt : decide ((0 : Int) < (x'.tl.length : Int)) = true := by simp; omega
          have HZ : Hid ((cutH (b.now + n) x).tl ≠ []) := by rw [Hid, HLk.out.t]; exact hz
          clear hz
          go_wp2_with (at_builtin; refine wpList_append_own _ rfl (.tmp 52) (.tmp 54) 33 rfl Wn.heap.size 87 j0 _ 3 64 Tryz.underlying33 hih hy0 hy1 hy2 rfl (by decide) _ dn.length (flatX Hx.cells dn) rfl (HS4.out.h.alloc _) ⟨w4.heap.size, 0, none⟩ 1 1 x'.cells rfl rfl ?qc1 (hx_one x') ?qc3 ?qc4 ?qc5 ?_)
          case qc1 =>
            intro j u h
            rw [Addr.add_lit, Nat.zero_add]
            match j, h with
            | 0, h => simp [Hx.cells] at h; subst h; exact objc (World.alloc_heap_new w4 _) rfl
            | 1, h => simp [Hx.cells] at h; subst h; exact objc (World.alloc_heap_new w4 _) rfl
            | 2, h => simp [Hx.cells] at h; subst h; exact objc (World.alloc_heap_new w4 _) rfl
          case qc3 => have := HS4.out.len; unfold maxLen; omega
          case qc4 => have := HS4.out.len; omega
          case qc5 => have := HS4.out.n.size; (try simp); omega
          intro v' w6 hown hgr _
          have HN : Hid _ := (HS4.out.later (balloc (Below.refl _ _) _)).grow (by have := HLk.out; exact this) HZ.out (HT4.out.later (balloc (Below.refl _ _) _)) HDk.out HW.out hown hgr
          clear hown hgr
          go_wp2_with fail
          go_roundw
          case rel => exact ⟨d0 ++ [x], rs, dn ++ [x'], _, HMN, rfl, by simp, HN.out⟩
          case measure => simp [intOf]; omega
    | nil =>
      have hd0 : b.hl = d0 := by simpa using hm.out
      have hge : b.hl.length ≤ d0.length := by rw [hd0]; exact Nat.le_refl _
      have ho := own_rowX Hx.cells_length hS.h
      obtain ⟨ah, ch, hv⟩ := OwnX.slice ho
      have HO : Hid (OwnX 87 3 Hx.cells wr Wn.heap.size (.slice ah dn.length ch) dn) := by rw [hv] at ho; exact ho
      have P3 := blk HPn.out hS.n
      have q2 : wr.cell? ⟨P, 2, none⟩ = some (.slice b.ha b.hl.length b.hc) := objc P3 rfl
      have pf : ∀ i, wr.frozen? ⟨P, i, none⟩ = false := fun i => by simp [World.frozen?, P3]
      have HP3 : Hid (wr.heap[P]? = some (pgo ⟨b.now + n, b.fa, b.fl, b.fc, b.ha, b.hl, b.hc⟩ nm i f)) := P3
      have HD0 : Hid (b.hl = d0) := hd0
      rw [hv]
      clear ho P3 hS hm hml hd0 hv
      go_wp2_with fail
      go_ret
      have hS := HS.out
      have P4 := obj_set HP3.out 2 (.slice ah dn.length ch)
      have b4 : But (fun k => k = P) wr (wr.setCell ⟨P, 2, none⟩ (.slice ah dn.length ch)) := (But.refl (fun k => k = P) wr).set (g := P) rfl _ _
      have hA4 : PgBk z (wr.setCell ⟨P, 2, none⟩ (.slice ah dn.length ch)) ⟨b.now + n, b.fa, b.fl, b.fc, ah, dn, ch⟩ := by
        refine PgBk.butPage (P := P) ⟨(PgBk.later HAn.out hS.n).f, HO.out.weak (by omega), fun x hx => (hS.t x hx).weak (by omega), hS.d⟩ b4 HP3.out
      refine ⟨⟨b.now + n, b.fa, b.fl, b.fc, ah, dn, ch⟩, by rw [HC.out]; rfl, by unfold tickN; rw [HC.out]; rfl, rfl, by unfold tickL; rw [HC.out, HD0.out]; exact hS.k, ⟨P4, hA4, HI.out.zp⟩, ?_⟩
      have hz := HI.out.zp
      exact ((HBN.out.wide (S' := fun k => z ≤ k) (fun k hk => by rw [hk]; exact hz)).trans (But.below hS.n)).trans (b4.wide (fun k hk => by rw [hk]; exact hz))
end Go.Proofs.YtjlliijeaekmfaaGreatDoor
namespace Go.Proofs.YtjlliijeaekmfaaGreatDoor
open Go.RowKit Go.Shelf
attribute [local go_sem] Oper.semAt_some
theorem pass_noName (v : Value) (w : World) : (Instr.typeAssert (.iface 120 v) 122 218 true).run Tryz.prog w = .ok (.tuple #[.nilIface, .bool false]) w := run_typeAssert_lacksB Tryz.underlying218 (by kernel_rfl) (by kernel_rfl) v _ w
def wishZ : Value := .agg #[.string ByteArray.empty, .int .i64 0, .int .i64 0, .int .i64 0, .int .i64 0, .int .i64 0, .slice none 0 0, .slice none 0 0]
def amendZ : Value := .agg #[.string ByteArray.empty, .slice none 0 0]
def hearZ : Value := .agg #[.string ByteArray.empty, .bool false]
def passZ : Value := .agg #[.int .i64 0]
theorem pass_noWish (v : Value) (w : World) : (Instr.typeAssert (.iface 120 v) 122 171 true).run Tryz.prog w = .ok (.tuple #[wishZ, .bool false]) w := by kernel_rfl
theorem pass_noAmend (v : Value) (w : World) : (Instr.typeAssert (.iface 120 v) 122 173 true).run Tryz.prog w = .ok (.tuple #[amendZ, .bool false]) w := by kernel_rfl
theorem pass_noHear (v : Value) (w : World) : (Instr.typeAssert (.iface 120 v) 122 175 true).run Tryz.prog w = .ok (.tuple #[hearZ, .bool false]) w := by kernel_rfl
theorem pass_yes (v : Value) (w : World) : (Instr.typeAssert (.iface 120 v) 122 120 true).run Tryz.prog w = .ok (.tuple #[v, .bool true]) w := by kernel_rfl
set_option maxRecDepth 100000 in
set_option maxHeartbeats 4000000 in
theorem nameIn_pass (n : Int) (w : World) :
    Calls Tryz.prog 114 #[.iface 120 (.agg #[.int .i64 n])] w fun e w' => e = .returned (.string ⟨#[]⟩) ∧ w' = w := by
  have h0 := pass_noName
  go_enter Tryz.func114, Tryz.ntmps114
  go_wp2
  go_ret
  exact ⟨rfl, rfl⟩
set_option maxRecDepth 100000 in
set_option maxHeartbeats 4000000 in
theorem let_pass (z P : Nat) (b : Bk) (nm : ByteArray) (i : Nat) (f : Bool) (n : Int) (w : World) (hI : PgIn z P w b nm i f) (hzw : z ≤ w.heap.size) (hft : ∀ h ∈ b.hl, h.Fit) (hnh : b.hl.length ≤ 64) (hn0 : 0 ≤ b.now) (hn1 : b.now ≤ 10000) :
    Calls Tryz.prog 116 #[.pointer (some ⟨P, 0, none⟩), .iface 120 (.agg #[.int .i64 n])] w fun e w' => ∃ b'' : Bk, e = .returned (errV (tickC b n)) ∧ b''.now = tickN b n ∧ b''.fl = b.fl ∧ Likes (tickL b n) b''.hl ∧ PgIn z P w' b'' nm i f ∧ But (fun k => z ≤ k) w w' := by
  have hB : Below w.heap.size w (w.alloc (.cells #[.int .i64 n] 120)) := balloc (Below.refl _ _) _
  have c0 : (w.alloc (.cells #[.int .i64 n] 120)).cell? ⟨w.heap.size, 0, none⟩ = some (.int .i64 n) := objc (World.alloc_heap_new w _) rfl
  obtain ⟨W, hW⟩ : ∃ W, w.alloc (.cells #[.int .i64 n] 120) = W := ⟨_, rfl⟩
  rw [hW] at hB c0
  have hs := hB.size
  have h0 := pass_noWish
  have h1 := pass_noAmend
  have h2 := pass_noHear
  have h3 := pass_yes
  go_enter Tryz.func116, Tryz.ntmps116
  go_wp2_with fail
  refine (pass_any z P b nm i f n W (hI.later hB) (by omega) hft hnh hn0 hn1).mono ?_
  rintro e w1 ⟨b'', rfl, e1, e2, e3, hI1, hb1⟩
  go_wp2_with fail
  go_ret
  exact ⟨b'', rfl, e1, e2, e3, hI1, (But.below hB).trans hb1⟩
end Go.Proofs.YtjlliijeaekmfaaGreatDoor
