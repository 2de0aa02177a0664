import Derived.Test.YtjlliijeaekmfaaGreatDoorDq
import Derived.Test.YtjlliijeaekmfaaGreatDoorTubes
namespace Go.Proofs.YtjlliijeaekmfaaGreatDoor
open Go.RowKit Go.Shelf
attribute [local go_sem] Oper.semAt_some
theorem flat_set_perm : ∀ (l : List Hx) (i : Nat) (x' : Hx) (s r : List Nat) (h : i < l.length), x'.bs = s ++ r → s.Sublist l[i].bs → ∃ m, m.Sublist (l.flatMap Hx.bs) ∧ ((l.set i x').flatMap Hx.bs).Perm (m ++ r)
  | [], _, _, _, _, h, _, _ => by simp at h
  | a :: q, 0, x', s, r, _, e, hs => by
    refine ⟨s ++ q.flatMap Hx.bs, ?_, ?_⟩
    · simp only [List.flatMap_cons]
      exact List.Sublist.append hs (List.Sublist.refl _)
    · simp only [List.set_cons_zero, List.flatMap_cons, e, List.append_assoc]
      exact List.Perm.append_left s List.perm_append_comm
  | a :: q, i + 1, x', s, r, h, e, hs => by
    obtain ⟨m, h1, h2⟩ := flat_set_perm q i x' s r (by simpa using h) e (by simpa using hs)
    refine ⟨a.bs ++ m, ?_, ?_⟩
    · simp only [List.flatMap_cons]
      exact List.Sublist.append (List.Sublist.refl _) h1
    · simp only [List.set_cons_succ, List.flatMap_cons, List.append_assoc]
      exact List.Perm.append_left _ h2
theorem flat_set_new (l : List Hx) (i : Nat) (x' : Hx) (s r : List Nat) (h : i < l.length) (e : x'.bs = s ++ r) (hs : s.Sublist l[i].bs) (hd : (l.flatMap Hx.bs).Nodup) (hr : r.Nodup) (hn : ∀ q ∈ r, q ∉ l.flatMap Hx.bs) : ((l.set i x').flatMap Hx.bs).Nodup := by
  obtain ⟨m, h1, h2⟩ := flat_set_perm l i x' s r h e hs
  rw [h2.nodup_iff, List.nodup_append]
  exact ⟨hd.sublist h1, hr, fun a ha c hc e => hn c hc (e ▸ h1.subset ha)⟩
theorem Likes.refl (l : List Hx) : Likes l l := ⟨rfl, fun _ _ => ⟨rfl, rfl, rfl⟩⟩
theorem Likes.set {l m : List Hx} (h : Likes l m) (i : Nat) {a b : Hx} (g : a.Like b) : Likes (l.set i a) (m.set i b) := by
  refine ⟨by simp [h.len], fun k hk => ?_⟩
  by_cases e : i = k
  · subst e
    rw [List.getElem_set_self, List.getElem_set_self]
    exact g
  · rw [List.getElem_set_ne e, List.getElem_set_ne e]
    exact h.like k (by simpa using hk)
/-- Who was sent another tube. -/
def amdX (tl : List Bx) (x : Hx) : Hx := ⟨x.n, x.ta, x.tl, x.tc, none, tl, 0⟩
def amdC (b : Bk) (nm : ByteArray) (i : Nat) (f : Bool) (tl : List Bx) : Int :=
  if (tubeOkB b.fl tl && fromB b.now tl) = false then 2 else if f then (match b.hl[i]? with | some x => if x.nl = [] then (if freeL nm tl b.hl then 0 else 5) else 7 | none => 6) else 6
def amdL (b : Bk) (nm : ByteArray) (i : Nat) (f : Bool) (tl : List Bx) : List Hx := if amdC b nm i f tl = 0 then (match b.hl[i]? with | some x => b.hl.set i (amdX tl x) | none => b.hl) else b.hl
def A7 (P : Nat) (b : Bk) (nm : ByteArray) (tv : Value) (fr : Bool) (j : Nat) (v : Value) (_w : World) : Prop :=
  match j with
  | 0 => v = .pointer (some ⟨P, 0, none⟩)
  | 1 => v = .pointer (some ⟨P, 0, none⟩)
  | 2 => v = .pointer (some ⟨P, 0, none⟩)
  | 3 => v = b.val
  | 4 => v = .pointer (some ⟨P, 0, none⟩)
  | 5 => v = .pointer (some ⟨P, 0, none⟩)
  | 6 => v = .pointer (some ⟨P, 3, none⟩)
  | 7 => v = .string nm
  | 8 => v = tv
  | 9 => v = .bool fr
  | _ => True
theorem A7.later {P : Nat} {b : Bk} {nm : ByteArray} {tv : Value} {fr : Bool} (j : Nat) (v : Value) (w w' : World) (h : A7 P b nm tv fr j v w) (_ : Below w.heap.size w w') : A7 P b nm tv fr j v w' := h
def A9 (P : Nat) (b : Bk) (g i : Nat) (tv : Value) (Z : Nat) (tl : List Bx) (j : Nat) (v : Value) (w : World) : Prop :=
  match j with
  | 0 => v = .pointer (some ⟨P, 0, none⟩)
  | 1 => v = .pointer (some ⟨P, 0, none⟩)
  | 2 => v = .pointer (some ⟨P, 0, none⟩)
  | 3 => v = .pointer (some ⟨P, 2, none⟩)
  | 4 => v = .slice (some ⟨g, 0, none⟩) b.hl.length b.hc
  | 5 => v = .pointer (some ⟨P, 0, none⟩)
  | 6 => v = .pointer (some ⟨P, 0, none⟩)
  | 7 => v = .pointer (some ⟨P, 4, none⟩)
  | 8 => v = .int .i64 (i : Int)
  | 9 => v = tv
  | 10 => OwnBx w Z v tl
  | _ => True
theorem A9.later {P : Nat} {b : Bk} {g i : Nat} {tv : Value} {Z : Nat} {tl : List Bx} (j : Nat) (v : Value) (w w' : World) (h : A9 P b g i tv Z tl j v w) (hb : Below w.heap.size w w') : A9 P b g i tv Z tl j v w' := by
  unfold A9 at h ⊢
  split
  all_goals first
    | exact h
    | exact OwnBx.later h hb
    | trivial
set_option maxRecDepth 100000 in
set_option maxHeartbeats 8000000 in
theorem amend_any (z P : Nat) (b : Bk) (nm : ByteArray) (i : Nat) (f : Bool) (tl : List Bx) (ta : Option Addr) (tc : Nat) (w : World) (hI : PgIn z P w b nm i f) (hzw : z ≤ w.heap.size) (hfi : f = true → i < b.hl.length) (hft : ∀ h ∈ b.hl, h.Fit) (hnf : b.fl.length ≤ 1048576) (hnh : b.hl.length ≤ 64) (ht : Bxs w ta tl) (hnt : tl.length ≤ 1048576) :
    Calls Tryz.prog 70 #[.pointer (some ⟨P, 0, none⟩), .slice ta tl.length tc] w fun e w' => ∃ b'' : Bk, e = .returned (errV (amdC b nm i f tl)) ∧ b''.now = b.now ∧ b''.fl = b.fl ∧ Likes (amdL b nm i f tl) b''.hl ∧ PgIn z P w' b'' nm i f ∧ But (fun k => z ≤ k) w w' := by
  have p0 : w.cell? ⟨P, 0, none⟩ = some (.int .i64 b.now) := objc hI.p rfl
  have p1 : w.cell? ⟨P, 1, none⟩ = some (.slice b.fa b.fl.length b.fc) := objc hI.p rfl
  have p2 : w.cell? ⟨P, 2, none⟩ = some (.slice b.ha b.hl.length b.hc) := objc hI.p rfl
  have HI : Hid _ := hI
  have HFt : Hid _ := hft
  clear hI hft
  go_enter Tryz.func70, Tryz.ntmps70
  go_wp2_with fail
  refine (tubeOkIn_any b tl ta tc w HI.out.a.ans.fs hnf ht hnt).mono ?_
  rintro e w1 ⟨rfl, hb1⟩
  obtain ⟨v1, hv1⟩ : ∃ v, (tubeOkB b.fl tl && fromB b.now tl) = v := ⟨_, rfl⟩
  rw [hv1]
  have HV1 : Hid _ := hv1
  have NN := hb1
  clear hb1 hv1 p0 p1 p2
  cases v1 with
  | false =>
    go_wp2_with fail
    go_ret
    have HC : amdC b nm i f tl = 2 := by unfold amdC; rw [HV1.out]; rfl
    have HL : amdL b nm i f tl = b.hl := by unfold amdL; rw [HC]; rfl
    rw [HC]
    exact ⟨b, rfl, rfl, rfl, by rw [HL]; exact Likes.refl _, HI.out.later NN, But.below NN⟩
  | true =>
  have P1 := blk HI.out.p NN
  have p0 : w1.cell? ⟨P, 0, none⟩ = some (.int .i64 b.now) := objc P1 rfl
  have p1 : w1.cell? ⟨P, 1, none⟩ = some (.slice b.fa b.fl.length b.fc) := objc P1 rfl
  have p2 : w1.cell? ⟨P, 2, none⟩ = some (.slice b.ha b.hl.length b.hc) := objc P1 rfl
  have p3 : w1.cell? ⟨P, 3, none⟩ = some (.string nm) := objc P1 rfl
  have p4 : w1.cell? ⟨P, 4, none⟩ = some (.int .i64 (i : Int)) := objc P1 rfl
  have p5 : w1.cell? ⟨P, 5, none⟩ = some (.bool f) := objc P1 rfl
  clear P1
  cases f with
  | false =>
    go_wp2_with fail
    go_ret
    have HC : amdC b nm i false tl = 6 := by unfold amdC; rw [HV1.out]; rfl
    have HL : amdL b nm i false tl = b.hl := by unfold amdL; rw [HC]; rfl
    rw [HC]
    exact ⟨b, rfl, rfl, rfl, by rw [HL]; exact Likes.refl _, HI.out.later NN, But.below NN⟩
  | true =>
  have hi := hfi rfl
  obtain ⟨x, hx⟩ : ∃ x, x = b.hl[i] := ⟨_, rfl⟩
  have hxi : b.hl[i]? = some x := by rw [hx]; exact List.getElem?_eq_getElem hi
  have hxf := HFt.out x (by rw [hx]; exact List.getElem_mem hi)
  obtain ⟨g, ha, hgz, hcap, fv, hrow, hf⟩ := HI.out.a.held hi
  rw [ha] at p2
  have hrw1 := hrow.of_block (NN.block _ hrow.lt)
  have e2 := hrw1.cell (i := i * 3 + 2) (by omega)
  rw [show fv (i * 3 + 2) = .slice x.na x.nl.length x.nc from by rw [hx]; exact hf i hi hi 2 _ rfl] at e2
  have hPg : P ≠ g := fun e => by
    subst e
    obtain ⟨cs, hcs, _⟩ := hrow
    rw [HI.out.p] at hcs
    cases hcs
  have hnn := hxf.nn
  have HX : Hid (x = b.hl[i]) := hx
  have HXi : Hid _ := hxi
  have HR : Hid (w.rowIs g 87 (b.hc * 3) fv) := hrow
  have HF : Hid _ := hf
  have HA : Hid _ := ha
  clear hf hx hxi hrow hrw1 ha
  cases hnl : x.nl with
  | cons y ys =>
    have hlen : 0 < x.nl.length := by rw [hnl]; simp
    have HC : Hid (amdC b nm i true tl = 7) := by
      have : amdC b nm i true tl = 7 := by unfold amdC; rw [HV1.out, HXi.out]; simp [hnl]
      exact this
    have hgt : decide ((0 : Int) < (x.nl.length : Int)) = true := by simp; omega
    clear hnl
    go_wp2_with fail
    go_quiet (fail)
    go_wp2_with fail
    go_ret
    have HL : amdL b nm i true tl = b.hl := by unfold amdL; rw [HC.out]; rfl
    rw [HC.out]
    exact ⟨b, rfl, rfl, rfl, by rw [HL]; exact Likes.refl _, HI.out.later (bstep NN (bdrew _ _)), But.below (bstep NN (bdrew _ _))⟩
  | nil =>
  have HNl : Hid (x.nl = []) := hnl
  rw [hnl] at e2
  clear hnl
  go_wp2_with fail
  go_quiet (fail)
  obtain ⟨fr, hfr⟩ : ∃ fr, freeL nm tl b.hl = fr := ⟨_, rfl⟩
  have HFr : Hid _ := hfr
  have NN := bstep NN (bdrew w1 nq)
  have p0 := ((bdrew w1 nq).cell (cell_lt p0)).trans p0
  have p1 := ((bdrew w1 nq).cell (cell_lt p1)).trans p1
  have p2 := ((bdrew w1 nq).cell (cell_lt p2)).trans p2
  rw [← HA.out] at p2
  have p3 := ((bdrew w1 nq).cell (cell_lt p3)).trans p3
  have p4 := ((bdrew w1 nq).cell (cell_lt p4)).trans p4
  have p5 := ((bdrew w1 nq).cell (cell_lt p5)).trans p5
  clear hfr e2
  go_wp2_with fail
  refine wpIn_wide.1 (wpIn_region_valsB (F := Fence.wide) (n := 0) (by kernel_rfl) 10 [some 34, some 35, some 36, some 37, some 38, some 39, some 40, some 41, some 42, some 43] (by decide) (A7 P b nm (.slice ta tl.length tc) fr) A7.later (by kernel_rfl) (by kernel_rfl) (by kernel_rfl) ?step ?fin)
  case step =>
    intro ii o vs w' hi' ho hB hd
    match ii, hi' with
    | 0, _ =>
      simp at ho
      subst ho
      simp only [putD, Act.put]
      gi_wp2
      exact ⟨_, by simp [upd], rfl, Below.refl _ _⟩
    | 1, _ =>
      simp at ho
      subst ho
      have d0 : vs 0 = _ := hd { on := 0, ground := Ground.data } (by simp) rfl
      simp only [putD, Act.put]
      rw [d0]
      gi_wp2
      exact ⟨_, by simp [upd, d0], rfl, Below.refl _ _⟩
    | 2, _ =>
      simp at ho
      subst ho
      have d1 : vs 1 = _ := hd { on := 1, ground := Ground.data } (by simp) rfl
      simp only [putD, Act.put]
      rw [d1]
      gi_wp2
      exact ⟨_, by simp [upd, d1], rfl, Below.refl _ _⟩
    | 3, _ =>
      simp at ho
      subst ho
      have d2 : vs 2 = _ := hd { on := 2, ground := Ground.data } (by simp) rfl
      have k0 := (hB.cell (cell_lt p0)).trans p0
      have k1 := (hB.cell (cell_lt p1)).trans p1
      have k2 := (hB.cell (cell_lt p2)).trans p2
      simp only [putD, Act.put]
      rw [d2]
      gi_wp2
      exact ⟨_, by simp [upd, d2], rfl, Below.refl _ _⟩
    | 4, _ =>
      simp at ho
      subst ho
      simp only [putD, Act.put]
      gi_wp2
      exact ⟨_, by simp [upd], rfl, Below.refl _ _⟩
    | 5, _ =>
      simp at ho
      subst ho
      have d4 : vs 4 = _ := hd { on := 4, ground := Ground.data } (by simp) rfl
      simp only [putD, Act.put]
      rw [d4]
      gi_wp2
      exact ⟨_, by simp [upd, d4], rfl, Below.refl _ _⟩
    | 6, _ =>
      simp at ho
      subst ho
      have d5 : vs 5 = _ := hd { on := 5, ground := Ground.data } (by simp) rfl
      simp only [putD, Act.put]
      rw [d5]
      gi_wp2
      exact ⟨_, by simp [upd, d5], rfl, Below.refl _ _⟩
    | 7, _ =>
      simp at ho
      subst ho
      have d6 : vs 6 = _ := hd { on := 6, ground := Ground.data } (by simp) rfl
      have k3 := (hB.cell (cell_lt p3)).trans p3
      simp only [putD, Act.put]
      rw [d6]
      gi_wp2
      exact ⟨_, by simp [upd, d6], rfl, Below.refl _ _⟩
    | 8, _ =>
      simp at ho
      subst ho
      simp only [putD, Act.put]
      gi_wp2
      exact ⟨_, by simp [upd], rfl, Below.refl _ _⟩
    | 9, _ =>
      simp at ho
      subst ho
      have d3 : vs 3 = _ := hd { on := 3, ground := Ground.data } (by simp) rfl
      have d7 : vs 7 = _ := hd { on := 7, ground := Ground.data } (by simp) rfl
      have d8 : vs 8 = _ := hd { on := 8, ground := Ground.data } (by simp) rfl
      simp only [putD, Act.put]
      rw [d3, d7, d8]
      gi_wp2_with fail
      refine ⟨trivial, rfl, ?_⟩
      refine (callsIn_wide.2 (nearNobody_any b nm tl ta tc w' (HI.out.a.ans.hs.later (bstep NN hB)) (by omega) (fun h m => ⟨(HI.out.a.ans.inn h m).later (bstep NN hB), HFt.out h m⟩) (ht.later (bstep NN hB)) hnt)).mono ?_
      rintro e w5 ⟨rfl, hb5⟩
      rw [HFr.out]
      gi_wp2
      exact ⟨_, by simp [upd, d3, d7, d8], rfl, hb5⟩
    | q + 10, h => exact absurd h (by omega)
  case fin =>
    intro vs w2 hB hp
    have d9 : vs 9 = _ := hp 9 (by decide)
    have N2 := bstep NN hB
    have q2 := (hB.cell (cell_lt p2)).trans p2
    rw [HA.out] at q2
    have q4 := (hB.cell (cell_lt p4)).trans p4
    clear hp hB NN p0 p1 p2 p3 p4 p5
    simp only [List.drop_succ_cons, List.drop_zero, putD, Act.put]
    rw [d9]
    clear d9
    generalize vs 0 = v0
    generalize vs 1 = v1
    generalize vs 2 = v2
    generalize vs 3 = v3
    generalize vs 4 = v4
    generalize vs 5 = v5
    generalize vs 6 = v6
    generalize vs 7 = v7
    generalize vs 8 = v8
    cases fr with
    | false =>
      gi_wp2_with fail
      go_wp2_with fail
      go_ret
      have HC : amdC b nm i true tl = 5 := by unfold amdC; rw [HV1.out, HXi.out, HFr.out]; simp [HNl.out]
      have HL : amdL b nm i true tl = b.hl := by unfold amdL; rw [HC]; rfl
      rw [HC]
      exact ⟨b, rfl, rfl, rfl, by rw [HL]; exact Likes.refl _, HI.out.later N2, But.below N2⟩
    | true =>
      gi_wp2_with fail
      go_wp2_with fail
      refine wpIn_wide.1 (wpIn_region_valsB (F := Fence.wide) (n := 0) (by kernel_rfl) 11 [some 46, some 47, some 48, some 49, some 50, some 51, some 52, some 53, some 54, some 55, some 56] (by decide) (A9 P b g i (.slice ta tl.length tc) w2.heap.size tl) A9.later (by kernel_rfl) (by kernel_rfl) (by kernel_rfl) ?step ?fin)
      case step =>
        intro ii o vs w' hi' ho hB hd
        match ii, hi' with
        | 0, _ =>
          simp at ho
          subst ho
          simp only [putD, Act.put]
          gi_wp2
          exact ⟨_, by simp [upd], rfl, Below.refl _ _⟩
        | 1, _ =>
          simp at ho
          subst ho
          have d0 : vs 0 = _ := hd { on := 0, ground := Ground.data } (by simp) rfl
          simp only [putD, Act.put]
          rw [d0]
          gi_wp2
          exact ⟨_, by simp [upd, d0], rfl, Below.refl _ _⟩
        | 2, _ =>
          simp at ho
          subst ho
          have d1 : vs 1 = _ := hd { on := 1, ground := Ground.data } (by simp) rfl
          simp only [putD, Act.put]
          rw [d1]
          gi_wp2
          exact ⟨_, by simp [upd, d1], rfl, Below.refl _ _⟩
        | 3, _ =>
          simp at ho
          subst ho
          have d2 : vs 2 = _ := hd { on := 2, ground := Ground.data } (by simp) rfl
          simp only [putD, Act.put]
          rw [d2]
          gi_wp2
          exact ⟨_, by simp [upd, d2], rfl, Below.refl _ _⟩
        | 4, _ =>
          simp at ho
          subst ho
          have d3 : vs 3 = _ := hd { on := 3, ground := Ground.data } (by simp) rfl
          have k2 := (hB.cell (cell_lt q2)).trans q2
          simp only [putD, Act.put]
          rw [d3]
          gi_wp2
          exact ⟨_, by simp [upd, d3], rfl, Below.refl _ _⟩
        | 5, _ =>
          simp at ho
          subst ho
          simp only [putD, Act.put]
          gi_wp2
          exact ⟨_, by simp [upd], rfl, Below.refl _ _⟩
        | 6, _ =>
          simp at ho
          subst ho
          have d5 : vs 5 = _ := hd { on := 5, ground := Ground.data } (by simp) rfl
          simp only [putD, Act.put]
          rw [d5]
          gi_wp2
          exact ⟨_, by simp [upd, d5], rfl, Below.refl _ _⟩
        | 7, _ =>
          simp at ho
          subst ho
          have d6 : vs 6 = _ := hd { on := 6, ground := Ground.data } (by simp) rfl
          simp only [putD, Act.put]
          rw [d6]
          gi_wp2
          exact ⟨_, by simp [upd, d6], rfl, Below.refl _ _⟩
        | 8, _ =>
          simp at ho
          subst ho
          have d7 : vs 7 = _ := hd { on := 7, ground := Ground.data } (by simp) rfl
          have k4 := (hB.cell (cell_lt q4)).trans q4
          simp only [putD, Act.put]
          rw [d7]
          gi_wp2
          exact ⟨_, by simp [upd, d7], rfl, Below.refl _ _⟩
        | 9, _ =>
          simp at ho
          subst ho
          simp only [putD, Act.put]
          gi_wp2
          exact ⟨_, by simp [upd], rfl, Below.refl _ _⟩
        | 10, _ =>
          simp at ho
          subst ho
          have d9 : vs 9 = _ := hd { on := 9, ground := Ground.data } (by simp) rfl
          simp only [putD, Act.put]
          rw [d9]
          gi_wp2_with fail
          refine ⟨trivial, rfl, ?_⟩
          refine (callsIn_wide.2 (freshB_any tl ta tc w' (ht.later (bstep N2 hB)) hnt)).mono ?_
          rintro e w5 ⟨⟨v5, rfl, hO5⟩, hb5⟩
          have HO5 : Hid _ := hO5.weak (base' := w2.heap.size) hB.size
          clear hO5
          gi_wp2
          exact ⟨_, by simp [upd, d9], HO5.out, hb5⟩
        | q + 11, h => exact absurd h (by omega)
      case fin =>
        intro vs w3 hB hp
        have d4 : vs 4 = _ := hp 4 (by decide)
        have d8 : vs 8 = _ := hp 8 (by decide)
        have d10 : OwnBx w3 w2.heap.size (vs 10) tl := hp 10 (by decide)
        obtain ⟨na, nc, hv, _⟩ := d10.slice
        rw [hv] at d10
        have HO : Hid (OwnBx w3 w2.heap.size (.slice na tl.length nc) tl) := d10
        have N3 := bstep N2 hB
        have hr3 := HR.out.of_block (N3.block _ HR.out.lt)
        have c3 := hr3.cell (i := i * 3 + 2) (by omega)
        have cf := fun i => hr3.frozen i
        have hs2 := hB.size
        have hsN := N2.size
        clear hp hB d10 q2 q4
        simp only [List.drop_succ_cons, List.drop_zero, putD, Act.put]
        rw [d4, d8, hv]
        clear d4 d8 hv
        generalize vs 0 = v0
        generalize vs 1 = v1
        generalize vs 2 = v2
        generalize vs 3 = v3
        generalize vs 5 = v5
        generalize vs 6 = v6
        generalize vs 7 = v7
        generalize vs 9 = v9
        have HR3 : Hid (w3.rowIs g 87 (b.hc * 3) fv) := hr3
        clear hr3
        gi_wp2_with fail
        go_wp2_with fail
        go_ret
        have HC : amdC b nm i true tl = 0 := by unfold amdC; rw [HV1.out, HXi.out, HFr.out]; simp [HNl.out]
        have HL : amdL b nm i true tl = b.hl.set i (amdX tl x) := by unfold amdL; rw [HC, HXi.out]; rfl
        rw [HC]
        have hbb : But (fun k => k = g) w (w3.setCell ⟨g, i * 3 + 2, none⟩ (.slice na tl.length nc)) := (But.below (S := fun k => k = g) N3).set (g := g) rfl _ _
        have h1 := HR3.out.set (i * 3 + 2) (.slice na tl.length nc)
        have h2 : (fun j => if j = i * 3 + 2 then Value.slice na tl.length nc else fv j) = (fun j => if j = i * 3 + 2 then Value.slice na tl.length nc else if j = i * 3 + 1 then .slice x.ta x.tl.length x.tc else fv j) := by
          funext j
          by_cases e : j = i * 3 + 1
          · subst e
            rw [if_neg (by omega), if_neg (by omega), if_pos rfl, HX.out]
            exact HF.out i hi hi 1 _ rfl
          · simp [e]
        rw [h2] at h1
        have hR := RowX.lists (h := x) (h' := ⟨x.n, x.ta, x.tl, x.tc, na, tl, nc⟩) h1 HF.out HXi.out rfl
        have hTx : TOwn z w x := HI.out.a.t x (by rw [HX.out]; exact List.getElem_mem hi)
        have hT' : TOwn z (w3.setCell ⟨g, i * 3 + 2, none⟩ (.slice na tl.length nc)) ⟨x.n, x.ta, x.tl, x.tc, na, tl, nc⟩ := ⟨(hTx.butHeld HR.out hbb).t, ((HO.out.weak (base' := z) (by omega)).setRow HR3.out (by decide) _ _)⟩
        have hnb : ∀ q ∈ (na.map Addr.block).toList, w2.heap.size ≤ q := fun q hq => by
          rcases HO.out with ⟨e, _⟩ | ⟨g', cap', e, h1', _⟩
          · simp only [Value.slice.injEq] at e; rw [e.1] at hq; simp at hq
          · simp only [Value.slice.injEq] at e; rw [e.1] at hq; simp at hq; omega
        have hnd : ((b.hl.set i ⟨x.n, x.ta, x.tl, x.tc, na, tl, nc⟩).flatMap Hx.bs).Nodup := flat_set_new b.hl i _ ((x.ta.map Addr.block).toList) ((na.map Addr.block).toList) hi rfl (by rw [← HX.out]; simp [Hx.bs]) HI.out.a.d (nodup_opt _) (fun q hq hq' => by
          obtain ⟨y, hy, hq'⟩ := List.mem_flatMap.1 hq'
          have h1 := ((HI.out.a.t y hy).bs_in q hq').2
          have h2 := hnb q hq
          omega)
        refine ⟨⟨b.now, b.fa, b.fl, b.fc, b.ha, b.hl.set i ⟨x.n, x.ta, x.tl, x.tc, na, tl, nc⟩, b.hc⟩, rfl, rfl, rfl, ?_, ⟨?_, HI.out.a.put HA.out hi hbb hR hT' hnd, HI.out.zp⟩, hbb.wide (fun k hk => by rw [hk]; exact hgz)⟩
        · rw [HL]
          exact (Likes.refl b.hl).set i ⟨rfl, rfl, rfl⟩
        · have := blk_but HI.out.p hbb hPg
          rw [this]
          simp
end Go.Proofs.YtjlliijeaekmfaaGreatDoor
