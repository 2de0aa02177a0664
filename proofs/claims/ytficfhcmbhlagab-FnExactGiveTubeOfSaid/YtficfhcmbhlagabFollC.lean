import Derived.Test.YtficfhcmbhlagabBehind
import Derived.Test.YtficfhcmbhlagabWc
namespace Go.Proofs.Ytficfhcmbhlagab
open Go.RowKit Go.Shelf
attribute [local go_sem] Oper.semAt_some
abbrev PC := { p : Cx × Cx // cellB p.1 = true ∧ cellB p.2 = true }
set_option maxRecDepth 100000 in
theorem cget_ok {l : List Cx} (h : l.all cellB = true) (j : Nat) : cellB (cget l j) = true := by
  by_cases hj : j < l.length
  · rw [cget_eq l j hj]; exact List.all_eq_true.1 h _ (List.getElem_mem hj)
  · simp [cget, Nat.le_of_not_lt hj]; decide
def cpair (l : List Cx) (h : l.all cellB = true) (j : Nat) : PC := ⟨(cget l j, cget l (j + 1)), cget_ok h j, cget_ok h (j + 1)⟩
set_option maxRecDepth 100000 in
theorem cat_below {w w' : World} {bl o B : Nat} {c : List Value} (h : CellsAt w bl o c) (hb : Below B w w') (hl : bl < B) : CellsAt w' bl o c := fun j v hj => (hb.cell (p := ⟨bl, o + j, none⟩) hl).trans (h j v hj)
set_option maxRecDepth 100000 in
set_option maxHeartbeats 2000000 in
theorem cfoll1_in (n : Nat) (lp Bs n₀ bl off cap : Nat) (l : List Cx) (hok : l.all cellB = true) (hl1 : 1 ≤ l.length) (hlen : l.length ≤ 1048576) (hb : bl < n₀) (hBn : Bs < n₀)
    (J Jx : List PC → World → Prop) (W : World) (hJa : AbidesFrom W.heap.size J)
    (hY : ∀ pre (x : PC) W, J pre W → pre.length < l.length - 1 → YieldAt Fence.wide (n - 1) Try.prog lp #[x.1.1.val, x.1.2.val] W fun e W' =>
      (e = .returned (.bool true) ∧ J (pre ++ [x]) W' ∧ Below n₀ W W') ∨ (e = .returned (.bool false) ∧ Jx (pre ++ [x]) W'))
    (hBs : W.cell? ⟨Bs, 0, none⟩ = some (.slice (some ⟨bl, off, none⟩) l.length cap)) (hc : ∀ j (h : j < l.length), CellsAt W bl (off + j * 2) l[j].cells) (h0 : J [] W) :
    CallsIn Fence.wide n Try.prog 155 #[.func (.yield lp) #[] #[], .pointer (some ⟨Bs, 0, none⟩)] W fun e W' => (∃ v, e = .returned v) ∧
      ((∃ ys, ys = upto (cpair l hok) (l.length - 1) ∧ J ys W') ∨ (∃ pre, (∃ k, k ≤ l.length - 1 ∧ pre = upto (cpair l hok) k) ∧ Jx pre W')) := by
  refine callsIn_of_wp Try.func155 rfl trivial ?_ rfl
  simp only [Try.ntmps155, List.size_toArray, List.length_cons, List.length_nil, Nat.reduceAdd, Nat.reduceSub, Array.replicate_succ, Array.replicate_zero, List.push_toArray, List.append_toArray, List.nil_append, List.cons_append]
  gi_wp2
  gi_loopw [3] (fun i wr => ∃ k : Nat, k + 1 ≤ l.length ∧ i = .int .i64 ((k : Int) + 1) ∧ J (upto (cpair l hok) k) wr ∧ Below n₀ W wr)
    (fun i _ => l.length - (intOf i).toNat)
  case atStart => exact ⟨0, hl1, rfl, h0, Below.refl _ _⟩
  case round =>
    obtain ⟨k, hk, rfl, hJs, hnx⟩ := hrel
    have hcb := (hnx.cell (p := ⟨Bs, 0, none⟩) hBn).trans hBs
    by_cases hlt : k + 1 < l.length
    · have hJd : J (upto (cpair l hok) k) wr.drew := hJa _ _ _ none hJs (grown_drew wr) (fun r e => by cases e)
      obtain ⟨fn, tmps, assign, body, hy, hR⟩ := hY _ (cpair l hok k) wr.drew hJd (by rw [upto_length]; omega)
      dsimp only [cpair] at hy
      have hW : Below n₀ wr wr.drew := (Below.refl _ _).drew
      have hba : CellsAt wr bl (off + k * 2) (cget l k).cells := by rw [cget_eq l k (by omega)]; exact cat_below (hc k (by omega)) hnx hb
      have hbb : CellsAt wr bl (off + (k + 1) * 2) (cget l (k + 1)).cells := by rw [cget_eq l (k + 1) hlt]; exact cat_below (hc (k + 1) hlt) hnx hb
      generalize cget l k = a at hy hba
      generalize cget l (k + 1) = b at hy hbb
      obtain ⟨c0, c1⟩ := cx_at hba
      obtain ⟨d0, d1⟩ := cx_at hbb
      have hi0 : (0 : Int) ≤ (k : Int) := by omega
      have hi1 : (k : Int) < (l.length : Int) := by omega
      have hi2 : (k : Int) + 1 < (l.length : Int) := by omega
      have hi3 : (0 : Int) ≤ (k : Int) + 1 := by omega
      have HNX : Hid (Below n₀ W wr.drew) := hnx.trans hW
      have HR := hR
      clear hR hc hBs h0 hJs hJd hnx hW hY hJa hba hbb
      gi_wp2_with fail
      refine wpIn_region_tail 10 (by kernel_rfl) (by kernel_rfl) ?_
      simp only [List.take_succ_cons, List.take_zero, List.drop_succ_cons, List.drop_zero]
      repeat (go_big_quiet_step (fail))
      refine wpQuiet_nil ?_
      clear c0 c1 d0 d1
      gi_wp2_with fail
      refine ⟨fun h => (by cases h), ?_⟩
      refine RoundIn.mono HR ?_
      rintro e W3 (⟨rfl, hJ3, hk3⟩ | ⟨rfl, hJx3⟩)
      · clear HR hy
        gi_wp2
        go_roundw
        case rel => exact ⟨k + 1, by omega, by go_num, by rw [upto_succ]; exact hJ3, HNX.out.trans hk3⟩
        case measure => simp [intOf]; omega
      · clear HR hy
        gi_wp2
        refine bodyPost_ret (results_none rfl _ _ _) rfl ?_
        exact ⟨⟨_, rfl⟩, .inr ⟨_, ⟨k + 1, by omega, (upto_succ _ _).symm⟩, hJx3⟩⟩
    · have hke : k = l.length - 1 := by omega
      gi_wp2
      go_end0
      exact ⟨⟨_, rfl⟩, .inl ⟨_, rfl, by rw [← hke]; exact hJs⟩⟩
set_option maxRecDepth 100000 in
set_option maxHeartbeats 1000000 in
theorem cfoll_in (F : Fence) (n : Nat) (hf : F.fn 151) (hro : F.round = none) (a : Option Addr) (len cap : Nat) (w : World) :
    CallsIn F n Try.prog 151 #[.slice a len cap] w fun e w' => e = .returned (.func (.func 155) #[] #[.pointer (some ⟨w.heap.size, 0, none⟩)]) ∧ w' = w.alloc (.cells #[.slice a len cap] 78) := by
  refine callsIn_of_wp Try.func151 rfl hf ?_ hro
  simp only [Try.ntmps151, List.size_toArray, List.length_cons, List.length_nil, Nat.reduceAdd, Nat.reduceSub, Array.replicate_succ, Array.replicate_zero, List.push_toArray, List.append_toArray, List.nil_append, List.cons_append]
  gi_wp2
  go_ret
  exact ⟨rfl, rfl⟩
set_option maxRecDepth 100000 in
theorem cfoll_stops (n : Nat) (Bs bl off cap : Nat) (l : List Cx) (hok : l.all cellB = true) (hl1 : 1 ≤ l.length) (hlen : l.length ≤ 1048576) (w : World)
    (hBs : w.cell? ⟨Bs, 0, none⟩ = some (.slice (some ⟨bl, off, none⟩) l.length cap)) (hc : ∀ j (h : j < l.length), CellsAt w bl (off + j * 2) l[j].cells) :
    SeqStopsK Fence.wide n Try.prog 155 #[.pointer (some ⟨Bs, 0, none⟩)] (fun x : PC => #[x.1.1.val, x.1.2.val]) (Below w.heap.size) (fun ys => ys = upto (cpair l hok) (l.length - 1)) (fun pre => ∃ k, k ≤ l.length - 1 ∧ pre = upto (cpair l hok) k) (l.length - 1) w := fun lp J Jx W hW hJ _ hY h0 => by
  have hb : bl < w.heap.size := cell_lt (cx_at (hc 0 (by omega))).1
  have hBn : Bs < w.heap.size := cell_lt hBs
  exact cfoll1_in n lp Bs w.heap.size bl off cap l hok hl1 hlen hb hBn J Jx W hJ hY ((hW.cell (p := ⟨Bs, 0, none⟩) hBn).trans hBs) (fun j h => cat_below (hc j h) hW hb) h0
set_option maxRecDepth 100000 in
theorem steps_done {l : List Cx} {hok : l.all cellB = true} (h : ∀ x ∈ upto (cpair l hok) (l.length - 1), stepB x.1.1 x.1.2 = true) : stepsB l = true := by
  refine (stepsB_iff l).2 fun i hi => ?_
  have := h (cpair l hok i) (by simp only [upto, List.mem_map, List.mem_range]; exact ⟨i, by omega, rfl⟩)
  simp only [cpair] at this
  rwa [cget_eq l i (by omega), cget_eq l (i + 1) hi] at this
set_option maxRecDepth 100000 in
theorem steps_stop {l : List Cx} {hok : l.all cellB = true} {k : Nat} (hk : k ≤ l.length - 1) {x : PC} (hx : x ∈ upto (cpair l hok) k) (h : stepB x.1.1 x.1.2 = false) : stepsB l = false := by
  simp only [upto, List.mem_map, List.mem_range] at hx
  obtain ⟨i, hi, rfl⟩ := hx
  simp only [cpair] at h
  rw [cget_eq l i (by omega), cget_eq l (i + 1) (by omega)] at h
  exact steps_of_get l i (by omega) h
/-- The two cells of c, from the start of block bl on. -/
def CxAt (w : World) (bl : Nat) (c : Cx) : Prop := w.cell? ⟨bl, 0, none⟩ = some (.int .i64 c.x) ∧ w.cell? ⟨bl, 1, none⟩ = some (.int .i64 c.y)
set_option maxRecDepth 100000 in
theorem CxAt.later {w w' : World} {bl : Nat} {c : Cx} (h : CxAt w bl c) (hb : Below w.heap.size w w') : CxAt w' bl c := ⟨(hb.cell (cell_lt h.1)).trans h.1, (hb.cell (cell_lt h.2)).trans h.2⟩
set_option maxRecDepth 100000 in
theorem cxAt_kept {W W' : World} {row : Option Nat} {bl : Nat} {b : Cx} (h : CxAt W bl b) (hg : W.grownBy W' row) (hrow : ∀ r, row = some r → ∃ o : Obj, W.heap[r]? = some o ∧ o.isCells = false) : CxAt W' bl b :=
  ⟨cell_kept h.1 hg hrow, cell_kept h.2 hg hrow⟩
set_option maxRecDepth 100000 in
theorem cxAt_new (W : World) (g : Nat) (hg : g = W.heap.size) (b : Cx) (t : Nat) : CxAt (W.alloc (.cells #[.int .i64 b.x, .int .i64 b.y] t)) g b := by
  subst hg
  constructor <;> simp
end Go.Proofs.Ytficfhcmbhlagab
