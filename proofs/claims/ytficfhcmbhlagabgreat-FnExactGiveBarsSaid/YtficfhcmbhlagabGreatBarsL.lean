import Derived.Test.YtficfhcmbhlagabGreatBarsI
import Derived.Test.YtficfhcmbhlagabGreatToO
import Derived.Deep.RegionWith
namespace Go.Proofs.YtficfhcmbhlagabGreat
open Go.RowKit
theorem flat2_set (l : List Sp) (s : Sp) (d : Int) : flat2 (l ++ [⟨s.lo, d⟩]) = (flat2 (l ++ [s])).set (l.length * 2 + 1) (.int .i64 d) := by
  rw [flat2_append, flat2_append, List.set_append_right _ _ (by rw [flat2_length]; omega), flat2_length, show l.length * 2 + 1 - l.length * 2 = 1 by omega]
  rfl
set_option maxRecDepth 100000 in
set_option maxHeartbeats 4000000 in
theorem specBars_any (b : Bk) (nm : ByteArray) (t : List Bx) (ta : Option Addr) (tc : Nat) (most : Int) (w : World) (ha : Asks w b t ta) :
    Calls Tryz.prog 9 #[b.val, .string nm, .slice ta t.length tc, .int .i64 most] w fun e w' => (∃ v l, e = .returned v ∧ OwnSp w' w.heap.size v l ∧ IsBars b nm t most l) ∧ Below w.heap.size w w' := by
  obtain ⟨i0, hi, hz0, hz1, hz2⟩ := info_parts Tryz.info73
  have hB0 : Below w.heap.size w ((w.alloc (.cells #[.int .i64 b.now, .slice b.fa b.fl.length b.fc, .slice b.ha b.hl.length b.hc] 34)).alloc (.cells #[] 73)) := balloc (balloc (Below.refl _ _) _) _
  have A0 := (Below.heap_alloc (w.alloc (.cells #[.int .i64 b.now, .slice b.fa b.fl.length b.fc, .slice b.ha b.hl.length b.hc] 34)) (.cells #[] 73) w.heap.size (by simp)).trans (World.alloc_heap_new w _)
  have O0 : ((w.alloc (.cells #[.int .i64 b.now, .slice b.fa b.fl.length b.fc, .slice b.ha b.hl.length b.hc] 34)).alloc (.cells #[] 73)).ownsRow (w.heap.size + 1) 73 2 (.slice (some ⟨w.heap.size + 1, 0, none⟩) 0 0) 0 [] := by
    simpa using World.ownsRow_lit (base := w.heap.size + 1) (e := 73) (size := 2) (w.alloc (.cells #[.int .i64 b.now, .slice b.fa b.fl.length b.fc, .slice b.ha b.hl.length b.hc] 34)) #[] 0 (by simp) (Nat.zero_le _) rfl
  obtain ⟨v1, h1⟩ : ∃ v, askedB b t most = v := ⟨_, rfl⟩
  have k0 := obj_cell (j := 0) A0 rfl
  have k1 := obj_cell (j := 1) A0 rfl
  have k2 := obj_cell (j := 2) A0 rfl
  go_enter Tryz.func9, Tryz.ntmps9
  go_wp2_with fail
  obtain ⟨W0, hW0⟩ : ∃ W0, (w.alloc (.cells #[.int .i64 b.now, .slice b.fa b.fl.length b.fc, .slice b.ha b.hl.length b.hc] 34)).alloc (.cells #[] 73) = W0 := ⟨_, rfl⟩
  rw [hW0] at hB0 A0 O0 ⊢
  clear k0 k1 k2 hW0
  refine (specAsked_any b t ta tc most _ (ha.later hB0)).mono ?_
  rintro e w1 ⟨rfl, hb1⟩
  rw [h1]
  have N1 := bstep hB0 hb1
  have A1 := (hb1.block _ (Array.getElem?_eq_some_iff.1 A0).1).trans A0
  have O1 := own_below O0 hb1
  clear A0 hB0 hb1 O0
  cases v1 with
  | false =>
    go_wp2
    go_ret
    exact ⟨⟨_, [], rfl, (OwnSp.of_owns (l := []) O1).weak (by omega), IsBars.no h1⟩, N1⟩
  | true =>
  have HA : Hid (askedB b t most = true) := h1
  simp only [askedB, Bool.and_eq_true, decide_eq_true_eq] at h1
  obtain ⟨⟨m0, m1⟩, hbk, htk⟩ := h1
  go_wp2
  go_loopw [9, 10] (fun v i wr => ∃ (d : Int) (l : List Sp), 0 ≤ d ∧ d ≤ most + 1 ∧ i = .int .i64 d ∧ wr.ownsRow (w.heap.size + 1) 73 2 v l.length (flat2 l) ∧ Below w.heap.size w wr ∧ wr.heap[w.heap.size]? = some (.cells #[.int .i64 b.now, .slice b.fa b.fl.length b.fc, .slice b.ha b.hl.length b.hc] 34) ∧ Hid (Runs (barP b nm t) l d)) (fun _ i _ => (most + 1 - intOf i).toNat)
  case atStart => exact ⟨0, [], Int.le_refl _, by omega, rfl, O1, N1, A1, runs_nil _⟩
  case round =>
    clear O1 N1 A1
    obtain ⟨d, l, hd0, hd1, rfl, hown, hN, A1, hR⟩ := hrel
    have hll : l.length ≤ 301 := hR.out.len (by omega)
    by_cases hlt : d ≤ most
    · have k0 : wr.cell? ⟨w.heap.size, 0, none⟩ = some (.int .i64 b.now) := obj_cell A1 rfl
      have k1 : wr.cell? ⟨w.heap.size, 1, none⟩ = some (.slice b.fa b.fl.length b.fc) := obj_cell A1 rfl
      have k2 : wr.cell? ⟨w.heap.size, 2, none⟩ = some (.slice b.ha b.hl.length b.hc) := obj_cell A1 rfl
      obtain ⟨v2, h2⟩ : ∃ v, canB b nm t d = v := ⟨_, rfl⟩
      have hiff := bar_iff (nm := nm) hbk htk hd0
      go_wp2_with fail
      refine (l3Can_any b nm t ta tc d _ (ha.later hN) htk hd0 (by omega)).mono ?_
      rintro e w2 ⟨rfl, hb2⟩
      rw [h2]
      have hN2 := bstep hN hb2
      have A2 := (hb2.block _ (Array.getElem?_eq_some_iff.1 A1).1).trans A1
      have O2 := own_below hown hb2
      clear k0 k1 k2 A1 hN hown hb2
      cases v2 with
      | true =>
        have hnb : ¬ barP b nm t d := fun h => by rw [hiff.1 h] at h2; cases h2
        have HR : Hid (Runs (barP b nm t) l (d + 1)) := hR.out.pass hnb
        clear hiff hnb hR
        go_wp2
        go_roundw
        case rel => exact ⟨d + 1, l, by omega, by omega, by go_num, O2, hN2, A2, HR⟩
        case measure => simp [intOf]; omega
      | false =>
        have hbd : barP b nm t d := hiff.2 h2
        have HD : Hid (barP b nm t d) := hbd
        clear hiff hbd h2
        have hsz := (Array.getElem?_eq_some_iff.1 A2).1
        rcases List.eq_nil_or_concat l with hl | ⟨l', s, hl⟩
        · subst hl
          have HR : Hid (Runs (barP b nm t) ([] ++ [⟨d, d⟩]) (d + 1)) := hR.out.new hd0 HD.out (by simp)
          clear hR
          have hv : ∃ ao cap, u9 = .slice ao 0 cap := by
            rcases O2.2 with ⟨hv, _⟩ | ⟨g, cap, _, hv, _⟩
            · exact ⟨_, _, hv⟩
            · exact ⟨_, _, hv⟩
          obtain ⟨ao, cap, rfl⟩ := hv
          go_wp2_with (at_builtin; refine wpList_append_own_at _ rfl (.tmp 50) (.tmp 54) 29 rfl (w.heap.size + 1) 73 i0 _ 2 16 Tryz.underlying29 hi hz0 hz1 hz2 rfl (by decide) _ _ _ rfl (O2.alloc _) ⟨w2.heap.size, 0, none⟩ 1 1 (Sp.cells ⟨d, d⟩) rfl rfl ?qc1 ?qc2 ?qc3 ?qc4 ?qc5 ?_)
          case qc1 => first | exact fun _ _ h => h | exact sp_new2 _ _ rfl ⟨d, d⟩
          case qc2 => intro u hu; simp [Sp.cells] at hu; rcases hu with rfl | rfl <;> rfl
          case qc3 => unfold maxLen; simp
          case qc4 => simp
          case qc5 => simp; omega
          intro v' w3 hown' hgrow _ hat
          have hN3 : Below w.heap.size w w3 := (balloc hN2 _).grown hgrow (by simp; omega) (fun k e => by have := own_ge2 O2 k e; omega)
          have A3 := (hgrow.block w.heap.size (by simp; omega) (fun e => by have := own_ge2 O2 _ e.symm; omega)).trans ((Below.heap_alloc w2 (Sp.obj2 ⟨d, d⟩) w.heap.size hsz).trans A2)
          have O3 : w3.ownsRow (w.heap.size + 1) 73 2 v' ([] ++ [(⟨d, d⟩ : Sp)]).length (flat2 ([] ++ [⟨d, d⟩])) := by simpa [flat2] using hown'
          clear O2 hown' hgrow hat hN2 A2
          go_wp2
          go_roundw
          case rel => exact ⟨d + 1, _, by omega, by omega, by go_num, O3, hN3, A3, HR⟩
          case measure => simp [intOf]; omega
        · rw [List.concat_eq_append] at hl
          subst hl
          have hlen : (l' ++ [s]).length = l'.length + 1 := by simp
          have hl1 : l'.length + 1 ≤ 301 := by rw [← hlen]; exact hll
          rcases O2.2 with ⟨_, h0⟩ | ⟨g, cap, cur, rfl, hbg, _, hnc, _⟩
          · rw [hlen] at h0; omega
          have cH := O2.cellAt (l'.length * 2 + 1) (by rw [hlen]; omega)
          have hg1 : (flat2 (l' ++ [s]))[l'.length * 2 + 1]? = some (.int .i64 s.hi) := by
            rw [flat2_append, List.getElem?_append_right (by rw [flat2_length]; omega), flat2_length, show l'.length * 2 + 1 - l'.length * 2 = 1 by omega]
            rfl
          rw [hg1] at cH
          have fr := fun j => O2.frozenAt j
          have hgz : g < w2.heap.size := cell_lt cH
          have hw1 : ((l'.length + 1 : Nat) : Int) - 1 = (l'.length : Int) := by omega
          rw [hlen]
          by_cases heq : s.hi = d - 1
          · have HR : Hid (Runs (barP b nm t) (l' ++ [⟨s.lo, d⟩]) (d + 1)) := hR.out.grow heq HD.out
            have O3 := O2.stored (l'.length * 2 + 1) (.int .i64 d)
            rw [← flat2_set, hlen] at O3
            have hN3 : Below w.heap.size w (w2.setCell ⟨g, l'.length * 2 + 1, none⟩ (.int .i64 d)) := hN2.setCell (p := ⟨g, l'.length * 2 + 1, none⟩) (by show w.heap.size ≤ g; omega) _
            have A3 := (Below.heap_setCell w2 ⟨g, l'.length * 2 + 1, none⟩ (.int .i64 d) w.heap.size (by show w.heap.size ≠ g; omega)).trans A2
            rw [heq] at cH
            clear hR hg1
            go_wp2
            go_roundw
            case rel => exact ⟨d + 1, l' ++ [⟨s.lo, d⟩], by omega, by omega, by go_num, by simpa using O3.1, hN3, A3, HR⟩
            case measure => simp [intOf]; omega
          · have hsb := hR.out.b s (by simp)
            have HR : Hid (Runs (barP b nm t) (l' ++ [s] ++ [⟨d, d⟩]) (d + 1)) := hR.out.new hd0 HD.out (fun a ha => by
              obtain ⟨_, hn, hap⟩ := hR.out.c.snoc
              rcases List.mem_append.1 ha with g | g
              · have := hap a g; unfold Apart at this; omega
              · simp at g; subst g; omega)
            have hne : (s.hi == d - 1) = false := by simpa using heq
            rw [hlen] at O2
            clear hR hg1
            go_wp2_with (at_builtin; refine wpList_append_own_at _ rfl (.tmp 50) (.tmp 54) 29 rfl (w.heap.size + 1) 73 i0 _ 2 16 Tryz.underlying29 hi hz0 hz1 hz2 rfl (by decide) _ _ _ rfl (O2.alloc _) ⟨w2.heap.size, 0, none⟩ 1 1 (Sp.cells ⟨d, d⟩) rfl rfl ?qc1 ?qc2 ?qc3 ?qc4 ?qc5 ?_)
            case qc1 => first | exact fun _ _ h => h | exact sp_new2 _ _ rfl ⟨d, d⟩
            case qc2 => intro u hu; simp [Sp.cells] at hu; rcases hu with rfl | rfl <;> rfl
            case qc3 => unfold maxLen; omega
            case qc4 => omega
            case qc5 => simp; omega
            intro v' w3 hown' hgrow _ hat
            have hN3 : Below w.heap.size w w3 := (balloc hN2 _).grown hgrow (by simp; omega) (fun k e => by have := own_ge2 O2 k e; omega)
            have A3 := (hgrow.block w.heap.size (by simp; omega) (fun e => by have := own_ge2 O2 _ e.symm; omega)).trans ((Below.heap_alloc w2 (Sp.obj2 ⟨d, d⟩) w.heap.size hsz).trans A2)
            have O3 : w3.ownsRow (w.heap.size + 1) 73 2 v' (l' ++ [s] ++ [(⟨d, d⟩ : Sp)]).length (flat2 (l' ++ [s] ++ [⟨d, d⟩])) := by
              rw [flat2_append (l' ++ [s]), List.length_append, hlen]
              simpa [flat2] using hown'
            clear O2 hown' hgrow hat hN2 A2 cH
            go_wp2
            go_roundw
            case rel => exact ⟨d + 1, _, by omega, by omega, by go_num, O3, hN3, A3, HR⟩
            case measure => simp [intOf]; omega
    · have hde : d = most + 1 := by omega
      go_wp2
      go_ret
      have hIB : IsBars b nm t most l := IsBars.yes HA.out ⟨hR.out.c, fun s hs => by have := hR.out.b s hs; omega⟩ (fun e e0 e1 => hR.out.m e e0 (by omega))
      have hOS := (OwnSp.of_owns hown).weak (base' := w.heap.size) (by omega)
      exact ⟨⟨_, rfl, _, hOS, hIB⟩, hN⟩
set_option maxRecDepth 100000 in
set_option maxHeartbeats 400000 in
theorem eqSp_same (s : Sp) (w : World) : Calls Tryz.prog 43 #[s.val, s.val] w fun e w' => e = .returned (.bool true) ∧ Below w.heap.size w w' := by
  go_enter Tryz.func43, Tryz.ntmps43
  go_wp2
  all_goals go_ret
  all_goals exact ⟨rfl, balloc (balloc (Below.refl _ _) _) _⟩
set_option maxRecDepth 100000 in
set_option maxHeartbeats 1000000 in
theorem eqSpS_same (l : List Sp) (aa ab : Option Addr) (ca cb : Nat) (w : World) (hla : Xs 2 Sp.cells w aa l) (hlb : Xs 2 Sp.cells w ab l) (hna : l.length ≤ 1048576) :
    Calls Tryz.prog 13 #[.slice aa l.length ca, .slice ab l.length cb] w fun e w' => e = .returned (.bool true) ∧ Below w.heap.size w w' := by
  go_enter Tryz.func13, Tryz.ntmps13
  go_wp2
  go_loopw [5] (fun i wr => ∃ k : Nat, k ≤ l.length ∧ i = .int .i64 k ∧ Below w.heap.size w wr) (fun i _ => l.length - (intOf i).toNat)
  case atStart => exact ⟨0, Nat.zero_le _, rfl, Below.refl _ _⟩
  case round =>
    obtain ⟨k, hk, rfl, hN⟩ := hrel
    by_cases hlt : k < l.length
    · rcases hla with h | ⟨bl, off, rfl, hc⟩
      · subst h; simp at hlt
      rcases hlb with h | ⟨bl2, off2, rfl, hc2⟩
      · subst h; simp at hlt
      have hbx := (hc k hlt).later hN
      have hby := (hc2 k hlt).later hN
      obtain ⟨a, hae⟩ : ∃ a, a = l[k] := ⟨_, rfl⟩
      rw [← hae] at hbx hby
      clear hae hc hc2
      obtain ⟨c0, c1⟩ := sp_at hbx
      obtain ⟨d0, d1⟩ := sp_at hby
      clear hbx hby
      go_wp2_with fail
      go_region_with (go_at_call 43; refine (eqSp_same _ _).mono ?_; rintro e w1 ⟨rfl, hb1⟩; have hN : Below w.heap.size w w1 := bstepB (by repeat (first | exact hN | refine Below.drew ?_)) (Nat.le_refl _) hb1)
      all_goals
        go_wp2
        go_roundw
        case rel => exact ⟨k + 1, by omega, by go_num, hN⟩
        case measure => simp [intOf]; omega
    · go_wp2
      go_ret
      exact ⟨rfl, hN⟩
def marks2 (k0 : Int) (n : Nat) : List Sp := (List.range n).map (fun i : Nat => (⟨k0 + 2 * (i : Int), k0 + 2 * (i : Int) + 1⟩ : Sp))
theorem marks2_length (k0 : Int) (n : Nat) : (marks2 k0 n).length = n := by simp [marks2]
theorem marks2_get (k0 : Int) (n i : Nat) (h : i < (marks2 k0 n).length) : (marks2 k0 n)[i] = ⟨k0 + 2 * (i : Int), k0 + 2 * (i : Int) + 1⟩ := by simp [marks2]
theorem row2_store {w : World} {bl n k : Nat} {l : List Sp} {f : Nat → Value} {s : Sp} (hrow : w.rowIs bl 73 (n * 2) f) (hf : ∀ i (h : i < l.length), i < k → ∀ j v, (Sp.cells l[i])[j]? = some v → f (i * 2 + j) = v) {hk : k < l.length} (hb : s = l[k]) :
    RowX 73 2 Sp.cells ((w.setCell ⟨bl, k * 2, none⟩ (.int .i64 s.lo)).setCell ⟨bl, k * 2 + 1, none⟩ (.int .i64 s.hi)) bl n l (k + 1) := by
  refine ⟨_, (hrow.set _ _).set _ _, fun i hi hik j v hj => ?_⟩
  have hj2 : j < 2 := (List.getElem?_eq_some_iff.1 hj).1
  by_cases e : i = k
  · subst e
    rw [← hb] at hj
    match j, hj with
    | 0, hj => simp [Sp.cells] at hj; subst hj; simp
    | 1, hj => simp [Sp.cells] at hj; subst hj; simp
  · have h0 := hf i hi (by omega) j v hj
    rw [if_neg (by omega), if_neg (by omega)]
    exact h0
set_option maxRecDepth 100000 in
set_option maxHeartbeats 1000000 in
theorem markSp_any (n cap capv g : Nat) (l : List Sp) (q : Nat) (w : World) (hR : RowX 73 2 Sp.cells w g cap l q) (hnc : n ≤ cap) (hn : n ≤ 1048576) (k0 : Int) (h0 : 0 ≤ k0) (h1 : k0 ≤ 1000000000) :
    Calls Tryz.prog 18 #[.slice (some ⟨g, 0, none⟩) n capv, .int .i64 k0] w fun e w' => e = .returned (.int .i64 (k0 + 2 * n)) ∧ RowX 73 2 Sp.cells w' g cap (marks2 k0 n) n ∧ OnlyB g w w' := by
  obtain ⟨f0, hrow0, _⟩ := hR
  go_enter Tryz.func18, Tryz.ntmps18
  go_wp2
  go_loopw [1, 5] (fun kv i wr => ∃ j : Nat, j ≤ n ∧ i = .int .i64 j ∧ kv = .int .i64 (k0 + 2 * (j : Int)) ∧ RowX 73 2 Sp.cells wr g cap (marks2 k0 n) j ∧ OnlyB g w wr) (fun _ i _ => n - (intOf i).toNat)
  case atStart => exact ⟨0, Nat.zero_le _, rfl, by simp, ⟨f0, hrow0, fun i _ hi => absurd hi (by omega)⟩, OnlyB.refl _ _⟩
  case round =>
    obtain ⟨j, hj, rfl, rfl, hR, hO⟩ := hrel
    clear hrow0
    by_cases hlt : j < n
    · obtain ⟨f, hrow, hf⟩ := hR
      have HF : Hid (∀ i (h : i < (marks2 k0 n).length), i < j → ∀ a v, (Sp.cells (marks2 k0 n)[i])[a]? = some v → f (i * 2 + a) = v) := hf
      clear hf
      have hlm : j < (marks2 k0 n).length := by rw [marks2_length]; exact hlt
      have HM : Hid ((⟨k0 + 2 * (j : Int), k0 + 2 * (j : Int) + 1⟩ : Sp) = (marks2 k0 n)[j]) := (marks2_get k0 n j hlm).symm
      have hfr := fun i => hrow.frozen i
      have e0 := hrow.cell (i := j * 2) (by omega)
      have e1 := hrow.cell (i := j * 2 + 1) (by omega)
      go_wp2
      go_roundw
      case rel => exact ⟨j + 1, by omega, by go_num, by go_num, row2_store (s := ⟨k0 + 2 * (j : Int), k0 + 2 * (j : Int) + 1⟩) hrow HF.out HM.out, (hO.setCell _ _).setCell _ _⟩
      case measure => simp [intOf]; omega
    · have hjn : j = n := by omega
      go_wp2
      go_ret
      subst hjn
      exact ⟨rfl, hR, hO⟩
set_option maxRecDepth 100000 in
set_option maxHeartbeats 400000 in
theorem markSp_nil (w : World) (k0 : Int) :
    Calls Tryz.prog 18 #[.slice none 0 0, .int .i64 k0] w fun e w' => e = .returned (.int .i64 k0) ∧ w' = w := by
  go_enter Tryz.func18, Tryz.ntmps18
  go_wp2
  go_loopw [1, 5] (fun kv i wr => kv = .int .i64 k0 ∧ i = .int .i64 0 ∧ wr = w) (fun _ _ _ => 0)
  case atStart => exact ⟨rfl, rfl, rfl⟩
  case round =>
    obtain ⟨rfl, rfl, rfl⟩ := hrel
    go_wp2
    go_ret
    exact ⟨rfl, rfl⟩
set_option maxRecDepth 100000 in
set_option maxHeartbeats 1000000 in
theorem heldSp_any (n capv : Nat) (ao : Option Addr) (w : World) (k0 : Int) (hl : Xs 2 Sp.cells w ao (marks2 k0 n)) (hn : n ≤ 1048576) (h0 : 0 ≤ k0) (h1 : k0 ≤ 1000000000) :
    Calls Tryz.prog 19 #[.slice ao n capv, .int .i64 k0] w fun e w' => e = .returned (.int .i64 (k0 + 2 * n)) ∧ w' = w := by
  go_enter Tryz.func19, Tryz.ntmps19
  go_wp2
  go_loop [1, 5] (fun kv i => ∃ j : Nat, j ≤ n ∧ i = .int .i64 j ∧ kv = .int .i64 (k0 + 2 * (j : Int))) (fun _ i => n - (intOf i).toNat)
  case atStart => exact ⟨0, Nat.zero_le _, rfl, by simp⟩
  case round =>
    obtain ⟨j, hj, rfl, rfl⟩ := hrel
    by_cases hlt : j < n
    · have hlm : j < (marks2 k0 n).length := by rw [marks2_length]; exact hlt
      rcases hl with h | ⟨bl, off, rfl, hc⟩
      · rw [h] at hlm; simp at hlm
      · have hb := hc j hlm
        rw [marks2_get] at hb
        obtain ⟨c0, c1⟩ := sp_at hb
        simp only at c0 c1
        clear hc
        go_wp2
        go_round
        case rel => exact ⟨j + 1, by omega, by go_num, by go_num⟩
        case measure => simp [intOf]; omega
    · have hjn : j = n := by omega
      go_wp2
      go_ret
      subst hjn
      exact ⟨rfl, rfl⟩
end Go.Proofs.YtficfhcmbhlagabGreat
