import Derived.Test.YtficfhcmbhlagabGreatNamesF
namespace Go.Proofs.YtficfhcmbhlagabGreat
open Go.RowKit
set_option maxRecDepth 100000 in
theorem l1NameOk_val (s : ByteArray) (v : Bool) (hv : nameB s = v) (w : World) (hs : s.size ≤ 9223372036854775807) : Calls Tryz.prog 88 #[.string s] w fun e w' => e = .returned (.bool v) ∧ w' = w := by
  subst hv; exact l1NameOk_any s w hs
set_option maxRecDepth 100000 in
theorem l1In_val (n lo hi : Int) (v : Bool) (hv : inB n lo hi = v) (w : World) : Calls Tryz.prog 67 #[.int .i64 n, .int .i64 lo, .int .i64 hi] w fun e w' => e = .returned (.bool v) ∧ w' = w := by
  subst hv; exact l1In_any n lo hi w
structure FldTo (l : List Fx) (k : Nat) : Prop where
  nm : (l.take k).all (fun x => nameB x.n) = true
  lt : ∀ i, i + 1 < k → ltB (flget l i).n (flget l (i + 1)).n = true
  gd : goodTo l k = true
set_option maxRecDepth 100000 in
theorem FldTo.step {l : List Fx} {k : Nat} (h : FldTo l k) (hk : k < l.length) (hn : nameB (flget l k).n = true) (hl : 0 < k → ltB (flget l (k - 1)).n (flget l k).n = true) (hg : goodAt l k (flget l k) = true) : FldTo l (k + 1) := by
  refine ⟨by rw [List.take_succ_eq_append_getElem hk, List.all_append, h.nm]; rw [flget_eq l k hk] at hn; simp [hn], fun i hi => ?_, by rw [goodTo, h.gd, hg]; rfl⟩
  by_cases e : i + 1 = k
  · subst e; simpa using hl (by omega)
  · exact h.lt i (by omega)
set_option maxRecDepth 100000 in
theorem fld_no_name {l : List Fx} {k : Nat} (hk : k < l.length) (h : nameB (flget l k).n = false) : fieldsB l = false := by
  rw [flget_eq l k hk] at h
  rw [fieldsB_eq, names_no_name hk h]; simp
set_option maxRecDepth 100000 in
theorem fld_no_lt {l : List Fx} {k : Nat} (hk : k < l.length) (h0 : 0 < k) (h : ltB (flget l (k - 1)).n (flget l k).n = false) : fieldsB l = false := by
  have : ascG Fx.n l = false := by
    rw [Bool.eq_false_iff]; intro ha
    have := (ascG_iff Fx.n l).1 ha (k - 1) (by omega)
    rw [← flget_eq l (k - 1) (by omega), ← flget_eq l (k - 1 + 1) (by omega), show k - 1 + 1 = k by omega, h] at this
    cases this
  rw [fieldsB_eq, namesG, this]; simp
set_option maxRecDepth 100000 in
theorem fld_no_good {l : List Fx} {k : Nat} (hk : k < l.length) (h : goodAt l k (flget l k) = false) : fieldsB l = false := by
  rw [fieldsB_eq, goodTo_no h _ hk]; simp
set_option maxRecDepth 100000 in
theorem fld_done {l : List Fx} {k : Nat} (h : FldTo l k) (h4 : fourB l.length = true) (hk : k = l.length) : fieldsB l = true := by
  subst hk
  have hn := h.nm
  rw [List.take_of_length_le (Nat.le_refl _)] at hn
  have ha : ascG Fx.n l = true := (ascG_iff Fx.n l).2 fun i hi => by
    have := h.lt i hi
    rwa [flget_eq l i (by omega), flget_eq l (i + 1) hi] at this
  rw [fieldsB_eq, h4, namesG, hn, ha, h.gd]; rfl
set_option maxRecDepth 100000 in
theorem cellOk_in (x y : Int) : cellOkB x y = (inB x 0 15 && inB y 0 15) := by
  rw [Bool.eq_iff_iff]; simp only [cellOkB, inB, Bool.and_eq_true, decide_eq_true_eq]; omega
set_option maxRecDepth 100000 in
theorem good_no_x {l : List Fx} {k : Nat} {f : Fx} (h : inB f.x 0 15 = false) : goodAt l k f = false := by rw [goodAt, cellOk_in, h]; rfl
set_option maxRecDepth 100000 in
theorem good_no_y {l : List Fx} {k : Nat} {f : Fx} (h : inB f.y 0 15 = false) : goodAt l k f = false := by rw [goodAt, cellOk_in, h]; simp
set_option maxRecDepth 100000 in
theorem good_no_on {l : List Fx} {k : Nat} {f : Fx} (h : onB (l.take k) f.x f.y = true) : goodAt l k f = false := by rw [goodAt, h]; simp
set_option maxRecDepth 100000 in
theorem good_yes {l : List Fx} {k : Nat} {f : Fx} (hx : inB f.x 0 15 = true) (hy : inB f.y 0 15 = true) (h : onB (l.take k) f.x f.y = false) : goodAt l k f = true := by rw [goodAt, cellOk_in, hx, hy, h]; rfl
set_option maxRecDepth 100000 in
theorem cell_new_old {W : World} {o : Obj} {a : Addr} {v : Value} (h : W.cell? a = some v) : (W.alloc o).cell? a = some v := ((balloc (Below.refl _ W) o).cell (cell_lt h)).trans h
set_option maxRecDepth 100000 in
set_option maxHeartbeats 4000000 in
theorem specFields_any (l : List Fx) (ao : Option Addr) (cap : Nat) (w : World) (hl : Xs 3 Fx.cells w ao l) (hn : l.length ≤ 1048576) (hs : ∀ f ∈ l, f.n.size ≤ 9223372036854775807) :
    Calls Tryz.prog 85 #[.slice ao l.length cap] w fun e w' => e = .returned (.bool (fieldsB l)) ∧ Below w.heap.size w w' := by
  obtain ⟨V, hV⟩ : ∃ V, V = fieldsB l := ⟨_, rfl⟩
  rw [← hV]
  have HV : Hid (V = fieldsB l) := hV
  clear hV
  by_cases h4 : l.length ≤ 4
  · have H4 : Hid (fourB l.length = true) := decide_eq_true h4
    go_enter Tryz.func85, Tryz.ntmps85
    go_wp2
    go_loopw [3] (fun i wr => ∃ k : Nat, k ≤ l.length ∧ i = .int .i64 k ∧ Below w.heap.size w wr ∧ Hid (FldTo l k)) (fun i _ => l.length - (intOf i).toNat)
    case atStart => exact ⟨0, Nat.zero_le _, rfl, Below.refl _ _, ⟨by simp, fun i hi => absurd hi (by omega), rfl⟩⟩
    case round =>
      obtain ⟨k, hk, rfl, hN, hno⟩ := hrel
      by_cases hlt : k < l.length
      · rcases hl with h | ⟨bl, off, rfl, hc⟩
        · subst h; simp at hlt
        have hbx := (hc k hlt).later hN
        have hsz := hs l[k] (List.getElem_mem hlt)
        obtain ⟨f, hbe⟩ : ∃ f, f = flget l k := ⟨_, rfl⟩
        rw [← flget_eq l k hlt, ← hbe] at hbx hsz
        have HB : Hid (f = flget l k) := hbe
        clear hbe
        obtain ⟨c0, c1, c2⟩ := fld_at hbx
        clear hbx
        have hne : Nonempty (Aft (wr.alloc (.cells #[.string f.n, .int .i64 f.x, .int .i64 f.y] 116))) := ⟨⟨_, Below.refl _ _⟩⟩
        have hbw : Below w.heap.size w (wr.alloc (.cells #[.string f.n, .int .i64 f.x, .int .i64 f.y] 116)) := hN.alloc hN.size _
        have f0 : ∀ s : Aft (wr.alloc (.cells #[.string f.n, .int .i64 f.x, .int .i64 f.y] 116)), s.w.cell? ⟨wr.heap.size, 0, none⟩ = some (.string f.n) := Aft.cell (by simp)
        have f1 : ∀ s : Aft (wr.alloc (.cells #[.string f.n, .int .i64 f.x, .int .i64 f.y] 116)), s.w.cell? ⟨wr.heap.size, 1, none⟩ = some (.int .i64 f.x) := Aft.cell (by simp)
        have f2 : ∀ s : Aft (wr.alloc (.cells #[.string f.n, .int .i64 f.x, .int .i64 f.y] 116)), s.w.cell? ⟨wr.heap.size, 2, none⟩ = some (.int .i64 f.y) := Aft.cell (by simp)
        rcases Bool.eq_false_or_eq_true (nameB f.n) with hnm | hnm
        · by_cases hk0 : k = 0
          · subst hk0
            rw [Nat.zero_mul, Nat.add_zero] at c0 c1 c2
            rcases Bool.eq_false_or_eq_true (inB f.x 0 15) with hx | hx
            · rcases Bool.eq_false_or_eq_true (inB f.y 0 15) with hy | hy
              · go_wp2_with fail
                refine wp_region_aft (by kernel_rfl) (by kernel_rfl) ?_
                repeat (go_big_quiet_step (first | (go_at_call 88; exact Aft.same _ (l1NameOk_val _ _ hnm _ hsz)) | (go_at_call_of 67 f.x; exact Aft.same _ (l1In_val _ _ _ _ hx _)) | (go_at_call_of 67 f.y; exact Aft.same _ (l1In_val _ _ _ _ hy _))))
                refine wpQuiet_nil ?_
                rintro _ ⟨s, rfl⟩
                have hN1 : Below w.heap.size w s.w := bstep hbw s.h
                have hA1 := s.h
                generalize s.w = w1 at hN1 hA1
                clear s f0 f1 f2 hne
                go_wp2
                have HX : Hid (inB f.x 0 15 = true) := hx
                have HY : Hid (inB f.y 0 15 = true) := hy
                have HM : Hid (nameB f.n = true) := hnm
                clear hx hy hnm hN1 c0 c1 c2
                go_loopw [5] (fun i ws => ∃ j : Nat, j ≤ 0 ∧ i = .int .i64 j ∧ Below (wr.alloc (.cells #[.string f.n, .int .i64 f.x, .int .i64 f.y] 116)).heap.size (wr.alloc (.cells #[.string f.n, .int .i64 f.x, .int .i64 f.y] 116)) ws ∧ Hid ((l.take j).any (fun g => onOne g f.x f.y) = false)) (fun i _ => 0 - (intOf i).toNat)
                case atStart => exact ⟨0, Nat.zero_le _, rfl, hA1, by simp [Hid]⟩
                case round =>
                  clear hA1
                  obtain ⟨j, hj, rfl, hA2, hnj⟩ := hrel
                  by_cases hjk : j < 0
                  · exact absurd hjk (by omega)
                  · have hje : j = 0 := by omega
                    go_wp2
                    go_roundw
                    case rel => exact ⟨0 + 1, by omega, by go_num, hbw.trans (hA2.mono (by have := hbw.size; omega)), hno.out.step hlt (by rw [← HB.out]; exact HM.out) (fun h0 => absurd h0 (by omega)) (by rw [← HB.out]; exact good_yes HX.out HY.out (by rw [← hje]; exact hnj.out))⟩
                    case measure => simp [intOf]; omega
              · clear hc
                go_wp2_with fail
                refine wp_region_aft (by kernel_rfl) (by kernel_rfl) ?_
                repeat (go_big_quiet_step (first | (go_at_call 88; exact Aft.same _ (l1NameOk_val _ _ hnm _ hsz)) | (go_at_call_of 67 f.x; exact Aft.same _ (l1In_val _ _ _ _ hx _)) | (go_at_call_of 67 f.y; exact Aft.same _ (l1In_val _ _ _ _ hy _))))
                refine wpQuiet_nil ?_
                rintro _ ⟨s, rfl⟩
                have hN1 : Below w.heap.size w s.w := bstep hbw s.h
                have hA1 := s.h
                generalize s.w = w1 at hN1 hA1
                clear s f0 f1 f2 hne
                go_wp2
                go_ret
                exact ⟨ret_bool (by rw [HV.out, fld_no_good hlt (by rw [← HB.out]; exact good_no_y hy)]), hN1⟩
            · clear hc
              have hy : inB f.y 0 15 = inB f.y 0 15 := rfl
              go_wp2_with fail
              refine wp_region_aft (by kernel_rfl) (by kernel_rfl) ?_
              repeat (go_big_quiet_step (first | (go_at_call 88; exact Aft.same _ (l1NameOk_val _ _ hnm _ hsz)) | (go_at_call_of 67 f.x; exact Aft.same _ (l1In_val _ _ _ _ hx _))))
              refine wpQuiet_nil ?_
              rintro _ ⟨s, rfl⟩
              have hN1 : Below w.heap.size w s.w := bstep hbw s.h
              have hA1 := s.h
              generalize s.w = w1 at hN1 hA1
              clear s f0 f1 f2 hne
              go_wp2
              go_ret
              exact ⟨ret_bool (by rw [HV.out, fld_no_good hlt (by rw [← HB.out]; exact good_no_x hx)]), hN1⟩
          · have hkn : 0 < k := by omega
            have hkq : (1 : Int) ≤ (k : Int) := by omega
            have hcv := (hc (k - 1) (by omega)).later hN
            obtain ⟨a, hae⟩ : ∃ a, a = flget l (k - 1) := ⟨_, rfl⟩
            rw [← flget_eq l (k - 1) (by omega), ← hae] at hcv
            have HA : Hid (a = flget l (k - 1)) := hae
            clear hae hk0
            have g0 : ∀ s : Aft (wr.alloc (.cells #[.string f.n, .int .i64 f.x, .int .i64 f.y] 116)), s.w.cell? ⟨bl, off + (k - 1) * 3, none⟩ = some (.string a.n) := Aft.cell (cell_new_old (fld_at hcv).1)
            clear hcv
            rcases Bool.eq_false_or_eq_true (ltB a.n f.n) with hlt2 | hlt2
            · have HL : Hid (ltB a.n f.n = true) := hlt2
              have hbl : Op.bytesLess a.n.toList f.n.toList = true := hlt2
              clear hlt2
              rcases Bool.eq_false_or_eq_true (inB f.x 0 15) with hx | hx
              · rcases Bool.eq_false_or_eq_true (inB f.y 0 15) with hy | hy
                · skip
                  go_wp2_with fail
                  refine wp_region_aft (by kernel_rfl) (by kernel_rfl) ?_
                  repeat (go_big_quiet_step (first | (go_at_call 88; exact Aft.same _ (l1NameOk_val _ _ hnm _ hsz)) | (go_at_call_of 67 f.x; exact Aft.same _ (l1In_val _ _ _ _ hx _)) | (go_at_call_of 67 f.y; exact Aft.same _ (l1In_val _ _ _ _ hy _))))
                  refine wpQuiet_nil ?_
                  rintro _ ⟨s, rfl⟩
                  have hN1 : Below w.heap.size w s.w := bstep hbw s.h
                  have hA1 := s.h
                  generalize s.w = w1 at hN1 hA1
                  clear s f0 f1 f2 hne g0
                  clear hbl
                  go_wp2
                  have HX : Hid (inB f.x 0 15 = true) := hx
                  have HY : Hid (inB f.y 0 15 = true) := hy
                  have HM : Hid (nameB f.n = true) := hnm
                  have HFC : Hid (∀ ws, Below (wr.alloc (.cells #[.string f.n, .int .i64 f.x, .int .i64 f.y] 116)).heap.size (wr.alloc (.cells #[.string f.n, .int .i64 f.x, .int .i64 f.y] 116)) ws → ws.cell? ⟨wr.heap.size, 1, none⟩ = some (.int .i64 f.x) ∧ ws.cell? ⟨wr.heap.size, 2, none⟩ = some (.int .i64 f.y)) := fun ws hb => ⟨(hb.cell (by simp)).trans (by simp), (hb.cell (by simp)).trans (by simp)⟩
                  clear hx hy hnm hN1 c0 c1 c2
                  go_loopw [5] (fun i ws => ∃ j : Nat, j ≤ k ∧ i = .int .i64 j ∧ Below (wr.alloc (.cells #[.string f.n, .int .i64 f.x, .int .i64 f.y] 116)).heap.size (wr.alloc (.cells #[.string f.n, .int .i64 f.x, .int .i64 f.y] 116)) ws ∧ Hid ((l.take j).any (fun g => onOne g f.x f.y) = false)) (fun i _ => k - (intOf i).toNat)
                  case atStart => exact ⟨0, Nat.zero_le _, rfl, hA1, by simp [Hid]⟩
                  case round =>
                    clear hA1
                    obtain ⟨j, hj, rfl, hA2, hnj⟩ := hrel
                    have hNw : Below w.heap.size w _ := hbw.trans (hA2.mono (by have := hbw.size; omega))
                    by_cases hjk : j < k
                    · have hby := (hc j (by omega)).later hNw
                      obtain ⟨g, hge⟩ : ∃ g, g = l[j]'(by omega) := ⟨_, rfl⟩
                      rw [← hge] at hby
                      have HG : Hid (g = l[j]'(by omega)) := hge
                      clear hge
                      obtain ⟨e0, e1, e2⟩ := fld_at hby
                      obtain ⟨i1, i2⟩ := HFC.out _ hA2
                      have hne2 : Nonempty (Aft wr) := ⟨⟨_, Below.refl _ _⟩⟩
                      have p1 := Aft.cell e1
                      have p2 := Aft.cell e2
                      have q1 := Aft.cell i1
                      have q2 := Aft.cell i2
                      clear hby e0 e1 e2 i1 i2
                      by_cases hgx : g.x = f.x
                      · by_cases hgy : g.y = f.y
                        · have ex : (g.x == f.x) = true := by simp [hgx]
                          have ey : (g.y == f.y) = true := by simp [hgy]
                          have HE : Hid (g.x = f.x ∧ g.y = f.y) := ⟨hgx, hgy⟩
                          clear hgx hgy
                          go_wp2_with fail
                          refine wp_region_aft (by kernel_rfl) (by kernel_rfl) ?_
                          repeat (go_big_quiet_step (fail))
                          refine wpQuiet_nil ?_
                          rintro _ ⟨s, rfl⟩
                          have hA3 := bstepB hA2 (Nat.le_refl _) s.h
                          have hN3 := bstepB hNw (Nat.le_refl _) s.h
                          generalize s.w = w3 at hA3 hN3
                          clear s p1 p2 q1 q2 hne2
                          go_wp2
                          go_ret
                          exact ⟨ret_bool (by rw [HV.out, fld_no_good hlt (by rw [← HB.out]; exact good_no_on (any_of_get _ (l.take k) j (by simp; omega) (by simp only [List.getElem_take]; rw [← HG.out]; exact decide_eq_true HE.out)))]), hN3⟩
                        · have ex : (g.x == f.x) = true := by simp [hgx]
                          have ey : (g.y == f.y) = false := by simp [hgy]
                          have HE : Hid (¬ (g.x = f.x ∧ g.y = f.y)) := fun h => hgy h.2
                          clear hgx hgy
                          go_wp2_with fail
                          refine wp_region_aft (by kernel_rfl) (by kernel_rfl) ?_
                          repeat (go_big_quiet_step (fail))
                          refine wpQuiet_nil ?_
                          rintro _ ⟨s, rfl⟩
                          have hA3 := bstepB hA2 (Nat.le_refl _) s.h
                          have hN3 := bstepB hNw (Nat.le_refl _) s.h
                          generalize s.w = w3 at hA3 hN3
                          clear s p1 p2 q1 q2 hne2
                          go_wp2
                          go_roundw
                          case rel => exact ⟨j + 1, by omega, by go_num, hA3, by rw [Hid, take_any _ l j (by omega), hnj.out, ← HG.out, onOne, decide_eq_false HE.out]; rfl⟩
                          case measure => simp [intOf]; omega
                      · have ex : (g.x == f.x) = false := by simp [hgx]
                        have HE : Hid (¬ (g.x = f.x ∧ g.y = f.y)) := fun h => hgx h.1
                        clear hgx
                        go_wp2_with fail
                        refine wp_region_aft (by kernel_rfl) (by kernel_rfl) ?_
                        repeat (go_big_quiet_step (fail))
                        refine wpQuiet_nil ?_
                        rintro _ ⟨s, rfl⟩
                        have hA3 := bstepB hA2 (Nat.le_refl _) s.h
                        have hN3 := bstepB hNw (Nat.le_refl _) s.h
                        generalize s.w = w3 at hA3 hN3
                        clear s p1 p2 q1 q2 hne2
                        go_wp2
                        go_roundw
                        case rel => exact ⟨j + 1, by omega, by go_num, hA3, by rw [Hid, take_any _ l j (by omega), hnj.out, ← HG.out, onOne, decide_eq_false HE.out]; rfl⟩
                        case measure => simp [intOf]; omega
                    · have hje : j = k := by omega
                      go_wp2
                      go_roundw
                      case rel => exact ⟨k + 1, by omega, by go_num, hNw, hno.out.step hlt (by rw [← HB.out]; exact HM.out) (fun _ => by rw [← HA.out, ← HB.out]; exact HL.out) (by rw [← HB.out]; exact good_yes HX.out HY.out (by rw [← hje]; exact hnj.out))⟩
                      case measure => simp [intOf]; omega
                · skip
                  go_wp2_with fail
                  refine wp_region_aft (by kernel_rfl) (by kernel_rfl) ?_
                  repeat (go_big_quiet_step (first | (go_at_call 88; exact Aft.same _ (l1NameOk_val _ _ hnm _ hsz)) | (go_at_call_of 67 f.x; exact Aft.same _ (l1In_val _ _ _ _ hx _)) | (go_at_call_of 67 f.y; exact Aft.same _ (l1In_val _ _ _ _ hy _))))
                  refine wpQuiet_nil ?_
                  rintro _ ⟨s, rfl⟩
                  have hN1 : Below w.heap.size w s.w := bstep hbw s.h
                  have hA1 := s.h
                  generalize s.w = w1 at hN1 hA1
                  clear s f0 f1 f2 hne g0
                  go_wp2
                  go_ret
                  exact ⟨ret_bool (by rw [HV.out, fld_no_good hlt (by rw [← HB.out]; exact good_no_y hy)]), hN1⟩
              · skip
                go_wp2_with fail
                refine wp_region_aft (by kernel_rfl) (by kernel_rfl) ?_
                repeat (go_big_quiet_step (first | (go_at_call 88; exact Aft.same _ (l1NameOk_val _ _ hnm _ hsz)) | (go_at_call_of 67 f.x; exact Aft.same _ (l1In_val _ _ _ _ hx _))))
                refine wpQuiet_nil ?_
                rintro _ ⟨s, rfl⟩
                have hN1 : Below w.heap.size w s.w := bstep hbw s.h
                have hA1 := s.h
                generalize s.w = w1 at hN1 hA1
                clear s f0 f1 f2 hne g0
                go_wp2
                go_ret
                exact ⟨ret_bool (by rw [HV.out, fld_no_good hlt (by rw [← HB.out]; exact good_no_x hx)]), hN1⟩
            · have HL : Hid (ltB a.n f.n = false) := hlt2
              have hbl : Op.bytesLess a.n.toList f.n.toList = false := hlt2
              clear hlt2
              go_wp2_with fail
              refine wp_region_aft (by kernel_rfl) (by kernel_rfl) ?_
              repeat (go_big_quiet_step (first | (go_at_call 88; exact Aft.same _ (l1NameOk_val _ _ hnm _ hsz))))
              refine wpQuiet_nil ?_
              rintro _ ⟨s, rfl⟩
              have hN1 : Below w.heap.size w s.w := bstep hbw s.h
              have hA1 := s.h
              generalize s.w = w1 at hN1 hA1
              clear s f0 f1 f2 hne g0
              go_wp2
              go_ret
              exact ⟨ret_bool (by rw [HV.out, fld_no_lt hlt hkn (by rw [← HA.out, ← HB.out]; exact HL.out)]), hN1⟩
        · clear hc
          go_wp2_with fail
          refine wp_region_aft (by kernel_rfl) (by kernel_rfl) ?_
          repeat (go_big_quiet_step (first | (go_at_call 88; exact Aft.same _ (l1NameOk_val _ _ hnm _ hsz))))
          refine wpQuiet_nil ?_
          rintro _ ⟨s, rfl⟩
          have hN1 : Below w.heap.size w s.w := bstep hbw s.h
          have hA1 := s.h
          generalize s.w = w1 at hN1 hA1
          clear s f0 f1 f2 hne
          go_wp2
          go_ret
          exact ⟨ret_bool (by rw [HV.out, fld_no_name hlt (by rw [← HB.out]; exact hnm)]), hN1⟩
      · have hke : k = l.length := by omega
        go_wp2
        go_ret
        exact ⟨ret_bool (by rw [HV.out, fld_done hno.out H4.out hke]), hN⟩
  · have H4 : Hid (fourB l.length = false) := decide_eq_false h4
    go_enter Tryz.func85, Tryz.ntmps85
    go_wp2
    go_ret
    exact ⟨ret_bool (by rw [HV.out, fieldsB_eq, H4.out]; rfl), Below.refl _ _⟩
end Go.Proofs.YtficfhcmbhlagabGreat
