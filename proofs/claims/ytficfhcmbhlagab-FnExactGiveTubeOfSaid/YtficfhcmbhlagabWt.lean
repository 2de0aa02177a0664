import Derived.Test.YtficfhcmbhlagabWs
namespace Go.Proofs.Ytficfhcmbhlagab
open Go.RowKit
set_option maxRecDepth 100000 in
theorem specFldVal (l : List Fx) (ao : Option Addr) (cap : Nat) (v : Bool) (hv : fieldsB l = v) (w : World) (hl : Xs 3 Fx.cells w ao l) (hn : l.length ≤ 1048576) (hs : ∀ f ∈ l, f.n.size ≤ 9223372036854775807) :
    Calls Try.prog 41 #[.slice ao l.length cap] w fun e w' => e = .returned (.bool v) ∧ Below w.heap.size w w' := by
  subst hv; exact specFields_any l ao cap w hl hn hs
set_option maxRecDepth 100000 in
theorem specNameVal (s : ByteArray) (v : Bool) (hv : nameB s = v) (w : World) (hs : s.size ≤ 9223372036854775807) :
    Calls Try.prog 42 #[.string s] w fun e w' => e = .returned (.bool v) ∧ w' = w := by
  subst hv; exact l1NameOk_any s w hs
theorem lenIn (n : Nat) (a b : Nat) : inB (n : Int) a b = decide (a ≤ n ∧ n ≤ b) := by
  rw [Bool.eq_iff_iff]; simp only [inB, decide_eq_true_eq]; omega
def headB (fl : List Fx) (x : Wx) : Bool := fieldsB fl && (nameB x.n && (kindB x && (lateB x.l && (threeB x.wl.length && sixB x.ll.length))))
theorem wish_head (fl : List Fx) (x : Wx) : wishB fl x = (headB fl x && ((x.wl.all fun y => wayB fl y.l) && x.ll.all levB)) := by
  unfold wishB headB waysB levelsB
  cases fieldsB fl <;> cases nameB x.n <;> cases kindB x <;> cases lateB x.l <;> cases threeB x.wl.length <;> cases sixB x.ll.length <;> simp
set_option maxRecDepth 100000 in
set_option maxHeartbeats 8000000 in
theorem specWish_any (fl : List Fx) (x : Wx) (af : Option Addr) (cf : Nat) (w : World) (hfl : Xs 3 Fx.cells w af fl) (hnf : fl.length ≤ 1048576) (hs : ∀ f ∈ fl, f.n.size ≤ 9223372036854775807) (hi : x.In w) (hf : x.Fit) :
    Calls Try.prog 16 #[.slice af fl.length cf, x.val] w fun e w' => e = .returned (.bool (wishB fl x)) ∧ Below w.heap.size w w' := by
  obtain ⟨V, hV⟩ : ∃ V, V = wishB fl x := ⟨_, rfl⟩
  rw [← hV]
  have HV : Hid (V = (headB fl x && ((x.wl.all fun y => wayB fl y.l) && x.ll.all levB))) := by rw [Hid, hV, wish_head]
  clear hV
  have hB0 : Below w.heap.size w (w.alloc x.obj) := balloc (Below.refl _ _) _
  have hO : (w.alloc x.obj).heap[w.heap.size]? = some x.obj := World.alloc_heap_new w x.obj
  obtain ⟨v1, h1⟩ : ∃ v, fieldsB fl = v := ⟨_, rfl⟩
  obtain ⟨v2, h2⟩ : ∃ v, nameB x.n = v := ⟨_, rfl⟩
  obtain ⟨v3, h3⟩ : ∃ v, inB x.q 1 x.s = v := ⟨_, rfl⟩
  obtain ⟨v5, h5⟩ : ∃ v, inB x.f 0 x.b = v := ⟨_, rfl⟩
  obtain ⟨v7, h7⟩ : ∃ v, inB x.l 0 300 = v := ⟨_, rfl⟩
  obtain ⟨v8, h8⟩ : ∃ v, inB (x.wl.length : Int) 1 3 = v := ⟨_, rfl⟩
  obtain ⟨v9, h9⟩ : ∃ v, inB (x.ll.length : Int) 1 6 = v := ⟨_, rfl⟩
  obtain ⟨v4, h4⟩ : ∃ v, decide (50 < x.s) = v := ⟨_, rfl⟩
  obtain ⟨v6, h6⟩ : ∃ v, decide (10000 < x.b) = v := ⟨_, rfl⟩
  have HH : Hid (headB fl x = (v1 && (v2 && ((v3 && !v4 && (v5 && !v6)) && (v7 && (v8 && v9)))))) := by
    have e8 : threeB x.wl.length = v8 := by rw [← h8, threeB, Bool.eq_iff_iff]; simp only [inB, decide_eq_true_eq]; omega
    have e9 : sixB x.ll.length = v9 := by rw [← h9, sixB, Bool.eq_iff_iff]; simp only [inB, decide_eq_true_eq]; omega
    have e7 : lateB x.l = v7 := by rw [← h7]; rfl
    have ek : kindB x = (v3 && !v4 && (v5 && !v6)) := by
      rw [← h3, ← h4, ← h5, ← h6, Bool.eq_iff_iff]; simp only [kindB, inB, Bool.and_eq_true, Bool.not_eq_true', decide_eq_true_eq, decide_eq_false_iff_not]; omega
    rw [Hid, headB, h1, h2, e7, e8, e9, ek]
  have hwn := hf.wn
  have hln := hf.ln
  have HNo : Hid (headB fl x = false → V = false) := fun h => by rw [HV.out, h]; rfl
  have H1 : Hid _ := h1
  have H2 : Hid _ := h2
  have H3 : Hid _ := h3
  have H5 : Hid _ := h5
  have H7 : Hid _ := h7
  have H8 : Hid _ := h8
  have H9 : Hid _ := h9
  have H4 : Hid _ := h4
  have H6 : Hid _ := h6
  clear h1 h2 h3 h4 h5 h6 h7 h8 h9
  go_enter Try.func16, Try.ntmps16
  go_wp2_with fail
  refine (specFldVal fl af cf v1 H1.out _ (hfl.later hB0) hnf hs).mono ?_
  rintro e w1 ⟨rfl, hb1⟩
  have hO1 := (hb1.block _ (Array.getElem?_eq_some_iff.1 hO).1).trans hO
  have hN := bstep hB0 hb1
  have HO1 : Hid _ := hO1
  have k0 : w1.cell? ⟨w.heap.size, 0, none⟩ = some (.string x.n) := objc hO1 rfl
  have k1 : w1.cell? ⟨w.heap.size, 1, none⟩ = some (.int .i64 x.q) := objc hO1 rfl
  have k2 : w1.cell? ⟨w.heap.size, 2, none⟩ = some (.int .i64 x.s) := objc hO1 rfl
  have k3 : w1.cell? ⟨w.heap.size, 3, none⟩ = some (.int .i64 x.f) := objc hO1 rfl
  have k4 : w1.cell? ⟨w.heap.size, 4, none⟩ = some (.int .i64 x.b) := objc hO1 rfl
  have k5 : w1.cell? ⟨w.heap.size, 5, none⟩ = some (.int .i64 x.l) := objc hO1 rfl
  have k6 : w1.cell? ⟨w.heap.size, 6, none⟩ = some (.slice x.wa x.wl.length x.wc) := objc hO1 rfl
  have k7 : w1.cell? ⟨w.heap.size, 7, none⟩ = some (.slice x.la x.ll.length x.lc) := objc hO1 rfl
  clear hO hO1 hb1 hB0
  cases v1 with
  | false =>
    go_wp2
    go_ret
    exact ⟨ret_bool (HNo.out (by rw [HH.out]; simp)).symm, hN⟩
  | true =>
  go_wp2_with fail
  refine (specNameVal x.n v2 H2.out _ hf.sn).mono ?_
  rintro e w1 ⟨rfl, rfl⟩
  cases v2 with
  | false =>
    go_wp2
    go_ret
    exact ⟨ret_bool (HNo.out (by rw [HH.out]; simp)).symm, hN⟩
  | true =>
  go_wp2_with fail
  refine (inVal x.q 1 x.s v3 H3.out _).mono ?_
  rintro e w1 ⟨rfl, rfl⟩
  cases v3 with
  | false =>
    go_wp2
    go_ret
    exact ⟨ret_bool (HNo.out (by rw [HH.out]; simp)).symm, hN⟩
  | true =>
  have h4 := H4.out
  cases v4 with
  | true =>
    go_wp2
    go_ret
    exact ⟨ret_bool (HNo.out (by rw [HH.out]; simp)).symm, hN⟩
  | false =>
  have h4' : x.s ≤ 50 := by simpa using H4.out
  go_wp2_with fail
  refine (inVal x.f 0 x.b v5 H5.out _).mono ?_
  rintro e w1 ⟨rfl, rfl⟩
  cases v5 with
  | false =>
    go_wp2
    go_ret
    exact ⟨ret_bool (HNo.out (by rw [HH.out]; simp)).symm, hN⟩
  | true =>
  have h6 := H6.out
  cases v6 with
  | true =>
    go_wp2
    go_ret
    exact ⟨ret_bool (HNo.out (by rw [HH.out]; simp)).symm, hN⟩
  | false =>
  have h6' : x.b ≤ 10000 := by simpa using H6.out
  go_wp2_with fail
  refine (inVal x.l 0 300 v7 H7.out _).mono ?_
  rintro e w1 ⟨rfl, rfl⟩
  cases v7 with
  | false =>
    go_wp2
    go_ret
    exact ⟨ret_bool (HNo.out (by rw [HH.out]; simp)).symm, hN⟩
  | true =>
  go_wp2_with fail
  refine (inVal x.wl.length 1 3 v8 H8.out _).mono ?_
  rintro e w1 ⟨rfl, rfl⟩
  cases v8 with
  | false =>
    go_wp2
    go_ret
    exact ⟨ret_bool (HNo.out (by rw [HH.out]; simp)).symm, hN⟩
  | true =>
  go_wp2_with fail
  refine (inVal x.ll.length 1 6 v9 H9.out _).mono ?_
  rintro e w1 ⟨rfl, rfl⟩
  cases v9 with
  | false =>
    go_wp2
    go_ret
    exact ⟨ret_bool (HNo.out (by rw [HH.out]; simp)).symm, hN⟩
  | true =>
  have HT : Hid (V = ((x.wl.all fun y => wayB fl y.l) && x.ll.all levB)) := by rw [Hid, HV.out, HH.out]; rfl
  clear HV HNo HH H1 H2 H3 H4 H5 H6 H7 H8 H9 h4 h6 h4' h6' k0 k1 k2 k3 k4 k5
  go_wp2
  go_loopw [5] (fun i wr => ∃ k : Nat, k ≤ x.wl.length ∧ i = .int .i64 k ∧ Below w.heap.size w wr ∧ wr.heap[w.heap.size]? = some x.obj ∧ Hid ((x.wl.take k).all (fun y => wayB fl y.l) = true)) (fun i _ => x.wl.length - (intOf i).toNat)
  case atStart => exact ⟨0, Nat.zero_le _, rfl, hN, HO1.out, by simp [Hid]⟩
  case round =>
    clear k6 k7 HO1 hN
    obtain ⟨k, hk, rfl, hN, hO1, hno⟩ := hrel
    have HO1 : Hid _ := hO1
    have k6 : wr.cell? ⟨w.heap.size, 6, none⟩ = some (.slice x.wa x.wl.length x.wc) := objc hO1 rfl
    have k7 : wr.cell? ⟨w.heap.size, 7, none⟩ = some (.slice x.la x.ll.length x.lc) := objc hO1 rfl
    clear hO1
    by_cases hlt : k < x.wl.length
    · rcases hi.ws with h | ⟨bl, off, hwa, hc⟩
      · rw [h] at hlt; simp at hlt
      · have hbx := (hc k hlt).later hN
        have hgk := (hi.yn x.wl[k] (List.getElem_mem hlt)).later hN
        have hgf := hf.yn x.wl[k] (List.getElem_mem hlt)
        obtain ⟨b, hbe⟩ : ∃ b, b = x.wl[k] := ⟨_, rfl⟩
        rw [← hbe] at hbx hgk hgf
        have HB : Hid (b = x.wl[k]) := hbe
        clear hbe hc
        have c0 := yx_at hbx
        rw [Nat.mul_one] at c0
        clear hbx
        rw [hwa] at k6
        have hi1 : (k : Int) < (x.wl.length : Int) := by omega
        have hi0 : (0 : Int) ≤ (k : Int) := by omega
        obtain ⟨v, hv⟩ : ∃ v, v = wayB fl b.l := ⟨_, rfl⟩
        have HVb : Hid (v = wayB fl b.l) := hv
        clear hv hwa
        go_wp2_with fail
        refine (l4Way_any fl b af cf _ (hfl.later hN) hgk hnf hgf).mono ?_
        rintro e w2 ⟨rfl, hb2⟩
        rw [← HVb.out]
        have HO2 : Hid (w2.heap[w.heap.size]? = some x.obj) := (hb2.block _ (Array.getElem?_eq_some_iff.1 HO1.out).1).trans HO1.out
        have hN2 := bstep hN hb2
        clear c0 hb2 k6 k7
        cases v with
        | false =>
          go_wp2
          go_ret
          exact ⟨ret_bool (by rw [HT.out, gall_of_get _ x.wl k hlt (by rw [← HB.out]; exact HVb.out.symm)]; rfl), hN2⟩
        | true =>
          go_wp2
          go_roundw
          case rel => exact ⟨k + 1, by omega, by go_num, hN2, HO2.out, by rw [Hid, gtake_all _ x.wl k hlt, hno.out, ← HB.out, ← HVb.out]; rfl⟩
          case measure => simp [intOf]; omega
    · have HT2 : Hid (V = x.ll.all levB) := by
        have h := hno.out
        rw [List.take_of_length_le (by omega)] at h
        rw [Hid, HT.out, h]; rfl
      clear HT hno
      go_wp2
      go_loopw [6] (fun i wr => ∃ k : Nat, k ≤ x.ll.length ∧ i = .int .i64 k ∧ Below w.heap.size w wr ∧ wr.heap[w.heap.size]? = some x.obj ∧ Hid ((x.ll.take k).all levB = true)) (fun i _ => x.ll.length - (intOf i).toNat)
      case atStart => exact ⟨0, Nat.zero_le _, rfl, hN, HO1.out, by simp [Hid]⟩
      case round =>
        clear k6 k7 HO1 hN
        obtain ⟨j, hj, rfl, hN, hO1, hno⟩ := hrel
        have HO1 : Hid _ := hO1
        have k7 := objc (j := 7) hO1 rfl
        clear hO1
        by_cases hlt : j < x.ll.length
        · rcases hi.ls with h | ⟨bl, off, hla, hc⟩
          · rw [h] at hlt; simp at hlt
          · have hbx := (hc j hlt).later hN
            obtain ⟨b, hbe⟩ : ∃ b, b = x.ll[j] := ⟨_, rfl⟩
            rw [← hbe] at hbx
            have HB : Hid (b = x.ll[j]) := hbe
            clear hbe hc
            have c0 := ix_at hbx
            rw [Nat.mul_one] at c0
            clear hbx
            rw [hla] at k7
            clear hla
            have hi1 : (j : Int) < (x.ll.length : Int) := by omega
            have hi0 : (0 : Int) ≤ (j : Int) := by omega
            obtain ⟨v, hv⟩ : ∃ v, inB b 1 6 = v := ⟨_, rfl⟩
            have HVb : Hid (levB b = v) := hv
            have Hv : Hid _ := hv
            clear hv
            go_wp2_with fail
            refine (inVal b 1 6 v Hv.out _).mono ?_
            rintro e w2 ⟨rfl, rfl⟩
            cases v with
            | false =>
              go_wp2
              go_ret
              exact ⟨ret_bool (by rw [HT2.out, gall_of_get _ x.ll j hlt (by rw [← HB.out]; exact HVb.out)]), hN⟩
            | true =>
              go_wp2
              go_roundw
              case rel => exact ⟨j + 1, by omega, by go_num, hN, HO1.out, by rw [Hid, gtake_all _ x.ll j hlt, hno.out, ← HB.out, HVb.out]; rfl⟩
              case measure => simp [intOf]; omega
        · go_wp2
          go_ret
          refine ⟨ret_bool ?_, hN⟩
          have h := hno.out
          rw [List.take_of_length_le (by omega)] at h
          rw [HT2.out, h]
end Go.Proofs.Ytficfhcmbhlagab
