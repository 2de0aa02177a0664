import Derived.Test.YtiojdbffjdoniaaGreatDoorCh1
namespace Go.Proofs.YtiojdbffjdoniaaGreatDoor
set_option maxRecDepth 100000
set_option maxHeartbeats 16000000
open Go.RowKit
theorem Tryz.info74 : (Tryz.prog.info? 74).map (fun i => (i.zero, i.size, i.bytes)) = some (some (.agg #[.int .i64 0, .int .i64 0, .int .i64 0]), 3, 24) := by kernel_rfl
structure Co where
 d : Int
 i : Int
 k : Int
def Co.cells (c : Co) : List Value := [.int .i64 c.d, .int .i64 c.i, .int .i64 c.k]
abbrev Co.val (c : Co) : Value := fY c.d c.i c.k
abbrev Co.obj (c : Co) : Obj := gP c.d c.i c.k
def jC : List Co -> List Value
 | [] => []
 | s :: r => s.cells ++ jC r
theorem pT : ∀ (l r : List Co), jC (l ++ r) = jC l ++ jC r
 | [], r => rfl
 | a :: l, r => by simp [jC, pT l r]
theorem xK : ∀ (l : List Co) (i : Nat) (h : i < l.length) (j : Nat), j < 3 -> (jC l)[i * 3 + j]? = (l[i].cells)[j]?
 | [], i, h, j, hj => by simp at h
 | a :: r, 0, h, j, hj => by
  rw [jC, List.getElem?_append_left (by simp [Co.cells]; omega)]; simp
 | a :: r, i + 1, h, j, hj => by
  have h' : i < r.length := by simpa using h
  rw [jC, List.getElem?_append_right (by simp [Co.cells]; omega)]; have e : (i + 1) * 3 + j - (Co.cells a).length = i * 3 + j := by simp [Co.cells]; omega
  rw [e, xK r i h' j hj]; rfl
theorem OU {w : World} {base : Nat} {v : Value} {l : List Co} (h : w.ownsRow base 74 3 v l.length (jC l)) : ∃ ao cap, v = .slice ao l.length cap /\ Xs 3 Co.cells w ao l /\ l.length <= cap := by
 rcases h.2 with ⟨hv, hn⟩ | ⟨g, cap, cur, hv, hb, hg, hnc, _, hs, ht⟩
 · exact ⟨none, 0, by rw [hv, hn], Or.inl (List.eq_nil_of_length_eq_zero hn), by omega⟩
 · refine ⟨some ⟨g, 0, none⟩, cap, hv, Or.inr ⟨g, 0, rfl, fun k hk j u hj => ?_⟩, hnc⟩
   have hj2 : j < 3 := (lgs.1 hj).1; have := h.cells (g := g) (by rw [hv]; rfl) (k * 3 + j) u (by rw [xK l k hk j hj2]; exact hj); rw [Addr.add_lit, Nat.zero_add] at this; rw [Nat.zero_add]; exact this
theorem PQ (W : World) (g : Nat) (hg : g = W.heap.size) (s : Co) : ∀ j u, (s.cells)[j]? = some u -> (W.alloc s.obj).cell? ((⟨g, 0, none⟩ : Addr).add j) = some u := by
 subst hg; intro j u hj
 match j, hj with
 | 0, hj => simp [Co.cells] at hj; subst hj; simp [Addr.add]
 | 1, hj => simp [Co.cells] at hj; subst hj; simp [Addr.add]
 | 2, hj => simp [Co.cells] at hj; subst hj; simp [Addr.add]
 | n + 3, hj => simp [Co.cells] at hj
def jA (b : Bk) (x : Wx) (d i : Int) (k : Nat) : List Co := ((List.range k).filter fun (j : Nat) => oK b x d i (j : Int)).map fun (j : Nat) => ⟨d, i, (j : Int)⟩
def jI (b : Bk) (x : Wx) (d : Int) (i : Nat) : List Co := (List.range i).flatMap fun (j : Nat) => jA b x d (j : Int) x.ll.length
def fI (b : Bk) (x : Wx) (n : Nat) : List Co := (List.range n).flatMap fun (j : Nat) => jI b x (j : Int) x.wl.length
def tE (b : Bk) (x : Wx) : List Co := if aS b && dE b.fl x then fI b x (x.l.toNat + 1) else []
theorem CI {b : Bk} {x : Wx} {d i : Int} {k : Nat} (h : oK b x d i (k : Int) = true) : jA b x d i (k + 1) = jA b x d i k ++ [⟨d, i, (k : Int)⟩] := by
 unfold jA; rw [List.range_succ, List.filter_append, List.map_append]; simp [h]
theorem GZ {b : Bk} {x : Wx} {d i : Int} {k : Nat} (h : oK b x d i (k : Int) = false) : jA b x d i (k + 1) = jA b x d i k := by
 unfold jA; rw [List.range_succ, List.filter_append, List.map_append]; simp [h]
theorem rZ (b : Bk) (x : Wx) (d : Int) (i : Nat) : jI b x d (i + 1) = jI b x d i ++ jA b x d (i : Int) x.ll.length := by
 unfold jI; rw [List.range_succ, List.flatMap_append]; simp
theorem pA (b : Bk) (x : Wx) (n : Nat) : fI b x (n + 1) = fI b x n ++ jI b x (n : Int) x.wl.length := by
 unfold fI; rw [List.range_succ, List.flatMap_append]; simp
theorem sS (b : Bk) (x : Wx) (d i : Int) (k : Nat) : (jA b x d i k).length <= k := by
 unfold jA; rw [List.length_map]; exact Nat.le_trans (List.length_filter_le _ _) (by simp)
theorem nM (b : Bk) (x : Wx) (h : x.ll.length <= 6) (d : Int) : ∀ i, (jI b x d i).length <= 6 * i
 | 0 => by simp [jI]
 | i + 1 => by
  have := nM b x h d i; have := sS b x d (i : Int) x.ll.length; rw [rZ, List.length_append]; omega
theorem pY (b : Bk) (x : Wx) (h : x.ll.length <= 6) (hw : x.wl.length <= 3) : ∀ n, (fI b x n).length <= 18 * n
 | 0 => by simp [fI]
 | n + 1 => by
  have := pY b x h hw n; have := nM b x h (n : Int) x.wl.length; rw [pA, List.length_append]; omega
theorem uF {fl : List Fx} {x : Wx} (h : dE fl x = true) : x.wl.length <= 3 /\ x.ll.length <= 6 /\ 0 <= x.l /\ x.l <= 300 := by
 simp only [dE, lK, gM, pX, nJ, AS, bat, dte] at h; omega
theorem DO {w : World} {b : Bk} (h : fK w b) (v : Bool) (hv : aS b = v) : Calls Tryz.prog 28 #[b.val] w fun e w' => e = .returned (.bool v) /\ Below w.heap.size w w' :=
 yH (h.with (t := []) (ta := none) (.inl rfl) (by simp)) v hv
theorem tG (b : Bk) (x : Wx) (w : World) (hb : fK w b) (hx : gW w x) :
 Calls Tryz.prog 124 #[b.val, x.val] w fun e w' => (∃ v, e = .returned v /\ w'.ownsRow (w.heap.size + 2) 74 3 v (tE b x).length (jC (tE b x))) /\ Below w.heap.size w w' := by
 obtain ⟨i0, hi0, hz0, hz1, hz2⟩ := info_parts Tryz.info74; have hB0 : Below w.heap.size w (((w.alloc b.obj).alloc x.obj).alloc (.cells #[] 74)) := aA (aA (aA (br _ _) _) _) _; have B0 := (halq ((w.alloc b.obj).alloc x.obj) (.cells #[] 74) w.heap.size (by simp; omega)).trans ((halq (w.alloc b.obj) x.obj w.heap.size (by simp)).trans (wnq w b.obj)); have X00 := wnq (w.alloc b.obj) x.obj; rw [wsa] at X00; have X0 := (halq ((w.alloc b.obj).alloc x.obj) (.cells #[] 74) (w.heap.size + 1) (by simp)).trans X00; clear X00
 have hown0 : (((w.alloc b.obj).alloc x.obj).alloc (.cells #[] 74)).ownsRow (w.heap.size + 2) 74 3 (.slice (some ⟨w.heap.size + 1 + 1, 0, none⟩) 0 0) 0 (jC []) := by
  simpa [jC] using World.ownsRow_lit (base := w.heap.size + 2) (e := 74) (size := 3) ((w.alloc b.obj).alloc x.obj) #[] 0 (by simp) (nz _) rfl
 have hsz0 : (((w.alloc b.obj).alloc x.obj).alloc (.cells #[] 74)).heap.size = w.heap.size + 3 := by simp
 obtain ⟨v1, g1⟩ : ∃ v, aS b = v := ⟨_, rfl⟩; obtain ⟨v2, g2⟩ : ∃ v, dE b.fl x = v := ⟨_, rfl⟩; obtain ⟨T, hT⟩ : ∃ T, T = tE b x := ⟨_, rfl⟩; rw [← hT]; have HT : Hid (T = if v1 && v2 then fI b x (x.l.toNat + 1) else []) := by rw [Hid, hT, tE, g1, g2]
 have G1 : Hid _ := g1; have G2 : Hid _ := g2; clear hT g1 g2
 go_enter Tryz.func124, Tryz.ntmps124
 go_wp2_with fail
 obtain ⟨W0, hW0⟩ : ∃ W0, ((w.alloc b.obj).alloc x.obj).alloc (.cells #[] 74) = W0 := ⟨_, rfl⟩; rw [hW0] at hB0 B0 X0 hown0 hsz0 ⊢; clear hW0; refine (DO (hb.zL hB0) v1 G1.out).mono ?_; rintro e w1 ⟨rfl, hb1⟩; have B1 := (hb1.block _ (bH B0)).trans B0; have X1 := (hb1.block _ (bH X0)).trans X0; have N1 := aC hB0 hb1; have hown1 := kN hown0 hb1; have hs1 := hb1.size; rw [hsz0] at hs1; clear hown0 hb1 B0 X0 hB0 hsz0
 cases v1 with
 | false =>
  go_wp2
  go_ret; exact ⟨⟨_, rfl, by rw [HT.out]; exact hown1⟩, N1⟩
 | true =>
 have k1 : w1.cell? ⟨w.heap.size, 1, none⟩ = some (.slice b.fa b.fl.length b.fc) := aK B1 rfl; obtain ⟨q0, q1, q2, q3, q4, q5, q6, q7⟩ := fQ X1; have HB1 : Hid _ := B1; have HX1 : Hid _ := X1; clear B1 X1; go_wp2_with fail
 refine (pR b.fl x b.fa b.fc w1 (hb.hf.zL N1) hb.hnf hb.hs (hx.hi.zL N1) hx.hf).mono ?_; rintro e w2 ⟨rfl, hb2⟩; rw [G2.out]; have B2 := (hb2.block _ (bH HB1.out)).trans HB1.out; have X2 := (hb2.block _ (bH HX1.out)).trans HX1.out; have N2 := aC N1 hb2; have hown2 := kN hown1 hb2; have hs2 := hb2.size; have hs2 : w.heap.size + 3 <= w2.heap.size := by omega
 clear hown1 hb2 HB1 HX1 N1 k1 q0 q1 q2 q3 q4 q5 q6 q7 hs1
 cases v2 with
 | false =>
  go_wp2
  go_ret; exact ⟨⟨_, rfl, by rw [HT.out]; exact hown2⟩, N2⟩
 | true =>
 obtain ⟨hwl, hll, hl0, hl1⟩ := uF G2.out; have HBX : Hid (w2.heap[w.heap.size]? = some b.obj /\ w2.heap[w.heap.size + 1]? = some x.obj) := ⟨B2, X2⟩; clear B2 X2 G1 G2; have HT2 : Hid (T = fI b x (x.l.toNat + 1)) := by rw [Hid, HT.out]; rfl
 clear HT; go_wp2
 go_loopw [5, 6] (fun v5 i wr => ∃ n : Nat, (n : Int) <= x.l + 1 /\ i = .int .i64 n /\ wr.ownsRow (w.heap.size + 2) 74 3 v5 (fI b x n).length (jC (fI b x n)) /\ Below (w.heap.size + 2) w2 wr) (fun _ i _ => (x.l + 1 - intOf i).toNat)
 case atStart => exact ⟨0, by omega, rfl, hown2, br _ _⟩
 case round =>
  clear hown2; obtain ⟨n, hn, rfl, hown, hA⟩ := hrel; have hN : Below w.heap.size w wr := N2.trans (hA.mono (by omega)); have X2 : wr.heap[w.heap.size + 1]? = some x.obj := (hA.block _ (by omega)).trans HBX.out.2; have q5 : wr.cell? ⟨w.heap.size + 1, 5, none⟩ = some (.int .i64 x.l) := aK X2 rfl; have HLL : Hid ((fI b x n).length <= 18 * n) := pY b x hll hwl n; clear X2
  by_cases hlt : (n : Int) <= x.l
  · go_wp2
    clear q5
    go_loopw [5, 7] (fun v5 i ws => ∃ m : Nat, m <= x.wl.length /\ i = .int .i64 m /\ ws.ownsRow (w.heap.size + 2) 74 3 v5 (fI b x n ++ jI b x n m).length (jC (fI b x n ++ jI b x n m)) /\ Below (w.heap.size + 2) w2 ws) (fun _ i _ => x.wl.length - (intOf i).toNat)
    case atStart => exact ⟨0, by omega, rfl, by simpa [jI] using hown, hA⟩
    case round =>
     clear hown hA hN; obtain ⟨m, hm, rfl, hown, hA⟩ := hrel; have hN : Below w.heap.size w wr := N2.trans (hA.mono (by omega)); have X2 : wr.heap[w.heap.size + 1]? = some x.obj := (hA.block _ (by omega)).trans HBX.out.2; have q6 : wr.cell? ⟨w.heap.size + 1, 6, none⟩ = some (.slice x.wa x.wl.length x.wc) := aK X2 rfl; have HWL : Hid ((jI b x n m).length <= 6 * m) := nM b x hll n m; clear X2
     by_cases hmt : m < x.wl.length
     · go_wp2
       clear q6
       go_loopw [5, 8] (fun v5 i ws => ∃ k : Nat, k <= x.ll.length /\ i = .int .i64 k /\ ws.ownsRow (w.heap.size + 2) 74 3 v5 (fI b x n ++ jI b x n m ++ jA b x n m k).length (jC (fI b x n ++ jI b x n m ++ jA b x n m k)) /\ Below (w.heap.size + 2) w2 ws) (fun _ i _ => x.ll.length - (intOf i).toNat)
       case atStart => exact ⟨0, by omega, rfl, by simpa [jA] using hown, hA⟩
       case round =>
        clear hown hA hN; obtain ⟨k, hk, rfl, hown, hA⟩ := hrel; have hN : Below w.heap.size w wr := N2.trans (hA.mono (by omega)); have B2 : wr.heap[w.heap.size]? = some b.obj := (hA.block _ (by omega)).trans HBX.out.1; have X2 : wr.heap[w.heap.size + 1]? = some x.obj := (hA.block _ (by omega)).trans HBX.out.2; have q7 : wr.cell? ⟨w.heap.size + 1, 7, none⟩ = some (.slice x.la x.ll.length x.lc) := aK X2 rfl; have hwz : w.heap.size + 3 <= wr.heap.size := Nat.le_trans hs2 hA.size; have HKL : Hid ((jA b x n m k).length <= k) := sS b x n m k
        by_cases hkt : k < x.ll.length
        · have hAl : Below wr.heap.size wr (wr.alloc (gP n m k)) := aA (br _ _) _
          have B3 := (hAl.block _ (by omega)).trans B2; have X3 := (hAl.block _ (by omega)).trans X2; have C3 := wnq wr (gP n m k); have p0 : (wr.alloc (gP n m k)).cell? ⟨w.heap.size, 0, none⟩ = some (.int .i64 b.now) := aK B3 rfl; have p1 : (wr.alloc (gP n m k)).cell? ⟨w.heap.size, 1, none⟩ = some (.slice b.fa b.fl.length b.fc) := aK B3 rfl; have p2 : (wr.alloc (gP n m k)).cell? ⟨w.heap.size, 2, none⟩ = some (.slice b.ha b.hl.length b.hc) := aK B3 rfl; have q0 : (wr.alloc (gP n m k)).cell? ⟨w.heap.size + 1, 0, none⟩ = some (.string x.n) := aK X3 rfl; have q1 : (wr.alloc (gP n m k)).cell? ⟨w.heap.size + 1, 1, none⟩ = some (.int .i64 x.q) := aK X3 rfl; have q2 : (wr.alloc (gP n m k)).cell? ⟨w.heap.size + 1, 2, none⟩ = some (.int .i64 x.s) := aK X3 rfl; have q3 : (wr.alloc (gP n m k)).cell? ⟨w.heap.size + 1, 3, none⟩ = some (.int .i64 x.f) := aK X3 rfl; have q4 : (wr.alloc (gP n m k)).cell? ⟨w.heap.size + 1, 4, none⟩ = some (.int .i64 x.b) := aK X3 rfl; have q5 : (wr.alloc (gP n m k)).cell? ⟨w.heap.size + 1, 5, none⟩ = some (.int .i64 x.l) := aK X3 rfl; have q6 : (wr.alloc (gP n m k)).cell? ⟨w.heap.size + 1, 6, none⟩ = some (.slice x.wa x.wl.length x.wc) := aK X3 rfl; have q8 : (wr.alloc (gP n m k)).cell? ⟨w.heap.size + 1, 7, none⟩ = some (.slice x.la x.ll.length x.lc) := aK X3 rfl; have r0 : (wr.alloc (gP n m k)).cell? ⟨wr.heap.size, 0, none⟩ = some (.int .i64 n) := aK C3 rfl; have r1 : (wr.alloc (gP n m k)).cell? ⟨wr.heap.size, 1, none⟩ = some (.int .i64 m) := aK C3 rfl; have r2 : (wr.alloc (gP n m k)).cell? ⟨wr.heap.size, 2, none⟩ = some (.int .i64 k) := aK C3 rfl; have HC3 : Hid _ := C3; clear X2 B2 X3 B3 C3; obtain ⟨cv, hcv⟩ : ∃ v, oK b x n m k = v := ⟨_, rfl⟩; have HCV : Hid _ := hcv; go_wp2_with fail
          refine (KF b x n m k _ (hb.zL (aC hN hAl)) (hx.zL (aC hN hAl))).mono ?_; rintro e w3 ⟨rfl, hb3⟩; rw [hcv]; have hown3 := kN (kN hown hAl) hb3; have hA3 := aT (aT hA (by omega) hAl) (by have := hAl.size; omega) hb3; have C4 := (hb3.block _ (bH HC3.out)).trans HC3.out; obtain ⟨r0, r1, r2⟩ := aJ C4; clear hcv hown hA hN hAl p0 p1 p2 q0 q1 q2 q3 q4 q5 q6 q7 q8 hb3 C4 HC3; have h3z := hA3.size
          have hLen : (fI b x n ++ jI b x n m ++ jA b x n m k).length <= 10000 := by
           have h1 := HLL.out; have h2 := HWL.out; have h3 := HKL.out; simp only [List.length_append]; omega
          cases cv with
          | false =>
           go_wp2
           go_roundw
           case rel => exact ⟨k + 1, by omega, by go_num, by rw [GZ HCV.out]; exact hown3, hA3⟩
           case measure => simp [intOf]; omega
          | true =>
           go_wp2_with (at_builtin; refine wpList_append_own_at _ rfl (.tmp 50) (.tmp 52) 191 rfl (w.heap.size + 2) 74 i0 _ 3 24 Tryz.underlying191 hi0 hz0 hz1 hz2 rfl (by decide) _ _ _ rfl (hown3.alloc _) ⟨w3.heap.size, 0, none⟩ 1 1 (Co.cells ⟨n, m, k⟩) rfl rfl ?qc1 ?qc2 ?qc3 ?qc4 ?qc5 ?_)
           case qc1 => first | exact fun _ _ h => h | exact PQ _ _ rfl ⟨n, m, k⟩
           case qc2 => intro u hu; simp [Co.cells] at hu; rcases hu with rfl | rfl | rfl <;> rfl
           case qc3 => unfold maxLen; omega
           case qc4 => omega
           case qc5 => simp; omega
           intro v' w4 hown' hgrow _ hat
           have hown4 : w4.ownsRow (w.heap.size + 2) 74 3 v' (fI b x n ++ jI b x n m ++ jA b x n m (k + 1)).length (jC (fI b x n ++ jI b x n m ++ jA b x n m (k + 1))) := by
            rw [CI HCV.out, ← List.append_assoc, pT, List.length_append]; simpa [jC] using hown'
           have hA4 : Below (w.heap.size + 2) w2 w4 := dJ (jP hA3 (by omega) _) (by omega) hgrow (fun k e => (hown3.lt k e).1); have HO4 : Hid _ := hown4; clear hgrow hown' hat hown3 hA3 hown4; go_wp2
           go_roundw
           case rel => exact ⟨k + 1, by omega, by go_num, HO4.out, hA4⟩
           case measure => simp [intOf]; omega
        · have hke : k = x.ll.length := by omega
          subst hke; clear X2 B2; go_wp2
          go_roundw
          case rel => exact ⟨m + 1, by omega, by go_num, by rw [rZ, ← List.append_assoc]; exact hown, hA⟩
          case measure => simp [intOf]; omega
     · have hme : m = x.wl.length := by omega
       subst hme; go_wp2
       go_roundw
       case rel => exact ⟨n + 1, by omega, by go_num, by rw [pA]; exact hown, hA⟩
       case measure => simp [intOf]; omega
  · have hne : n = x.l.toNat + 1 := by omega
    have HO : Hid (wr.ownsRow (w.heap.size + 2) 74 3 u5 T.length (jC T)) := by rw [Hid, HT2.out, ← hne]; exact hown
    clear hown; go_wp2
    go_ret; exact ⟨⟨_, rfl, HO.out⟩, hN⟩
def eB : List Co -> Value
 | [] => .tuple #[fY 0 0 0, .bool false]
 | c :: _ => .tuple #[fY c.d c.i c.k, .bool true]
theorem QM {w : World} {bl off : Nat} {c : Co} (h : aN w bl off c.cells) : w.cell? ⟨bl, off, none⟩ = some (.int .i64 c.d) /\ w.cell? ⟨bl, off + 1, none⟩ = some (.int .i64 c.i) /\ w.cell? ⟨bl, off + 2, none⟩ = some (.int .i64 c.k) :=
 ⟨h 0 _ rfl, h 1 _ rfl, h 2 _ rfl⟩
theorem yN (b : Bk) (x : Wx) (w : World) (hb : fK w b) (hx : gW w x) :
 Calls Tryz.prog 75 #[b.val, x.val] w fun e w' => e = .returned (eB (tE b x)) /\ Below w.heap.size w w' := by
 have hB0 : Below w.heap.size w (((w.alloc b.obj).alloc x.obj).alloc (gP 0 0 0)) := aA (aA (aA (br _ _) _) _) _; have R00 := wnq ((w.alloc b.obj).alloc x.obj) (gP 0 0 0); rw [wsa, wsa] at R00; obtain ⟨L, hL⟩ : ∃ L, tE b x = L := ⟨_, rfl⟩; rw [hL]; have HL : Hid _ := hL; clear hL
 go_enter Tryz.func75, Tryz.ntmps75
 go_wp2_with fail
 obtain ⟨W0, hW0⟩ : ∃ W0, ((w.alloc b.obj).alloc x.obj).alloc (gP 0 0 0) = W0 := ⟨_, rfl⟩; rw [hW0] at hB0 R00 ⊢; clear hW0; refine (tG b x W0 (hb.zL hB0) (hx.zL hB0)).mono ?_; rintro e w1 ⟨⟨v, rfl, hO⟩, hb1⟩; rw [HL.out] at hO; have N1 := aC hB0 hb1; have R1 := (hb1.block _ (bH R00)).trans R00; obtain ⟨ao, cap, rfl, hX, _⟩ := OU hO; clear hO hb1 R00 hB0; obtain ⟨r0, r1, r2⟩ := aJ R1; have hz := (bH R1); have hle : w.heap.size <= w.heap.size + 1 + 1 := by omega
 have rf : ∀ i, w1.frozen? ⟨w.heap.size + 1 + 1, i, none⟩ = false := fun i => by simp [World.frozen?, R1]
 cases L with
 | nil =>
  simp only [lln]; go_wp2
  refine bpr (v := eB []) ?_ rfl ⟨rfl, ((N1.setCell (p := ⟨w.heap.size + 1 + 1, 0, none⟩) hle _).setCell (p := ⟨w.heap.size + 1 + 1, 1, none⟩) hle _).setCell (p := ⟨w.heap.size + 1 + 1, 2, none⟩) hle _⟩
  simp [results, Tryz.results75, go_sem, eB, r0, r1, r2]
 | cons c r =>
  rcases hX with h | ⟨bl, off, rfl, hc⟩
  · cases h
  have hc0 := hc 0 (by simp); rw [Nat.zero_mul, Nat.add_zero] at hc0; obtain ⟨c0, c1, c2⟩ := QM hc0; simp only [List.getElem_cons_zero] at c0 c1 c2; clear hc hc0; simp only [llc]; go_wp2
  refine bpr (v := eB (c :: r)) ?_ rfl ⟨rfl, ((N1.setCell (p := ⟨w.heap.size + 1 + 1, 0, none⟩) hle _).setCell (p := ⟨w.heap.size + 1 + 1, 1, none⟩) hle _).setCell (p := ⟨w.heap.size + 1 + 1, 2, none⟩) hle _⟩
  simp [results, Tryz.results75, go_sem, eB, r0, r1, r2]
end Go.Proofs.YtiojdbffjdoniaaGreatDoor
namespace Go.Proofs.YtiojdbffjdoniaaGreatDoor
set_option maxRecDepth 100000
set_option maxHeartbeats 8000000
open Go.RowKit Go.Shelf
attribute [local go_sem] Oper.semAt_some
abbrev PD (L : Nat) := { c : Co // 0 <= c.d /\ c.d <= (L : Int) }
def AH (L d i k : Nat) : PD L := ⟨⟨((min d L : Nat) : Int), (i : Int), (k : Int)⟩, by constructor <;> simp only <;> omega⟩
theorem tL {L d : Nat} (i k : Nat) (h : d <= L) : (AH L d i k).1 = ⟨(d : Int), (i : Int), (k : Int)⟩ := by
 simp only [AH, Nat.min_eq_left h]
def sC (L d i k : Nat) : List (PD L) := (List.range k).map (AH L d i)
def rX (L ln d i : Nat) : List (PD L) := (List.range i).flatMap fun j => sC L d j ln
def iV (L wn ln n : Nat) : List (PD L) := (List.range n).flatMap fun j => rX L ln j wn
theorem nY (L d i k : Nat) : sC L d i (k + 1) = sC L d i k ++ [AH L d i k] := by
 unfold sC; rw [List.range_succ, List.map_append]; rfl
theorem oA (L ln d i : Nat) : rX L ln d (i + 1) = rX L ln d i ++ sC L d i ln := by
 unfold rX; rw [List.range_succ, List.flatMap_append]; simp
theorem mO (L wn ln n : Nat) : iV L wn ln (n + 1) = iV L wn ln n ++ rX L ln n wn := by
 unfold iV; rw [List.range_succ, List.flatMap_append]; simp
theorem LE (L d i : Nat) {k m : Nat} (h : k <= m) : sC L d i k <+: sC L d i m := by
 induction m with
 | zero => rw [Nat.le_zero.1 h]; exact List.prefix_refl _
 | succ m ih =>
  by_cases e : k = m + 1
  · rw [e]; exact List.prefix_refl _
  · rw [nY]; exact (ih (by omega)).trans (List.prefix_append _ _)
theorem LD (L ln d : Nat) {k m : Nat} (h : k <= m) : rX L ln d k <+: rX L ln d m := by
 induction m with
 | zero => rw [Nat.le_zero.1 h]; exact List.prefix_refl _
 | succ m ih =>
  by_cases e : k = m + 1
  · rw [e]; exact List.prefix_refl _
  · rw [oA]; exact (ih (by omega)).trans (List.prefix_append _ _)
theorem IY (L wn ln : Nat) {k m : Nat} (h : k <= m) : iV L wn ln k <+: iV L wn ln m := by
 induction m with
 | zero => rw [Nat.le_zero.1 h]; exact List.prefix_refl _
 | succ m ih =>
  by_cases e : k = m + 1
  · rw [e]; exact List.prefix_refl _
  · rw [mO]; exact (ih (by omega)).trans (List.prefix_append _ _)
theorem PK {L wn ln n d i k : Nat} (hd : d < n) (hi : i < wn) (hk : k <= ln) : iV L wn ln d ++ rX L ln d i ++ sC L d i k <+: iV L wn ln n := by
 refine List.IsPrefix.trans ?_ (IY L wn ln (Nat.succ_le_of_lt hd)); rw [mO, List.append_assoc]; refine (List.prefix_append_right_inj _).2 ?_; refine List.IsPrefix.trans ?_ (LD L ln d (Nat.succ_le_of_lt hi)); rw [oA]; exact (List.prefix_append_right_inj _).2 (LE L d i hk)
theorem tV (n : Nat) (Bx L : Nat) (x : Wx) (hL : x.l = (L : Int)) (hL2 : L <= 300) (hf : x.Fit) (R : World -> World -> Prop) (hR : ∀ W W', R W W' -> W.heap[Bx]? = some x.obj -> W'.heap[Bx]? = some x.obj) (w : World) (hB : w.heap[Bx]? = some x.obj) :
 SeqStopsK Fence.wide n Tryz.prog 236 #[.pointer (some ⟨Bx, 0, none⟩)] (fun c : PD L => #[c.1.val]) R (fun ys => ys = iV L x.wl.length x.ll.length (L + 1)) (fun pre => pre <+: iV L x.wl.length x.ll.length (L + 1)) (iV L x.wl.length x.ll.length (L + 1)).length w := fun lp J Jx W hW hJ _ hY h0 => by
 have hB0 : W.heap[Bx]? = some x.obj := (hW.block _ (bH hB)).trans hB; have k5 : W.cell? ⟨Bx, 5, none⟩ = some (.int .i64 (L : Int)) := by rw [← hL]; exact aK hB0 rfl
 have hwn := hf.wn; have hln := hf.ln; refine callsIn_of_wp Tryz.func236 rfl trivial ?_ rfl; simp only [Tryz.ntmps236, lsz, llc, lln, Nat.reduceAdd, Nat.reduceSub, ars, arz, lpt, lap, lna, lca]; gi_wp2; clear k5
 gi_loopw [9] (fun i wr => ∃ d : Nat, d <= L + 1 /\ i = .int .i64 d /\ J (iV L x.wl.length x.ll.length d) wr /\ wr.heap[Bx]? = some x.obj) (fun i _ => L + 1 - (intOf i).toNat)
 case atStart => exact ⟨0, nz _, rfl, h0, hB0⟩
 case round =>
  clear hB0 h0; obtain ⟨d, hd, rfl, hJs, hBx⟩ := hrel
  by_cases hlt : d < L + 1
  · have k6 : wr.cell? ⟨Bx, 6, none⟩ = some (.slice x.wa x.wl.length x.wc) := aK hBx rfl
    have hlt' : (d : Int) < (L : Int) + 1 := by omega
    gi_wp2; clear k6
    gi_loopw [15] (fun i ws => ∃ m : Nat, m <= x.wl.length /\ i = .int .i64 m /\ J (iV L x.wl.length x.ll.length d ++ rX L x.ll.length d m) ws /\ ws.heap[Bx]? = some x.obj) (fun i _ => x.wl.length - (intOf i).toNat)
    case atStart => exact ⟨0, nz _, rfl, by simpa [rX] using hJs, hBx⟩
    case round =>
     clear hJs hBx; obtain ⟨m, hm, rfl, hJs, hBx⟩ := hrel
     by_cases hmt : m < x.wl.length
     · have k7 : wr.cell? ⟨Bx, 7, none⟩ = some (.slice x.la x.ll.length x.lc) := aK hBx rfl
       gi_wp2; clear k7
       gi_loopw [21] (fun i ws => ∃ k : Nat, k <= x.ll.length /\ i = .int .i64 k /\ J (iV L x.wl.length x.ll.length d ++ rX L x.ll.length d m ++ sC L d m k) ws /\ ws.heap[Bx]? = some x.obj) (fun i _ => x.ll.length - (intOf i).toNat)
       case atStart => exact ⟨0, nz _, rfl, by simpa [sC] using hJs, hBx⟩
       case round =>
        clear hJs hBx; obtain ⟨k, hk, rfl, hJs, hBx⟩ := hrel
        by_cases hkt : k < x.ll.length
        · have hpre : iV L x.wl.length x.ll.length d ++ rX L x.ll.length d m ++ sC L d m k ++ [AH L d m k] <+: iV L x.wl.length x.ll.length (L + 1) := by
           rw [List.append_assoc _ (sC L d m k), ← nY]; exact PK hlt hmt hkt
          obtain ⟨fn, tmps, assign, body, hy, hRd⟩ := hY _ (AH L d m k) wr hJs (by have := hpre.length_le; simp only [List.length_append, llc, lln] at this ⊢; omega); rw [tL m k (by omega)] at hy; have HR := hRd; have HP : Hid _ := hpre; clear hRd hY hJs hpre; gi_wp2_with fail
          refine ⟨fun h => (by cases h), ?_⟩; refine RoundIn.mono HR ?_; rintro e W3 (⟨rfl, hJ3, hk3⟩ | ⟨rfl, hJx3⟩)
          · clear HR hy
            gi_wp2; refine ⟨⟨k + 1, by omega, by go_num, ?_, hR _ _ hk3 hBx⟩, by simp [intOf]; omega⟩; rw [nY, ← List.append_assoc]; exact hJ3
          · clear HR hy
            gi_wp2; refine bpr (results_none rfl _ _ _) rfl ?_; exact ⟨⟨_, rfl⟩, .inr ⟨_, HP.out, hJx3⟩⟩
        · have hke : k = x.ll.length := by omega
          gi_wp2; refine ⟨⟨m + 1, by omega, by go_num, ?_, hBx⟩, by simp [intOf]; omega⟩; rw [oA, ← List.append_assoc, ← hke]; rw [← hke] at hJs; exact hJs
     · have hme : m = x.wl.length := by omega
       gi_wp2; refine ⟨⟨d + 1, by omega, by go_num, ?_, hBx⟩, by simp [intOf]; omega⟩; rw [mO, ← hme]; rw [← hme] at hJs; exact hJs
  · have hde : d = L + 1 := by omega
    have hlt' : ¬ (d : Int) < (L : Int) + 1 := by omega
    gi_wp2
    go_end0
    exact ⟨⟨_, rfl⟩, .inl (by rw [← hde]; exact hJs)⟩
end Go.Proofs.YtiojdbffjdoniaaGreatDoor
