import Derived.Test.YtiojdbffjdoniaaGreatDoorCh1
namespace Go.Proofs.YtiojdbffjdoniaaGreatDoor
set_option maxRecDepth 100000
set_option maxHeartbeats 16000000
open Go.RowKit
theorem Tryz.info74 : (Tryz.prog.info? 74).map (fun i => (i.zero, i.size, i.bytes)) = some (some (.agg #[.int .i64 0, .int .i64 0, .int .i64 0]), 3, 24) := by kernel_rfl
structure Co where
 d : Int
 i : Int
 k : Int
def Co.cells (c : Co) : List Value := [.int .i64 c.d, .int .i64 c.i, .int .i64 c.k]
abbrev Co.val (c : Co) : Value := fY c.d c.i c.k
abbrev Co.obj (c : Co) : Obj := gO c.d c.i c.k
def jC : List Co -> List Value
 | [] => []
 | s :: r => s.cells ++ jC r
theorem qJ : ∀ (l r : List Co), jC (l ++ r) = jC l ++ jC r
 | [], r => rfl
 | a :: l, r => by simp [jC, qJ l r]
theorem xJ : ∀ (l : List Co) (i : Nat) (h : i < l.length) (j : Nat), j < 3 -> (jC l)[i * 3 + j]? = (l[i].cells)[j]?
 | [], i, h, j, hj => by simp at h
 | a :: r, 0, h, j, hj => by
  rw [jC, List.getElem?_append_left (by simp [Co.cells]; omega)]; simp
 | a :: r, i + 1, h, j, hj => by
  have h' : i < r.length := by simpa using h
  rw [jC, List.getElem?_append_right (by simp [Co.cells]; omega)]; have e : (i + 1) * 3 + j - (Co.cells a).length = i * 3 + j := by simp [Co.cells]; omega
  rw [e, xJ r i h' j hj]; rfl
theorem OO {w : World} {base : Nat} {v : Value} {l : List Co} (h : w.ownsRow base 74 3 v l.length (jC l)) : ∃ ao cap, v = .slice ao l.length cap /\ Xs 3 Co.cells w ao l /\ l.length <= cap := by
 rcases h.2 with ⟨hv, hn⟩ | ⟨g, cap, cur, hv, hb, hg, hnc, _, hs, ht⟩
 · exact ⟨none, 0, by rw [hv, hn], Or.inl (List.eq_nil_of_length_eq_zero hn), by omega⟩
 · refine ⟨some ⟨g, 0, none⟩, cap, hv, Or.inr ⟨g, 0, rfl, fun k hk j u hj => ?_⟩, hnc⟩
   have hj2 : j < 3 := (lgs.1 hj).1; have := h.cells (g := g) (by rw [hv]; rfl) (k * 3 + j) u (by rw [xJ l k hk j hj2]; exact hj); rw [Addr.add_lit, Nat.zero_add] at this; rw [Nat.zero_add]; exact this
theorem PP (W : World) (g : Nat) (hg : g = W.heap.size) (s : Co) : ∀ j u, (s.cells)[j]? = some u -> (W.alloc s.obj).cell? ((⟨g, 0, none⟩ : Addr).add j) = some u := by
 subst hg; intro j u hj
 match j, hj with
 | 0, hj => simp [Co.cells] at hj; subst hj; simp [Addr.add]
 | 1, hj => simp [Co.cells] at hj; subst hj; simp [Addr.add]
 | 2, hj => simp [Co.cells] at hj; subst hj; simp [Addr.add]
 | n + 3, hj => simp [Co.cells] at hj
def jB (b : Bk) (x : Wx) (d i : Int) (k : Nat) : List Co := ((List.range k).filter fun (j : Nat) => oL b x d i (j : Int)).map fun (j : Nat) => ⟨d, i, (j : Int)⟩
def jG (b : Bk) (x : Wx) (d : Int) (i : Nat) : List Co := (List.range i).flatMap fun (j : Nat) => jB b x d (j : Int) x.ll.length
def fL (b : Bk) (x : Wx) (n : Nat) : List Co := (List.range n).flatMap fun (j : Nat) => jG b x (j : Int) x.wl.length
def tC (b : Bk) (x : Wx) : List Co := if aS b && dE b.fl x then fL b x (x.l.toNat + 1) else []
theorem AV {b : Bk} {x : Wx} {d i : Int} {k : Nat} (h : oL b x d i (k : Int) = true) : jB b x d i (k + 1) = jB b x d i k ++ [⟨d, i, (k : Int)⟩] := by
 unfold jB; rw [List.range_succ, List.filter_append, List.map_append]; simp [h]
theorem ID {b : Bk} {x : Wx} {d i : Int} {k : Nat} (h : oL b x d i (k : Int) = false) : jB b x d i (k + 1) = jB b x d i k := by
 unfold jB; rw [List.range_succ, List.filter_append, List.map_append]; simp [h]
theorem rZ (b : Bk) (x : Wx) (d : Int) (i : Nat) : jG b x d (i + 1) = jG b x d i ++ jB b x d (i : Int) x.ll.length := by
 unfold jG; rw [List.range_succ, List.flatMap_append]; simp
theorem pF (b : Bk) (x : Wx) (n : Nat) : fL b x (n + 1) = fL b x n ++ jG b x (n : Int) x.wl.length := by
 unfold fL; rw [List.range_succ, List.flatMap_append]; simp
theorem sS (b : Bk) (x : Wx) (d i : Int) (k : Nat) : (jB b x d i k).length <= k := by
 unfold jB; rw [List.length_map]; exact Nat.le_trans (List.length_filter_le _ _) (by simp)
theorem m8 (b : Bk) (x : Wx) (h : x.ll.length <= 6) (d : Int) : ∀ i, (jG b x d i).length <= 6 * i
 | 0 => by simp [jG]
 | i + 1 => by
  have := m8 b x h d i; have := sS b x d (i : Int) x.ll.length; rw [rZ, List.length_append]; omega
theorem qN (b : Bk) (x : Wx) (h : x.ll.length <= 6) (hw : x.wl.length <= 3) : ∀ n, (fL b x n).length <= 18 * n
 | 0 => by simp [fL]
 | n + 1 => by
  have := qN b x h hw n; have := m8 b x h (n : Int) x.wl.length; rw [pF, List.length_append]; omega
theorem uT {fl : List Fx} {x : Wx} (h : dE fl x = true) : x.wl.length <= 3 /\ x.ll.length <= 6 /\ 0 <= x.l /\ x.l <= 300 := by
 simp only [dE, lM, gR, qE, nL, z8, bat, dte] at h; omega
theorem EU {w : World} {b : Bk} (h : fP w b) (v : Bool) (hv : aS b = v) : Calls Tryz.prog 28 #[b.val] w fun e w' => e = .returned (.bool v) /\ Below w.heap.size w w' :=
 yC (h.with (t := []) (ta := none) (.inl rfl) (by simp)) v hv
theorem tH (b : Bk) (x : Wx) (w : World) (hb : fP w b) (hx : gW w x) :
 Calls Tryz.prog 124 #[b.val, x.val] w fun e w' => (∃ v, e = .returned v /\ w'.ownsRow (w.heap.size + 2) 74 3 v (tC b x).length (jC (tC b x))) /\ Below w.heap.size w w' := by
 obtain ⟨i0, hi0, hz0, hz1, hz2⟩ := info_parts Tryz.info74; have hB0 : Below w.heap.size w (((w.alloc b.obj).alloc x.obj).alloc (.cells #[] 74)) := aA (aA (aA (br _ _) _) _) _; have B0 := (halq ((w.alloc b.obj).alloc x.obj) (.cells #[] 74) w.heap.size (by simp; omega)).trans ((halq (w.alloc b.obj) x.obj w.heap.size (by simp)).trans (wnq w b.obj)); have X00 := wnq (w.alloc b.obj) x.obj; rw [wsa] at X00; have X0 := (halq ((w.alloc b.obj).alloc x.obj) (.cells #[] 74) (w.heap.size + 1) (by simp)).trans X00; clear X00
 have hown0 : (((w.alloc b.obj).alloc x.obj).alloc (.cells #[] 74)).ownsRow (w.heap.size + 2) 74 3 (.slice (some ⟨w.heap.size + 1 + 1, 0, none⟩) 0 0) 0 (jC []) := by
  simpa [jC] using World.ownsRow_lit (base := w.heap.size + 2) (e := 74) (size := 3) ((w.alloc b.obj).alloc x.obj) #[] 0 (by simp) (nz _) rfl
 have hsz0 : (((w.alloc b.obj).alloc x.obj).alloc (.cells #[] 74)).heap.size = w.heap.size + 3 := by simp
 obtain ⟨v1, g1⟩ : ∃ v, aS b = v := ⟨_, rfl⟩; obtain ⟨v2, g2⟩ : ∃ v, dE b.fl x = v := ⟨_, rfl⟩; obtain ⟨T, hT⟩ : ∃ T, T = tC b x := ⟨_, rfl⟩; rw [← hT]; have HT : Hid (T = if v1 && v2 then fL b x (x.l.toNat + 1) else []) := by rw [Hid, hT, tC, g1, g2]
 have G1 : Hid _ := g1; have G2 : Hid _ := g2; clear hT g1 g2
 go_enter Tryz.func124, Tryz.ntmps124
 go_wp2_with fail
 obtain ⟨W0, hW0⟩ : ∃ W0, ((w.alloc b.obj).alloc x.obj).alloc (.cells #[] 74) = W0 := ⟨_, rfl⟩; rw [hW0] at hB0 B0 X0 hown0 hsz0 ⊢; clear hW0; refine (EU (hb.zL hB0) v1 G1.out).mono ?_; rintro e w1 ⟨rfl, hb1⟩; have B1 := (hb1.block _ (bH B0)).trans B0; have X1 := (hb1.block _ (bH X0)).trans X0; have N1 := aC hB0 hb1; have hown1 := kO hown0 hb1; have hs1 := hb1.size; rw [hsz0] at hs1; clear hown0 hb1 B0 X0 hB0 hsz0
 cases v1 with
 | false =>
  go_wp2
  go_ret; exact ⟨⟨_, rfl, by rw [HT.out]; exact hown1⟩, N1⟩
 | true =>
 have k1 : w1.cell? ⟨w.heap.size, 1, none⟩ = some (.slice b.fa b.fl.length b.fc) := aK B1 rfl; obtain ⟨q0, q1, q2, q3, q4, q5, q6, q7⟩ := fS X1; have HB1 : Hid _ := B1; have HX1 : Hid _ := X1; clear B1 X1; go_wp2_with fail
 refine (qW b.fl x b.fa b.fc w1 (hb.hf.zL N1) hb.hnf hb.hs (hx.hi.zL N1) hx.hf).mono ?_; rintro e w2 ⟨rfl, hb2⟩; rw [G2.out]; have B2 := (hb2.block _ (bH HB1.out)).trans HB1.out; have X2 := (hb2.block _ (bH HX1.out)).trans HX1.out; have N2 := aC N1 hb2; have hown2 := kO hown1 hb2; have hs2 := hb2.size; have hs2 : w.heap.size + 3 <= w2.heap.size := by omega
 clear hown1 hb2 HB1 HX1 N1 k1 q0 q1 q2 q3 q4 q5 q6 q7 hs1
 cases v2 with
 | false =>
  go_wp2
  go_ret; exact ⟨⟨_, rfl, by rw [HT.out]; exact hown2⟩, N2⟩
 | true =>
 obtain ⟨hwl, hll, hl0, hl1⟩ := uT G2.out; have HBX : Hid (w2.heap[w.heap.size]? = some b.obj /\ w2.heap[w.heap.size + 1]? = some x.obj) := ⟨B2, X2⟩; clear B2 X2 G1 G2; have HT2 : Hid (T = fL b x (x.l.toNat + 1)) := by rw [Hid, HT.out]; rfl
 clear HT; go_wp2
 go_loopw [5, 6] (fun v5 i wr => ∃ n : Nat, (n : Int) <= x.l + 1 /\ i = .int .i64 n /\ wr.ownsRow (w.heap.size + 2) 74 3 v5 (fL b x n).length (jC (fL b x n)) /\ Below (w.heap.size + 2) w2 wr) (fun _ i _ => (x.l + 1 - intOf i).toNat)
 case atStart => exact ⟨0, by omega, rfl, hown2, br _ _⟩
 case round =>
  clear hown2; obtain ⟨n, hn, rfl, hown, hA⟩ := hrel; have hN : Below w.heap.size w wr := N2.trans (hA.mono (by omega)); have X2 : wr.heap[w.heap.size + 1]? = some x.obj := (hA.block _ (by omega)).trans HBX.out.2; have q5 : wr.cell? ⟨w.heap.size + 1, 5, none⟩ = some (.int .i64 x.l) := aK X2 rfl; have HLL : Hid ((fL b x n).length <= 18 * n) := qN b x hll hwl n; clear X2
  by_cases hlt : (n : Int) <= x.l
  · go_wp2
    clear q5
    go_loopw [5, 7] (fun v5 i ws => ∃ m : Nat, m <= x.wl.length /\ i = .int .i64 m /\ ws.ownsRow (w.heap.size + 2) 74 3 v5 (fL b x n ++ jG b x n m).length (jC (fL b x n ++ jG b x n m)) /\ Below (w.heap.size + 2) w2 ws) (fun _ i _ => x.wl.length - (intOf i).toNat)
    case atStart => exact ⟨0, by omega, rfl, by simpa [jG] using hown, hA⟩
    case round =>
     clear hown hA hN; obtain ⟨m, hm, rfl, hown, hA⟩ := hrel; have hN : Below w.heap.size w wr := N2.trans (hA.mono (by omega)); have X2 : wr.heap[w.heap.size + 1]? = some x.obj := (hA.block _ (by omega)).trans HBX.out.2; have q6 : wr.cell? ⟨w.heap.size + 1, 6, none⟩ = some (.slice x.wa x.wl.length x.wc) := aK X2 rfl; have HWL : Hid ((jG b x n m).length <= 6 * m) := m8 b x hll n m; clear X2
     by_cases hmt : m < x.wl.length
     · go_wp2
       clear q6
       go_loopw [5, 8] (fun v5 i ws => ∃ k : Nat, k <= x.ll.length /\ i = .int .i64 k /\ ws.ownsRow (w.heap.size + 2) 74 3 v5 (fL b x n ++ jG b x n m ++ jB b x n m k).length (jC (fL b x n ++ jG b x n m ++ jB b x n m k)) /\ Below (w.heap.size + 2) w2 ws) (fun _ i _ => x.ll.length - (intOf i).toNat)
       case atStart => exact ⟨0, by omega, rfl, by simpa [jB] using hown, hA⟩
       case round =>
        clear hown hA hN; obtain ⟨k, hk, rfl, hown, hA⟩ := hrel; have hN : Below w.heap.size w wr := N2.trans (hA.mono (by omega)); have B2 : wr.heap[w.heap.size]? = some b.obj := (hA.block _ (by omega)).trans HBX.out.1; have X2 : wr.heap[w.heap.size + 1]? = some x.obj := (hA.block _ (by omega)).trans HBX.out.2; have q7 : wr.cell? ⟨w.heap.size + 1, 7, none⟩ = some (.slice x.la x.ll.length x.lc) := aK X2 rfl; have hwz : w.heap.size + 3 <= wr.heap.size := Nat.le_trans hs2 hA.size; have HKL : Hid ((jB b x n m k).length <= k) := sS b x n m k
        by_cases hkt : k < x.ll.length
        · have hAl : Below wr.heap.size wr (wr.alloc (gO n m k)) := aA (br _ _) _
          have B3 := (hAl.block _ (by omega)).trans B2; have X3 := (hAl.block _ (by omega)).trans X2; have C3 := wnq wr (gO n m k); have p0 : (wr.alloc (gO n m k)).cell? ⟨w.heap.size, 0, none⟩ = some (.int .i64 b.now) := aK B3 rfl; have p1 : (wr.alloc (gO n m k)).cell? ⟨w.heap.size, 1, none⟩ = some (.slice b.fa b.fl.length b.fc) := aK B3 rfl; have p2 : (wr.alloc (gO n m k)).cell? ⟨w.heap.size, 2, none⟩ = some (.slice b.ha b.hl.length b.hc) := aK B3 rfl; have q0 : (wr.alloc (gO n m k)).cell? ⟨w.heap.size + 1, 0, none⟩ = some (.string x.n) := aK X3 rfl; have q1 : (wr.alloc (gO n m k)).cell? ⟨w.heap.size + 1, 1, none⟩ = some (.int .i64 x.q) := aK X3 rfl; have q2 : (wr.alloc (gO n m k)).cell? ⟨w.heap.size + 1, 2, none⟩ = some (.int .i64 x.s) := aK X3 rfl; have q3 : (wr.alloc (gO n m k)).cell? ⟨w.heap.size + 1, 3, none⟩ = some (.int .i64 x.f) := aK X3 rfl; have q4 : (wr.alloc (gO n m k)).cell? ⟨w.heap.size + 1, 4, none⟩ = some (.int .i64 x.b) := aK X3 rfl; have q5 : (wr.alloc (gO n m k)).cell? ⟨w.heap.size + 1, 5, none⟩ = some (.int .i64 x.l) := aK X3 rfl; have q6 : (wr.alloc (gO n m k)).cell? ⟨w.heap.size + 1, 6, none⟩ = some (.slice x.wa x.wl.length x.wc) := aK X3 rfl; have q8 : (wr.alloc (gO n m k)).cell? ⟨w.heap.size + 1, 7, none⟩ = some (.slice x.la x.ll.length x.lc) := aK X3 rfl; have r0 : (wr.alloc (gO n m k)).cell? ⟨wr.heap.size, 0, none⟩ = some (.int .i64 n) := aK C3 rfl; have r1 : (wr.alloc (gO n m k)).cell? ⟨wr.heap.size, 1, none⟩ = some (.int .i64 m) := aK C3 rfl; have r2 : (wr.alloc (gO n m k)).cell? ⟨wr.heap.size, 2, none⟩ = some (.int .i64 k) := aK C3 rfl; have HC3 : Hid _ := C3; clear X2 B2 X3 B3 C3; obtain ⟨cv, hcv⟩ : ∃ v, oL b x n m k = v := ⟨_, rfl⟩; have HCV : Hid _ := hcv; go_wp2_with fail
          refine (J5 b x n m k _ (hb.zL (aC hN hAl)) (hx.zL (aC hN hAl))).mono ?_; rintro e w3 ⟨rfl, hb3⟩; rw [hcv]; have hown3 := kO (kO hown hAl) hb3; have hA3 := aT (aT hA (by omega) hAl) (by have := hAl.size; omega) hb3; have C4 := (hb3.block _ (bH HC3.out)).trans HC3.out; obtain ⟨r0, r1, r2⟩ := aJ C4; clear hcv hown hA hN hAl p0 p1 p2 q0 q1 q2 q3 q4 q5 q6 q7 q8 hb3 C4 HC3; have h3z := hA3.size
          have hLen : (fL b x n ++ jG b x n m ++ jB b x n m k).length <= 10000 := by
           have h1 := HLL.out; have h2 := HWL.out; have h3 := HKL.out; simp only [List.length_append]; omega
          cases cv with
          | false =>
           go_wp2
           go_roundw
           case rel => exact ⟨k + 1, by omega, by go_num, by rw [ID HCV.out]; exact hown3, hA3⟩
           case measure => simp [intOf]; omega
          | true =>
           go_wp2_with (at_builtin; refine wpList_append_own_at _ rfl (.tmp 50) (.tmp 52) 191 rfl (w.heap.size + 2) 74 i0 _ 3 24 Tryz.underlying191 hi0 hz0 hz1 hz2 rfl (by decide) _ _ _ rfl (hown3.alloc _) ⟨w3.heap.size, 0, none⟩ 1 1 (Co.cells ⟨n, m, k⟩) rfl rfl ?qc1 ?qc2 ?qc3 ?qc4 ?qc5 ?_)
           case qc1 => first | exact fun _ _ h => h | exact PP _ _ rfl ⟨n, m, k⟩
           case qc2 => intro u hu; simp [Co.cells] at hu; rcases hu with rfl | rfl | rfl <;> rfl
           case qc3 => unfold maxLen; omega
           case qc4 => omega
           case qc5 => simp; omega
           intro v' w4 hown' hgrow _ hat
           have hown4 : w4.ownsRow (w.heap.size + 2) 74 3 v' (fL b x n ++ jG b x n m ++ jB b x n m (k + 1)).length (jC (fL b x n ++ jG b x n m ++ jB b x n m (k + 1))) := by
            rw [AV HCV.out, ← List.append_assoc, qJ, List.length_append]; simpa [jC] using hown'
           have hA4 : Below (w.heap.size + 2) w2 w4 := dJ (jO hA3 (by omega) _) (by omega) hgrow (fun k e => (hown3.lt k e).1); have HO4 : Hid _ := hown4; clear hgrow hown' hat hown3 hA3 hown4; go_wp2
           go_roundw
           case rel => exact ⟨k + 1, by omega, by go_num, HO4.out, hA4⟩
           case measure => simp [intOf]; omega
        · have hke : k = x.ll.length := by omega
          subst hke; clear X2 B2; go_wp2
          go_roundw
          case rel => exact ⟨m + 1, by omega, by go_num, by rw [rZ, ← List.append_assoc]; exact hown, hA⟩
          case measure => simp [intOf]; omega
     · have hme : m = x.wl.length := by omega
       subst hme; go_wp2
       go_roundw
       case rel => exact ⟨n + 1, by omega, by go_num, by rw [pF]; exact hown, hA⟩
       case measure => simp [intOf]; omega
  · have hne : n = x.l.toNat + 1 := by omega
    have HO : Hid (wr.ownsRow (w.heap.size + 2) 74 3 u5 T.length (jC T)) := by rw [Hid, HT2.out, ← hne]; exact hown
    clear hown; go_wp2
    go_ret; exact ⟨⟨_, rfl, HO.out⟩, hN⟩
def eB : List Co -> Value
 | [] => .tuple #[fY 0 0 0, .bool false]
 | c :: _ => .tuple #[fY c.d c.i c.k, .bool true]
theorem QQ {w : World} {bl off : Nat} {c : Co} (h : aM w bl off c.cells) : w.cell? ⟨bl, off, none⟩ = some (.int .i64 c.d) /\ w.cell? ⟨bl, off + 1, none⟩ = some (.int .i64 c.i) /\ w.cell? ⟨bl, off + 2, none⟩ = some (.int .i64 c.k) :=
 ⟨h 0 _ rfl, h 1 _ rfl, h 2 _ rfl⟩
theorem yP (b : Bk) (x : Wx) (w : World) (hb : fP w b) (hx : gW w x) :
 Calls Tryz.prog 75 #[b.val, x.val] w fun e w' => e = .returned (eB (tC b x)) /\ Below w.heap.size w w' := by
 have hB0 : Below w.heap.size w (((w.alloc b.obj).alloc x.obj).alloc (gO 0 0 0)) := aA (aA (aA (br _ _) _) _) _; have R00 := wnq ((w.alloc b.obj).alloc x.obj) (gO 0 0 0); rw [wsa, wsa] at R00; obtain ⟨L, hL⟩ : ∃ L, tC b x = L := ⟨_, rfl⟩; rw [hL]; have HL : Hid _ := hL; clear hL
 go_enter Tryz.func75, Tryz.ntmps75
 go_wp2_with fail
 obtain ⟨W0, hW0⟩ : ∃ W0, ((w.alloc b.obj).alloc x.obj).alloc (gO 0 0 0) = W0 := ⟨_, rfl⟩; rw [hW0] at hB0 R00 ⊢; clear hW0; refine (tH b x W0 (hb.zL hB0) (hx.zL hB0)).mono ?_; rintro e w1 ⟨⟨v, rfl, hO⟩, hb1⟩; rw [HL.out] at hO; have N1 := aC hB0 hb1; have R1 := (hb1.block _ (bH R00)).trans R00; obtain ⟨ao, cap, rfl, hX, _⟩ := OO hO; clear hO hb1 R00 hB0; obtain ⟨r0, r1, r2⟩ := aJ R1; have hz := (bH R1); have hle : w.heap.size <= w.heap.size + 1 + 1 := by omega
 have rf : ∀ i, w1.frozen? ⟨w.heap.size + 1 + 1, i, none⟩ = false := fun i => by simp [World.frozen?, R1]
 cases L with
 | nil =>
  simp only [lln]; go_wp2
  refine bpr (v := eB []) ?_ rfl ⟨rfl, ((N1.setCell (p := ⟨w.heap.size + 1 + 1, 0, none⟩) hle _).setCell (p := ⟨w.heap.size + 1 + 1, 1, none⟩) hle _).setCell (p := ⟨w.heap.size + 1 + 1, 2, none⟩) hle _⟩
  simp [results, Tryz.results75, go_sem, eB, r0, r1, r2]
 | cons c r =>
  rcases hX with h | ⟨bl, off, rfl, hc⟩
  · cases h
  have hc0 := hc 0 (by simp); rw [Nat.zero_mul, Nat.add_zero] at hc0; obtain ⟨c0, c1, c2⟩ := QQ hc0; simp only [List.getElem_cons_zero] at c0 c1 c2; clear hc hc0; simp only [llc]; go_wp2
  refine bpr (v := eB (c :: r)) ?_ rfl ⟨rfl, ((N1.setCell (p := ⟨w.heap.size + 1 + 1, 0, none⟩) hle _).setCell (p := ⟨w.heap.size + 1 + 1, 1, none⟩) hle _).setCell (p := ⟨w.heap.size + 1 + 1, 2, none⟩) hle _⟩
  simp [results, Tryz.results75, go_sem, eB, r0, r1, r2]
end Go.Proofs.YtiojdbffjdoniaaGreatDoor
namespace Go.Proofs.YtiojdbffjdoniaaGreatDoor
set_option maxRecDepth 100000
set_option maxHeartbeats 8000000
open Go.RowKit Go.Shelf
attribute [local go_sem] Oper.semAt_some
abbrev O8 (L : Nat) := { c : Co // 0 <= c.d /\ c.d <= (L : Int) }
def AA (L d i k : Nat) : O8 L := ⟨⟨((min d L : Nat) : Int), (i : Int), (k : Int)⟩, by constructor <;> simp only <;> omega⟩
theorem tK {L d : Nat} (i k : Nat) (h : d <= L) : (AA L d i k).1 = ⟨(d : Int), (i : Int), (k : Int)⟩ := by
 simp only [AA, Nat.min_eq_left h]
def rK (L d i k : Nat) : List (O8 L) := (List.range k).map (AA L d i)
def rM (L ln d i : Nat) : List (O8 L) := (List.range i).flatMap fun j => rK L d j ln
def i5 (L wn ln n : Nat) : List (O8 L) := (List.range n).flatMap fun j => rM L ln j wn
theorem oA (L d i k : Nat) : rK L d i (k + 1) = rK L d i k ++ [AA L d i k] := by
 unfold rK; rw [List.range_succ, List.map_append]; rfl
theorem nZ (L ln d i : Nat) : rM L ln d (i + 1) = rM L ln d i ++ rK L d i ln := by
 unfold rM; rw [List.range_succ, List.flatMap_append]; simp
theorem lX (L wn ln n : Nat) : i5 L wn ln (n + 1) = i5 L wn ln n ++ rM L ln n wn := by
 unfold i5; rw [List.range_succ, List.flatMap_append]; simp
theorem K9 (L d i : Nat) {k m : Nat} (h : k <= m) : rK L d i k <+: rK L d i m := by
 induction m with
 | zero => rw [Nat.le_zero.1 h]; exact List.prefix_refl _
 | succ m ih =>
  by_cases e : k = m + 1
  · rw [e]; exact List.prefix_refl _
  · rw [oA]; exact (ih (by omega)).trans (List.prefix_append _ _)
theorem MN (L ln d : Nat) {k m : Nat} (h : k <= m) : rM L ln d k <+: rM L ln d m := by
 induction m with
 | zero => rw [Nat.le_zero.1 h]; exact List.prefix_refl _
 | succ m ih =>
  by_cases e : k = m + 1
  · rw [e]; exact List.prefix_refl _
  · rw [nZ]; exact (ih (by omega)).trans (List.prefix_append _ _)
theorem JC (L wn ln : Nat) {k m : Nat} (h : k <= m) : i5 L wn ln k <+: i5 L wn ln m := by
 induction m with
 | zero => rw [Nat.le_zero.1 h]; exact List.prefix_refl _
 | succ m ih =>
  by_cases e : k = m + 1
  · rw [e]; exact List.prefix_refl _
  · rw [lX]; exact (ih (by omega)).trans (List.prefix_append _ _)
theorem P9 {L wn ln n d i k : Nat} (hd : d < n) (hi : i < wn) (hk : k <= ln) : i5 L wn ln d ++ rM L ln d i ++ rK L d i k <+: i5 L wn ln n := by
 refine List.IsPrefix.trans ?_ (JC L wn ln (Nat.succ_le_of_lt hd)); rw [lX, List.append_assoc]; refine (List.prefix_append_right_inj _).2 ?_; refine List.IsPrefix.trans ?_ (MN L ln d (Nat.succ_le_of_lt hi)); rw [nZ]; exact (List.prefix_append_right_inj _).2 (K9 L d i hk)
theorem tX (n : Nat) (Bx L : Nat) (x : Wx) (hL : x.l = (L : Int)) (hL2 : L <= 300) (hf : x.Fit) (R : World -> World -> Prop) (hR : ∀ W W', R W W' -> W.heap[Bx]? = some x.obj -> W'.heap[Bx]? = some x.obj) (w : World) (hB : w.heap[Bx]? = some x.obj) :
 SeqStopsK Fence.wide n Tryz.prog 236 #[.pointer (some ⟨Bx, 0, none⟩)] (fun c : O8 L => #[c.1.val]) R (fun ys => ys = i5 L x.wl.length x.ll.length (L + 1)) (fun pre => pre <+: i5 L x.wl.length x.ll.length (L + 1)) (i5 L x.wl.length x.ll.length (L + 1)).length w := fun lp J Jx W hW hJ _ hY h0 => by
 have hB0 : W.heap[Bx]? = some x.obj := (hW.block _ (bH hB)).trans hB; have k5 : W.cell? ⟨Bx, 5, none⟩ = some (.int .i64 (L : Int)) := by rw [← hL]; exact aK hB0 rfl
 have hwn := hf.wn; have hln := hf.ln; refine callsIn_of_wp Tryz.func236 rfl trivial ?_ rfl; simp only [Tryz.ntmps236, lsz, llc, lln, Nat.reduceAdd, Nat.reduceSub, ars, arz, lpt, lap, lna, lca]; gi_wp2; clear k5
 gi_loopw [9] (fun i wr => ∃ d : Nat, d <= L + 1 /\ i = .int .i64 d /\ J (i5 L x.wl.length x.ll.length d) wr /\ wr.heap[Bx]? = some x.obj) (fun i _ => L + 1 - (intOf i).toNat)
 case atStart => exact ⟨0, nz _, rfl, h0, hB0⟩
 case round =>
  clear hB0 h0; obtain ⟨d, hd, rfl, hJs, hBx⟩ := hrel
  by_cases hlt : d < L + 1
  · have k6 : wr.cell? ⟨Bx, 6, none⟩ = some (.slice x.wa x.wl.length x.wc) := aK hBx rfl
    have hlt' : (d : Int) < (L : Int) + 1 := by omega
    gi_wp2; clear k6
    gi_loopw [15] (fun i ws => ∃ m : Nat, m <= x.wl.length /\ i = .int .i64 m /\ J (i5 L x.wl.length x.ll.length d ++ rM L x.ll.length d m) ws /\ ws.heap[Bx]? = some x.obj) (fun i _ => x.wl.length - (intOf i).toNat)
    case atStart => exact ⟨0, nz _, rfl, by simpa [rM] using hJs, hBx⟩
    case round =>
     clear hJs hBx; obtain ⟨m, hm, rfl, hJs, hBx⟩ := hrel
     by_cases hmt : m < x.wl.length
     · have k7 : wr.cell? ⟨Bx, 7, none⟩ = some (.slice x.la x.ll.length x.lc) := aK hBx rfl
       gi_wp2; clear k7
       gi_loopw [21] (fun i ws => ∃ k : Nat, k <= x.ll.length /\ i = .int .i64 k /\ J (i5 L x.wl.length x.ll.length d ++ rM L x.ll.length d m ++ rK L d m k) ws /\ ws.heap[Bx]? = some x.obj) (fun i _ => x.ll.length - (intOf i).toNat)
       case atStart => exact ⟨0, nz _, rfl, by simpa [rK] using hJs, hBx⟩
       case round =>
        clear hJs hBx; obtain ⟨k, hk, rfl, hJs, hBx⟩ := hrel
        by_cases hkt : k < x.ll.length
        · have hpre : i5 L x.wl.length x.ll.length d ++ rM L x.ll.length d m ++ rK L d m k ++ [AA L d m k] <+: i5 L x.wl.length x.ll.length (L + 1) := by
           rw [List.append_assoc _ (rK L d m k), ← oA]; exact P9 hlt hmt hkt
          obtain ⟨fn, tmps, assign, body, hy, hRd⟩ := hY _ (AA L d m k) wr hJs (by have := hpre.length_le; simp only [List.length_append, llc, lln] at this ⊢; omega); rw [tK m k (by omega)] at hy; have HR := hRd; have HP : Hid _ := hpre; clear hRd hY hJs hpre; gi_wp2_with fail
          refine ⟨fun h => (by cases h), ?_⟩; refine RoundIn.mono HR ?_; rintro e W3 (⟨rfl, hJ3, hk3⟩ | ⟨rfl, hJx3⟩)
          · clear HR hy
            gi_wp2; refine ⟨⟨k + 1, by omega, by go_num, ?_, hR _ _ hk3 hBx⟩, by simp [intOf]; omega⟩; rw [oA, ← List.append_assoc]; exact hJ3
          · clear HR hy
            gi_wp2; refine bpr (results_none rfl _ _ _) rfl ?_; exact ⟨⟨_, rfl⟩, .inr ⟨_, HP.out, hJx3⟩⟩
        · have hke : k = x.ll.length := by omega
          gi_wp2; refine ⟨⟨m + 1, by omega, by go_num, ?_, hBx⟩, by simp [intOf]; omega⟩; rw [nZ, ← List.append_assoc, ← hke]; rw [← hke] at hJs; exact hJs
     · have hme : m = x.wl.length := by omega
       gi_wp2; refine ⟨⟨d + 1, by omega, by go_num, ?_, hBx⟩, by simp [intOf]; omega⟩; rw [lX, ← hme]; rw [← hme] at hJs; exact hJs
  · have hde : d = L + 1 := by omega
    have hlt' : ¬ (d : Int) < (L : Int) + 1 := by omega
    gi_wp2
    go_end0
    exact ⟨⟨_, rfl⟩, .inl (by rw [← hde]; exact hJs)⟩
end Go.Proofs.YtiojdbffjdoniaaGreatDoor
