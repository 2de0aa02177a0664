import Derived.Shelf.Spec.SlicesInsertGrow
import Derived.Test.YtiojdbffjdoniaaGreatDoorDq
namespace Go.Proofs.YtiojdbffjdoniaaGreatDoor
set_option maxRecDepth 100000
set_option maxHeartbeats 4000000
open Go.RowKit Go.Shelf Go.Lib
theorem oC {P : Program} (w : World) (dT sT ty elem : TypeId) (sz b o dLen dCap : Nat) (a : Addr) (sLen sCap : Nat) (cs : List Value)
 (hu : P.underlying dT = some (.slice elem)) (hs : (P.info? elem).map (·.size) = some sz) (hn : cs.length = Nat.min sLen dLen * sz)
 (hsrc : ∀ j v, cs[j]? = some v -> w.cell? (a.add j) = some v) (hc : ∀ j, j < cs.length -> (w.cell? ⟨b, o + j, none⟩).isSome = true) (hf : ∀ j, j < cs.length -> w.frozen? ⟨b, o + j, none⟩ = false) (h1 : ∀ v ∈ cs, v.oneCell' = true) :
 (Builtin.copy_ #[dT, sT] ty #[.slice (some ⟨b, o, none⟩) dLen dCap, .slice (some a) sLen sCap]).run P w = .ok (goInt (Nat.min sLen dLen)) (w.setCells b o cs) := by
 have hl := run_loadCells_list (P := P) w a cs hsrc;have hst := run_storeCells_cells (P := P) b o cs 0 w (by simpa using hc) (by simpa using hf) h1;rw [hn] at hl
 cases hq : P.info? elem with
 | none => simp [hq] at hs
 | some i =>
  have hi : i.size = sz := by simpa [hq] using hs
  simp [Builtin.copy_, run_underlying hu, Builtin.lenOf, Builtin.firstCells, sizeOf, typeInfo, hq, hi, hl, hst]
theorem yQ (g n c i V : Nat) (cs xc : List Value) (w : World) (hi : i < n) (hroom : n + 1 <= c) (hc63 : c <= 9223372036854775807) (hvb : V ≠ g)
 (hcl : cs.length = n * 3) (hvl : xc.length = 3)
 (hcs : ∀ j v, cs[j]? = some v -> w.cell? ⟨g, j, none⟩ = some v) (hsp : ∀ j, j < (n + 1) * 3 -> (w.cell? ⟨g, j, none⟩).isSome = true) (hfz : ∀ j, w.frozen? ⟨g, j, none⟩ = false)
 (hvs : ∀ j v, xc[j]? = some v -> w.cell? ⟨V, j, none⟩ = some v) (h1c : ∀ v ∈ cs, v.oneCell' = true) (h1v : ∀ v ∈ xc, v.oneCell' = true)
 (tA tB : TypeId) (kA kB : Nat) (hsa : w.shape? V = some (tA, kA)) (hsb : w.shape? g = some (tB, kB)) (hkB : kB ≠ 0) (hfa : ∀ j, w.frozen? ⟨V, j, none⟩ = false) :
 Calls Tryz.prog 158 #[.slice (some ⟨g, 0, none⟩) n c, .int .i64 i, .slice (some ⟨V, 0, none⟩) 1 1] w fun e w' =>
  e = .returned (.slice (some ⟨g, 0, none⟩) (n + 1) c) /\ w' = (w.drew.setCells g ((i + 1) * 3) (cs.drop (i * 3))).setCells g (i * 3) xc := by
 obtain ⟨i0, hi0, hz0, hzs, hzb⟩ := info_parts Tryz.info42;have mixed : Tryz.prog.follows .mixedOrders = true := by kernel_rfl
 have hz2 : ¬ ((i : Int) = (n : Int)) := by omega
 have hsz : (Tryz.prog.info? 42).map (·.size) = some 3 := by rw [hi0];simp [hzs]
 have hov : ∀ lb cb, (callFunc 206 #[.slice (some ⟨V, 0, none⟩) 1 1, .slice (some ⟨g, (i + 1) * 3, none⟩) lb cb]).run Tryz.prog w = .ok (.value (.bool false)) w := fun lb cb => by
  rw [run_callFunc_extern Tryz.func206 (by kernel_rfl) (by kernel_rfl) (by kernel_rfl) (e := Extern.SlicesOverlaps.overlaps #[27, 27] #[4]) (by kernel_rfl),
   Lib.run_overlaps_apart w 27 4 42 Tryz.underlying27 3 (fun w => by simp [Go.sizeOf, typeInfo, hi0, hzs]) ⟨V, 0, none⟩ ⟨g, (i + 1) * 3, none⟩ 1 1 lb cb hvb tA tB kA kB hsa hsb hkB (hfa 0) (hfa kA)]
  rfl
 have hw1 : IntKind.i64.wrap ((i : Int) + 1) = (i : Int) + 1 := by rw [IntKind.wrap_i64];omega
 have hw2 : IntKind.i64.wrap ((n : Int) + 1) = (n : Int) + 1 := by rw [IntKind.wrap_i64];omega
 have hb1 : (0 : Int) <= (i : Int) + 1 := by omega
 have hin : i <= n := by omega
 have htn : ((i : Int) + 1).toNat = i + 1 := by omega
 have hb2 : ¬ (c = i + 1) := by omega
 have hb3 : (i : Int) <= (n : Int) + 1 := by omega
 have hb4 : ¬ (c = i) := by omega
 have hdl : (cs.drop (i * 3)).length = (n - i) * 3 := by rw [List.length_drop, hcl];omega
 have hm1 : Nat.min (n + 1 - i) (n - i) = n - i := by simp only [Nat.min_def];split <;> omega
 have hm2 : Nat.min 1 (n + 1 - i) = 1 := by simp only [Nat.min_def];split <;> omega
 have hcp1 : ∀ ty dc sc, (Builtin.copy_ #[27, 27] ty #[.slice (some ⟨g, (i + 1) * 3, none⟩) (n - i) dc, .slice (some ⟨g, i * 3, none⟩) (n + 1 - i) sc]).run Tryz.prog w.drew = .ok (goInt (Nat.min (n + 1 - i) (n - i))) (w.drew.setCells g ((i + 1) * 3) (cs.drop (i * 3))) := fun ty dc sc =>
  oC w.drew _ _ ty 42 3 g ((i + 1) * 3) (n - i) dc ⟨g, i * 3, none⟩ (n + 1 - i) sc (cs.drop (i * 3)) Tryz.underlying27 hsz (by rw [hdl, hm1])
   (fun j v hj => by rw [Addr.add_lit];exact hcs (i * 3 + j) v (by rwa [List.getElem?_drop] at hj))
   (fun j hj => hsp _ (by rw [hdl] at hj;omega)) (fun j hj => hfz _) (fun v hv => h1c v (List.mem_of_mem_drop hv))
 obtain ⟨W1, hW1⟩ : ∃ W1, W1 = w.drew.setCells g ((i + 1) * 3) (cs.drop (i * 3)) := ⟨_, rfl⟩
 have hsp1 : ∀ k, k < (n + 1) * 3 -> (W1.cell? ⟨g, k, none⟩).isSome = true := fun k hk => by
  rw [hW1];exact isSome_setCells g (cs.drop (i * 3)) ((i + 1) * 3) w.drew (fun j hj => hsp _ (by rw [hdl] at hj;omega)) _ (hsp k hk)
 have hcp2 : ∀ (W : World), (∀ x, W.cell? x = W1.cell? x) -> (∀ x, W.frozen? x = W1.frozen? x) -> ∀ ty dc, (Builtin.copy_ #[27, 27] ty #[.slice (some ⟨g, i * 3, none⟩) (n + 1 - i) dc, .slice (some ⟨V, 0, none⟩) 1 1]).run Tryz.prog W = .ok (goInt (Nat.min 1 (n + 1 - i))) (W.setCells g (i * 3) xc) := fun W hWc hWf ty dc =>
  oC W _ _ ty 42 3 g (i * 3) (n + 1 - i) dc ⟨V, 0, none⟩ 1 1 xc Tryz.underlying27 hsz (by rw [hvl, hm2])
   (fun j v hj => by
    rw [Addr.add_lit, hWc, hW1, World.cell?_setCells_out g _ _ _ _ (fun h _ => absurd h hvb), Nat.zero_add]
    exact hvs j v hj)
   (fun j hj => by rw [hWc];exact hsp1 _ (by omega)) (fun j hj => by rw [hWf, hW1, World.frozen?_setCells];exact hfz _) h1v
 rw [← hW1] at hcp1
 go_enter Tryz.func158, Tryz.ntmps158
 go_wp2_with (simp only [hov])
 go_region_law_o (refine step_copy_runI rfl _ _ 27 27 rfl _ _ (by simp [Act.eval, Act.put]) (by simp [Act.eval, Act.put]) (hcp1 _ _ _) ?_)
 go_wp2_with (at_builtin;refine wpList_copy_runI _ rfl _ _ 27 27 rfl _ _ rfl rfl (hcp2 _ (fun _ => rfl) (fun _ => rfl) _ _) ?_)
 go_ret
 first | exact ⟨rfl, rfl⟩ | exact ⟨rfl, by rw [hW1]⟩
theorem gM {g t N : Nat} : ∀ (vs : List Value) (o : Nat) (w : World) (f : Nat -> Value), w.rowIs g t N f -> (w.setCells g o vs).rowIs g t N (fun j => if o <= j /\ j < o + vs.length then vs.getD (j - o) undef else f j)
 | [], o, w, f, h => by
  have e : (fun j => if o <= j /\ j < o + ([] : List Value).length then ([] : List Value).getD (j - o) undef else f j) = f := by
   funext j
   rw [if_neg (by simp)]
  rw [e];exact h
 | v :: r, o, w, f, h => by
  have h1 := gM r (o + 1) _ _ (h.set o v)
  have e : (fun j => if o + 1 <= j /\ j < o + 1 + r.length then r.getD (j - (o + 1)) undef else (if j = o then v else f j)) = (fun j => if o <= j /\ j < o + (v :: r).length then (v :: r).getD (j - o) undef else f j) := by
   funext j
   by_cases e1 : j = o
   · subst e1
     rw [if_neg (by omega), if_pos rfl, if_pos (by simp)]
     simp
   · by_cases e2 : o + 1 <= j /\ j < o + 1 + r.length
     · rw [if_pos e2, if_pos (by simp;omega)]
       obtain ⟨k, rfl⟩ : ∃ k, j = o + 1 + k := ⟨j - (o + 1), by omega⟩;rw [show o + 1 + k - (o + 1) = k by omega, show o + 1 + k - o = k + 1 by omega]
       simp
     · rw [if_neg e2, if_neg e1, if_neg (by simp;omega)]
  rw [e] at h1;exact h1
theorem pF {w : World} {z g t sz n c : Nat} {f : Nat -> Value} {xs : List Value} (h : w.rowIs g t (c * sz) f) (hz : z <= g) (hn : n <= c) (hc : c <= maxLen) (hl : xs.length = n * sz) (hx : ∀ j u, xs[j]? = some u -> f j = u) : w.ownsRow z t sz (.slice (some ⟨g, 0, none⟩) n c) n xs := by
 obtain ⟨cur, hg, hs, hf⟩ := h;have hle : n * sz <= c * sz := Nat.mul_le_mul_right _ hn;refine ⟨hl, .inr ⟨g, c, cur, rfl, hz, hg, hn, hc, hs, ?_⟩⟩
 apply List.ext_getElem?
 intro j
 by_cases hj : j < n * sz
 · rw [List.getElem?_take_of_lt hj, Array.getElem?_toList, hf j (by omega)]
   have hjx : j < xs.length := by omega
   rw [lge hjx];rw [hx j xs[j] (lge hjx)]
 · rw [List.getElem?_eq_none (by rw [List.length_take];omega), List.getElem?_eq_none (by omega)]
theorem GT {cs xc : List Value} {n i : Nat} (hi : i <= n) (hcl : cs.length = n * 3) (hxl : xc.length = 3) {f h : Nat -> Value} (hf : ∀ j u, cs[j]? = some u -> f j = u)
 (hh : ∀ j, j < (n + 1) * 3 -> h j = if i * 3 <= j /\ j < i * 3 + 3 then xc.getD (j - i * 3) undef else if (i + 1) * 3 <= j /\ j < (i + 1) * 3 + (n - i) * 3 then (cs.drop (i * 3)).getD (j - (i + 1) * 3) undef else f j) :
 ∀ j u, (cs.take (i * 3) ++ (xc ++ cs.drop (i * 3)))[j]? = some u -> h j = u := by
 intro j u hj;have hlen : (cs.take (i * 3) ++ (xc ++ cs.drop (i * 3))).length = (n + 1) * 3 := by simp [hcl, hxl];omega
 have hjl : j < (n + 1) * 3 := by rw [← hlen];exact (lgs.1 hj).1
 have htl : (cs.take (i * 3)).length = i * 3 := by rw [List.length_take];omega
 rw [hh j hjl]
 by_cases h1 : j < i * 3
 · rw [if_neg (by omega), if_neg (by omega)]
   rw [List.getElem?_append_left (by omega), List.getElem?_take_of_lt h1] at hj;exact hf j u hj
 · rw [List.getElem?_append_right (by omega), htl] at hj
   by_cases h2 : j < i * 3 + 3
   · rw [if_pos ⟨by omega, h2⟩]
     rw [List.getElem?_append_left (by omega)] at hj;rw [List.getD_eq_getElem?_getD, hj];rfl
   · rw [if_neg (by omega), if_pos ⟨by omega, by omega⟩]
     rw [List.getElem?_append_right (by omega), hxl] at hj;rw [show j - (i + 1) * 3 = j - i * 3 - 3 by omega, List.getD_eq_getElem?_getD, hj];rfl
theorem zZ (g n c i V : Nat) (cs xc : List Value) (w : World) (hi : i < n) (hnc : n <= c) (hroom : c < n + 1) (hn64 : n <= 64)
 (hcl : cs.length = n * 3) (hvl : xc.length = 3)
 (hcs : ∀ j v, cs[j]? = some v -> w.cell? ⟨g, j, none⟩ = some v)
 (hvs : ∀ j v, xc[j]? = some v -> w.cell? ⟨V, j, none⟩ = some v) (h1c : ∀ v ∈ cs, v.oneCell' = true) (h1v : ∀ v ∈ xc, v.oneCell' = true) :
 Calls Tryz.prog 158 #[.slice (some ⟨g, 0, none⟩) n c, .int .i64 i, .slice (some ⟨V, 0, none⟩) 1 1] w fun e w' =>
  ∃ G ROW, n + 1 <= G /\ G <= maxLen /\ ROW.size = G * 3 /\ (∀ j u, (cs.take (i * 3))[j]? = some u -> ROW.getD j undef = u) /\ e = .returned (.slice (some ⟨w.heap.size, 0, none⟩) (n + 1) G) /\
  w' = (((w.alloc (.cells ROW 42)).drew.setCells w.heap.size (i * 3) xc).drew).setCells w.heap.size ((i + 1) * 3) (cs.drop (i * 3)) := by
 obtain ⟨i0, hi0, hz0, hzs, hzb⟩ := info_parts Tryz.info42;have mixed : Tryz.prog.follows .mixedOrders = true := by kernel_rfl
 have hz2 : ¬ ((i : Int) = (n : Int)) := by omega
 have hz3 : (c : Int) < (n : Int) + 1 := by omega
 have hsz : (Tryz.prog.info? 42).map (·.size) = some 3 := by rw [hi0];simp [hzs]
 have hbw : g < w.heap.size := block_lt_of_cell (hcs 0 _ (lge (by omega)));have hvw : V < w.heap.size := block_lt_of_cell (hvs 0 _ (lge (by omega)));have hkk : (n : Int) + 1 - (i : Int) = ((n + 1 - i : Nat) : Int) := by omega
 have hik : i + (n + 1 - i) = n + 1 := by omega
 have htl : (cs.take (i * 3)).length = i * 3 := by rw [List.length_take];omega
 have hold : (Builtin.firstCells i0.size i (.slice (some ⟨g, 0, none⟩) i c)).run Tryz.prog w.drew = .ok (cs.take (i * 3)).toArray w.drew := by
  rw [hzs]
  exact run_firstCells_some w.drew 3 i ⟨g, 0, none⟩ i c (cs.take (i * 3)) htl (fun j v hj => by
   rw [Addr.add_lit, Nat.zero_add];rw [List.getElem?_take] at hj
   split at hj
   · exact hcs j v hj
   · cases hj)
 have hrz : ∀ ty, (Builtin.append_ #[27, 3] ty #[.slice (some ⟨g, 0, none⟩) i c, .int .i64 ((n : Int) + 1 - (i : Int))]).run Tryz.prog w =
  .ok (.slice (some ⟨w.heap.size, 0, none⟩) (n + 1) (grownCap w (n + 1) c 42)) (w.drew.alloc (.cells ((cs.take (i * 3)).toArray ++ Builtin.zeroCells (Value.agg #[.string ByteArray.empty, .slice none 0 0, .slice none 0 0]).cells (n + 1 - i) ++ Builtin.zeroCells (Value.agg #[.string ByteArray.empty, .slice none 0 0, .slice none 0 0]).cells (grownCap w (n + 1) c 42 - (n + 1))) 42)) := fun ty => by
  have h := Lib.run_append_grow_zeros w 27 3 ty 42 i0 _ .i64 .i64 Tryz.underlying27 Tryz.underlying3 hi0 hz0 (some ⟨g, 0, none⟩) i c (cs.take (i * 3)) hold (n + 1 - i) (by omega) (by rw [hzs];omega) (by omega) (by omega) (by rw [hzb];omega) (by rw [hzb, hik];exact growslice_fits hroom (by omega));rw [hik] at h;rw [hkk];exact h
 obtain ⟨G, hG⟩ : ∃ G, G = grownCap w (n + 1) c 42 := ⟨_, rfl⟩;obtain ⟨ROW, hROW⟩ : ∃ ROW : Array Value, ROW = (cs.take (i * 3)).toArray ++ Builtin.zeroCells (Value.agg #[.string ByteArray.empty, .slice none 0 0, .slice none 0 0]).cells (n + 1 - i) ++ Builtin.zeroCells (Value.agg #[.string ByteArray.empty, .slice none 0 0, .slice none 0 0]).cells (G - (n + 1)) := ⟨_, rfl⟩;rw [← hG] at hrz;rw [← hROW] at hrz;have hGn : n + 1 <= G := by rw [hG];exact grownCap_ge w _ _ _
 have hGm : G <= maxLen := by rw [hG];exact grownCap_le_maxLen w (n + 1) c _ (by unfold maxLen;omega)
 have hRs : ROW.size = G * 3 := by
  rw [hROW]
  simp [Builtin.zeroCells, Value.cells, htl]
  omega
 have hRt : ∀ j u, (cs.take (i * 3))[j]? = some u -> ROW.getD j undef = u := fun j u hj => by
  have hjl : j < i * 3 := by rw [← htl];exact (lgs.1 hj).1
  have e : ROW[j]? = some u := by
   rw [hROW, Array.getElem?_append_left (by simp [htl];omega), Array.getElem?_append_left (by simp [htl];omega)]
   simpa using hj
  rw [Array.getD_eq_getD_getElem?, e];rfl
 have hRl : (n + 1) * 3 <= ROW.size := by rw [hRs];omega
 obtain ⟨W1, hW1⟩ : ∃ W1, W1 = w.drew.alloc (.cells ROW 42) := ⟨_, rfl⟩;rw [← hW1] at hrz
 have hN : ∀ j, j < (n + 1) * 3 -> (W1.cell? ⟨w.heap.size, j, none⟩).isSome = true := fun j hj => by
  rw [hW1, World.cell?_alloc_at (w := w.drew) ROW _ w.heap.size j rfl, Array.getElem?_eq_getElem (by omega)];rfl
 have hNf : ∀ j, W1.frozen? ⟨w.heap.size, j, none⟩ = false := fun j => by rw [hW1];exact World.frozen?_alloc_at (w := w.drew) ROW _ w.heap.size j rfl
 have hOb : ∀ j v, w.cell? ⟨g, j, none⟩ = some v -> W1.cell? ⟨g, j, none⟩ = some v := fun j v h => by rw [hW1, World.cell?_alloc_past (w := w.drew) _ g j hbw];exact h
 have hOv : ∀ j v, w.cell? ⟨V, j, none⟩ = some v -> W1.cell? ⟨V, j, none⟩ = some v := fun j v h => by rw [hW1, World.cell?_alloc_past (w := w.drew) _ V j hvw];exact h
 have hm2 : Nat.min 1 (n + 1 - i) = 1 := by simp only [Nat.min_def];split <;> omega
 have hm1 : Nat.min (n - i) (n - i) = n - i := Nat.min_self _
 have hcpA : ∀ (W : World), (∀ x, W.cell? x = W1.cell? x) -> (∀ x, W.frozen? x = W1.frozen? x) -> ∀ ty dc, (Builtin.copy_ #[27, 27] ty #[.slice (some ⟨w.heap.size, i * 3, none⟩) (n + 1 - i) dc, .slice (some ⟨V, 0, none⟩) 1 1]).run Tryz.prog W = .ok (goInt (Nat.min 1 (n + 1 - i))) (W.setCells w.heap.size (i * 3) xc) := fun W hWc hWf ty dc =>
  oC W _ _ ty 42 3 w.heap.size (i * 3) (n + 1 - i) dc ⟨V, 0, none⟩ 1 1 xc Tryz.underlying27 hsz (by rw [hvl, hm2])
   (fun j v hj => by rw [Addr.add_lit, Nat.zero_add, hWc];exact hOv _ v (hvs j v hj))
   (fun j hj => by rw [hWc];exact hN _ (by omega)) (fun j hj => by rw [hWf];exact hNf _) h1v
 have hG63 : G <= 9223372036854775807 := by unfold maxLen at hGm;omega
 have hGi : ¬ (G = i) := by omega
 have hGim : ¬ (G = i + 1) := by omega
 have hci : ¬ (c = i) := by omega
 have hbN : g ≠ w.heap.size := by omega
 have hdl : (cs.drop (i * 3)).length = (n - i) * 3 := by rw [List.length_drop, hcl];omega
 have hcpB : ∀ (W : World), (∀ x, W.cell? x = (W1.setCells w.heap.size (i * 3) xc).cell? x) -> (∀ x, W.frozen? x = (W1.setCells w.heap.size (i * 3) xc).frozen? x) -> ∀ ty dc sc, (Builtin.copy_ #[27, 27] ty #[.slice (some ⟨w.heap.size, (i + 1) * 3, none⟩) (n - i) dc, .slice (some ⟨g, i * 3, none⟩) (n - i) sc]).run Tryz.prog W = .ok (goInt (Nat.min (n - i) (n - i))) (W.setCells w.heap.size ((i + 1) * 3) (cs.drop (i * 3))) := fun W hWc hWf ty dc sc =>
  oC W _ _ ty 42 3 w.heap.size ((i + 1) * 3) (n - i) dc ⟨g, i * 3, none⟩ (n - i) sc (cs.drop (i * 3)) Tryz.underlying27 hsz (by rw [hdl, hm1])
   (fun j v hj => by
    rw [Addr.add_lit, hWc, World.cell?_setCells_out _ _ _ _ _ (fun h _ => absurd h hbN)]
    exact hOb _ v (hcs (i * 3 + j) v (by rwa [List.getElem?_drop] at hj)))
   (fun j hj => by rw [hWc];exact isSome_setCells _ xc (i * 3) W1 (fun t ht => hN _ (by rw [hvl] at ht;omega)) _ (hN _ (by rw [hdl] at hj;omega)))
   (fun j hj => by rw [hWf, World.frozen?_setCells];exact hNf _) (fun v hv => h1c v (List.mem_of_mem_drop hv))
 subst hW1;have hE1 : ∀ x, ((w.alloc (.cells ROW 42)).drew).cell? x = (w.drew.alloc (.cells ROW 42)).cell? x := fun x => rfl;have hE2 : ∀ x, ((w.alloc (.cells ROW 42)).drew).frozen? x = (w.drew.alloc (.cells ROW 42)).frozen? x := fun x => rfl;have hF1 : ∀ x, (((w.alloc (.cells ROW 42)).drew.setCells w.heap.size (i * 3) xc).drew).cell? x = ((w.drew.alloc (.cells ROW 42)).setCells w.heap.size (i * 3) xc).cell? x := fun x => rfl;have hF2 : ∀ x, (((w.alloc (.cells ROW 42)).drew.setCells w.heap.size (i * 3) xc).drew).frozen? x = ((w.drew.alloc (.cells ROW 42)).setCells w.heap.size (i * 3) xc).frozen? x := fun x => rfl;have hw1 : IntKind.i64.wrap ((i : Int) + 1) = (i : Int) + 1 := by rw [IntKind.wrap_i64];omega
 have hb1 : (0 : Int) <= (i : Int) + 1 := by omega
 have hin : i <= n := by omega
 have htn : ((i : Int) + 1).toNat = i + 1 := by omega
 have hb3 : (i : Int) <= (n : Int) := by omega
 have HFin : Hid (n + 1 <= G /\ G <= maxLen /\ ROW.size = G * 3 /\ (∀ j u, (cs.take (i * 3))[j]? = some u -> ROW.getD j undef = u)) := ⟨hGn, hGm, hRs, hRt⟩;clear hkk hik hold hROW hG hRl hRs hRt htl
 go_enter Tryz.func158, Tryz.ntmps158
 go_wp2_with (first
  | (at_builtin;refine Lib.wpList_append_run _ rfl _ _ _ _ rfl _ _ rfl rfl _ _ (hrz _) ?_)
  | (at_builtin;refine wpList_copy_runI _ rfl _ _ 27 27 rfl _ _ rfl rfl (hcpA _ hE1 hE2 _ _) ?_))
 go_region_law_o (refine step_copy_runI rfl _ _ 27 27 rfl (.slice (some ⟨w.heap.size, (i + 1) * 3, none⟩) (n - i) (G - (i + 1))) (.slice (some ⟨g, i * 3, none⟩) (n - i) (c - i)) (by simp [Act.eval, Act.put]) (by simp [Act.eval, Act.put]) (hcpB _ hF1 hF2 3 (G - (i + 1)) (c - i)) ?_)
 go_wp2
 go_ret;exact ⟨G, ROW, HFin.out.1, HFin.out.2.1, HFin.out.2.2.1, HFin.out.2.2.2, rfl, rfl⟩
theorem vA (z n c V : Nat) (ha : Option Addr) (cs xc : List Value) (w : World) (hn64 : n <= 64) (hc63 : c <= 9223372036854775807) (hvl : xc.length = 3) (hzw : z <= w.heap.size) (hg : ∀ a, ha = some a -> a.off = 0 /\ a.spot = none)
 (hown : w.ownsRow z 42 3 (.slice ha n c) n cs) (hvs : ∀ j v, xc[j]? = some v -> w.cell? ⟨V, j, none⟩ = some v) (h1v : ∀ v ∈ xc, v.oneCell' = true) :
 Calls Tryz.prog 158 #[.slice ha n c, .int .i64 n, .slice (some ⟨V, 0, none⟩) 1 1] w fun e w' =>
  ∃ v', e = .returned v' /\ w'.ownsRow z 42 3 v' (n + 1) (cs ++ xc) /\ w.grownBy w' (Value.slice ha n c).ownBlock := by
 obtain ⟨i0, hi0, hz0, hzs, hzb⟩ := info_parts Tryz.info42
 cases ha with
 | none =>
  obtain ⟨rfl, rfl⟩ : n = 0 /\ c = 0 := by
   obtain ⟨_, ⟨e, h⟩ | ⟨g, cap, cur, e, _⟩⟩ := hown
   · cases e;exact ⟨rfl, rfl⟩
   · cases e
  go_enter Tryz.func158, Tryz.ntmps158
  go_wp2_with (at_builtin;refine wpList_append_own _ rfl (.tmp 23) (.tmp 24) 27 rfl z 42 i0 _ 3 64 Tryz.underlying27 hi0 hz0 hzs hzb rfl (by decide) _ _ _ rfl hown ⟨V, 0, none⟩ 1 1 xc rfl hvl ?qc1 h1v ?qc3 ?qc4 hzw ?_)
  case qc1 => exact fun j v hj => by rw [Addr.add_lit, Nat.zero_add];exact hvs j v hj
  case qc3 => unfold maxLen;omega
  case qc4 => omega
  intro v' w1 hown' hgrow _;have HO : Hid _ := hown';have HG : Hid _ := hgrow;clear hown' hgrow hown;go_wp2
  go_ret;exact ⟨_, rfl, HO.out, HG.out⟩
 | some a =>
  obtain ⟨g, o, sp⟩ := a;obtain ⟨rfl, rfl⟩ := hg _ rfl
  by_cases hcn : c = n
  · subst hcn
    go_enter Tryz.func158, Tryz.ntmps158
    go_wp2_with (at_builtin;refine wpList_append_own _ rfl (.tmp 23) (.tmp 24) 27 rfl z 42 i0 _ 3 64 Tryz.underlying27 hi0 hz0 hzs hzb rfl (by decide) _ _ _ rfl hown ⟨V, 0, none⟩ 1 1 xc rfl hvl ?qc1 h1v ?qc3 ?qc4 hzw ?_)
    case qc1 => exact fun j v hj => by rw [Addr.add_lit, Nat.zero_add];exact hvs j v hj
    case qc3 => unfold maxLen;omega
    case qc4 => omega
    intro v' w1 hown' hgrow _;have HO : Hid _ := hown';have HG : Hid _ := hgrow;clear hown' hgrow hown;go_wp2
    go_ret;exact ⟨_, rfl, HO.out, HG.out⟩
  · have hle : n <= c := by
     obtain ⟨_, ⟨e, h⟩ | ⟨g, cap, cur, e, _, _, h, _⟩⟩ := hown
     · cases e
     · cases e;exact h
    have hb3 : (n : Int) <= (c : Int) := by omega
    go_enter Tryz.func158, Tryz.ntmps158
    go_wp2_with (at_builtin;refine wpList_append_own _ rfl (.tmp 23) (.tmp 24) 27 rfl z 42 i0 _ 3 64 Tryz.underlying27 hi0 hz0 hzs hzb rfl (by decide) _ _ _ rfl hown ⟨V, 0, none⟩ 1 1 xc rfl hvl ?qc1 h1v ?qc3 ?qc4 hzw ?_)
    case qc1 => exact fun j v hj => by rw [Addr.add_lit, Nat.zero_add];exact hvs j v hj
    case qc3 => unfold maxLen;omega
    case qc4 => omega
    intro v' w1 hown' hgrow _;have HO : Hid _ := hown';have HG : Hid _ := hgrow;clear hown' hgrow hown;go_wp2
    go_ret;exact ⟨_, rfl, HO.out, HG.out⟩
theorem gC (g : Nat) : ∀ (vs : List Value) (o : Nat) (w : World), w.grownBy (w.setCells g o vs) (some g)
 | [], _, w => ⟨rfl, rfl, rfl, nlq _, fun _ _ _ => rfl⟩
 | v :: r, o, w => by
  have h := gC g r (o + 1) (w.setCell ⟨g, o, none⟩ v);have hs : (w.setCell ⟨g, o, none⟩ v).heap.size = w.heap.size := by simp
  refine ⟨h.os, h.tape, h.output, by have := h.size;rw [hs] at this;exact this, fun k hk hne => ?_⟩;refine (h.block k (by rw [hs];exact hk) hne).trans ?_;exact ((cA.refl (fun q => q = g) w).set (g := g) rfl o v).block k hk (fun e => hne (by rw [e]))
theorem MH (l : List Hx) (x : Hx) (i : Nat) (hi : i <= l.length) : aN Hx.cells (l.take i ++ x :: l.drop i) = (aN Hx.cells l).take (i * 3) ++ (x.cells ++ (aN Hx.cells l).drop (i * 3)) := by
 have h := List.take_append_drop i l;have hl : (aN Hx.cells (l.take i)).length = i * 3 := by rw [cV Hx.cells_length, List.length_take];congr 1;omega
 have e : aN Hx.cells l = aN Hx.cells (l.take i) ++ aN Hx.cells (l.drop i) := by rw [← eS, h]
 have t1 : (aN Hx.cells l).take (i * 3) = aN Hx.cells (l.take i) := by rw [e, ← hl];exact List.take_left
 have t2 : (aN Hx.cells l).drop (i * 3) = aN Hx.cells (l.drop i) := by rw [e, ← hl];exact List.drop_left
 rw [t1, t2, eS]
 simp [aN]
theorem DT (z : Nat) (l : List Hx) (ha : Option Addr) (hc i V : Nat) (x : Hx) (w : World) (hO : bJ 42 3 Hx.cells w z (.slice ha l.length hc) l) (hcap : hc <= maxLen) (hi : i <= l.length) (hn : l.length <= 64)
 (hV : w.heap[V]? = some (.cells #[.string x.n, .slice x.ta x.tl.length x.tc, .slice x.na x.nl.length x.nc] 42)) (hVg : ha.map Addr.block ≠ some V) (hzw : z <= w.heap.size) :
 Calls Tryz.prog 158 #[.slice ha l.length hc, .int .i64 i, .slice (some ⟨V, 0, none⟩) 1 1] w fun e w' =>
  ∃ a' c', e = .returned (.slice a' (l.length + 1) c') /\ bJ 42 3 Hx.cells w' z (.slice a' (l.length + 1) c') (l.take i ++ x :: l.drop i) /\ c' <= maxLen /\ cA (fun k => ha.map Addr.block = some k) w w' := by
 have hlen : (l.take i ++ x :: l.drop i).length = l.length + 1 := by simp;omega
 have hvs : ∀ j v, x.cells[j]? = some v -> w.cell? ⟨V, j, none⟩ = some v := fun j v hj => by
  match j, hj with
  | 0, hj => simp [Hx.cells] at hj;subst hj;exact aH hV rfl
  | 1, hj => simp [Hx.cells] at hj;subst hj;exact aH hV rfl
  | 2, hj => simp [Hx.cells] at hj;subst hj;exact aH hV rfl
 have hfin : ∀ (v' : Value) (w' : World), w'.ownsRow z 42 3 v' (l.length + 1) (aN Hx.cells (l.take i ++ x :: l.drop i)) -> (w.grownBy w' (ha.map Addr.block)) -> ∃ a' c', Ending.returned v' = .returned (.slice a' (l.length + 1) c') /\ bJ 42 3 Hx.cells w' z (.slice a' (l.length + 1) c') (l.take i ++ x :: l.drop i) /\ c' <= maxLen /\ cA (fun k => ha.map Addr.block = some k) w w' := fun v' w' ho hg => by
  have hX : bJ 42 3 Hx.cells w' z v' (l.take i ++ x :: l.drop i) := iB Hx.cells_length (by rw [hlen];exact ho);obtain ⟨a', c', e⟩ := hX.slice;rw [hlen] at e;subst e;exact ⟨a', c', rfl, hX, jH ho _ _ _ rfl, ⟨hg.os, hg.tape, hg.output, hg.size, fun k hk hs => hg.block k hk (fun e => hs e.symm)⟩⟩
 have hnil : ∀ {w : World} {n c : Nat} {cs : List Value}, w.ownsRow z 42 3 (.slice ha n c) n cs -> (Value.slice ha n c).ownBlock = ha.map Addr.block := fun _ => by cases ha <;> rfl
 have hflat := MH l x i hi
 rcases hO with ⟨e, rfl⟩ | ⟨g, cap, e, h1, h2, f, hr, hf⟩
 · cases e
   obtain rfl : i = 0 := by simpa using hi
   refine (vA z 0 0 V none [] x.cells w (by omega) (by omega) rfl hzw (fun a e => by cases e) (World.ownsRow_nil _ _ _ _) hvs (jI x)).mono ?_;rintro e w' ⟨v', rfl, ho, hg⟩;exact hfin v' w' (by rw [hflat];simpa [aN] using ho) hg
 · cases e
   have hcs : ∀ j u, (aN Hx.cells l)[j]? = some u -> w.cell? ⟨g, j, none⟩ = some u := fun j u hj => by
    have hx := fE.xs (⟨f, hr, hf⟩ : fE 42 3 Hx.cells w g hc l l.length) Hx.cells_length (nlq _) h2
    rcases hx with e | ⟨bl, off, e, hc'⟩
    · rw [e] at hj;simp [aN] at hj
    · cases e
      have := n9 Hx.cells_length (by decide) hc' j u hj
      rwa [Addr.add_lit, Nat.zero_add] at this
   have hcl := cV Hx.cells_length l
   have hfj : ∀ j u, (aN Hx.cells l)[j]? = some u -> f j = u := fun j u hj => by
    have h3 := hcs j u hj;have hjl : j < l.length * 3 := by rw [← hcl];exact (lgs.1 hj).1
    rw [hr.cell (i := j) (by omega)] at h3;exact Option.some.inj h3
   have hvg : V ≠ g := fun e => hVg (by rw [e];rfl);have h1c := jK jI l;have hmx : hc <= 9223372036854775807 := by unfold maxLen at hcap;omega
   by_cases hin : i = l.length
   · subst hin
     refine (vA z l.length hc V (some ⟨g, 0, none⟩) (aN Hx.cells l) x.cells w hn hmx rfl hzw (fun a e => by cases e;exact ⟨rfl, rfl⟩) (pF hr h1 h2 hcap hcl hfj) hvs (jI x)).mono ?_;rintro e w' ⟨v', rfl, ho, hg⟩;refine hfin v' w' ?_ hg;rw [hflat, ltl (by omega), List.drop_eq_nil_of_le (by omega), List.append_nil];exact ho
   · have hlt : i < l.length := by omega
     by_cases hroom : l.length + 1 <= hc
     · have hsb : w.shape? g = some (42, hc * 3) := by
        obtain ⟨cur, e1, e2, _⟩ := hr
        simp [World.shape?, e1, e2]
       refine (yQ g l.length hc i V (aN Hx.cells l) x.cells w hlt hroom hmx hvg hcl rfl hcs (fun j hj => by rw [hr.cell (i := j) (by omega)];rfl) (fun j => hr.frozen j) hvs h1c (jI x) 42 42 3 (hc * 3) (by simp [World.shape?, hV]) hsb (by omega) (fun j => by simp [World.frozen?, hV])).mono ?_;rintro e w' ⟨rfl, rfl⟩;have r0 : w.drew.rowIs g 42 (hc * 3) f := hr;have r1 := gM ((aN Hx.cells l).drop (i * 3)) ((i + 1) * 3) _ _ r0;have r2 := gM x.cells (i * 3) _ _ r1;have hdl : ((aN Hx.cells l).drop (i * 3)).length = (l.length - i) * 3 := by rw [List.length_drop, hcl];omega
       have ho := pF (z := z) (n := l.length + 1) (xs := aN Hx.cells (l.take i ++ x :: l.drop i)) r2 h1 hroom hcap (by rw [cV Hx.cells_length, hlen]) (by
        rw [hflat]
        exact GT hi hcl rfl hfj (fun j hj => by rw [hdl];rfl))
       refine hfin _ _ ho ?_;have g1 := gC g ((aN Hx.cells l).drop (i * 3)) ((i + 1) * 3) w.drew;have g2 := gC g x.cells (i * 3) (w.drew.setCells g ((i + 1) * 3) ((aN Hx.cells l).drop (i * 3)));exact ⟨g2.os.trans g1.os, g2.tape.trans g1.tape, g2.output.trans g1.output, Nat.le_trans g1.size g2.size, fun k hk hne => (g2.block k (Nat.lt_of_lt_of_le hk g1.size) hne).trans (g1.block k hk hne)⟩
     · refine (zZ g l.length hc i V (aN Hx.cells l) x.cells w hlt h2 (by omega) hn hcl rfl hcs hvs h1c (jI x)).mono ?_
       rintro e w' ⟨G, ROW, q1, q2, q3, q4, rfl, rfl⟩;have r0 : (w.alloc (.cells ROW 42)).drew.rowIs w.heap.size 42 (G * 3) (fun j => ROW.getD j undef) := ⟨ROW, wnq w _, q3, fun j hj => by simp [q3, hj]⟩;have r1 := gM x.cells (i * 3) _ _ r0;have r1' : ((w.alloc (.cells ROW 42)).drew.setCells w.heap.size (i * 3) x.cells).drew.rowIs w.heap.size 42 (G * 3) _ := r1;have r2 := gM ((aN Hx.cells l).drop (i * 3)) ((i + 1) * 3) _ _ r1';have hdl : ((aN Hx.cells l).drop (i * 3)).length = (l.length - i) * 3 := by rw [List.length_drop, hcl];omega
       have ho := pF (z := z) (n := l.length + 1) (xs := aN Hx.cells (l.take i ++ x :: l.drop i)) r2 hzw q1 q2 (by rw [cV Hx.cells_length, hlen]) (by
        rw [hflat];intro j u hj;refine GT (f := fun j => if j < i * 3 then ROW.getD j undef else f j) (h := fun j => if (i + 1) * 3 <= j /\ j < (i + 1) * 3 + ((aN Hx.cells l).drop (i * 3)).length then ((aN Hx.cells l).drop (i * 3)).getD (j - (i + 1) * 3) undef else if i * 3 <= j /\ j < i * 3 + x.cells.length then x.cells.getD (j - i * 3) undef else ROW.getD j undef) hi hcl rfl (fun j u hj => ?_) (fun j hj => ?_) j u hj
        · by_cases e : j < i * 3
          · show (if j < i * 3 then ROW.getD j undef else f j) = u
            rw [if_pos e];exact q4 j u (by rw [List.getElem?_take_of_lt e];exact hj)
          · show (if j < i * 3 then ROW.getD j undef else f j) = u
            rw [if_neg e];exact hfj j u hj
        · simp only [hdl]
          show (if (i + 1) * 3 <= j /\ j < (i + 1) * 3 + (l.length - i) * 3 then _ else if i * 3 <= j /\ j < i * 3 + 3 then x.cells.getD (j - i * 3) undef else ROW.getD j undef) = _
          by_cases c1 : i * 3 <= j /\ j < i * 3 + 3
          · rw [if_neg (by omega), if_pos c1, if_pos c1]
          · rw [if_neg c1, if_neg c1]
            by_cases c2 : (i + 1) * 3 <= j /\ j < (i + 1) * 3 + (l.length - i) * 3
            · rw [if_pos c2, if_pos c2]
            · rw [if_neg c2, if_neg c2, if_pos (by omega)])
       refine hfin _ _ ho ?_;have g1 := gC w.heap.size x.cells (i * 3) (w.alloc (.cells ROW 42)).drew;have g2 := gC w.heap.size ((aN Hx.cells l).drop (i * 3)) ((i + 1) * 3) (((w.alloc (.cells ROW 42)).drew.setCells w.heap.size (i * 3) x.cells).drew);have ha0 : Below w.heap.size w (w.alloc (.cells ROW 42)) := aB (br _ _) _;have hs0 : w.heap.size < (w.alloc (.cells ROW 42)).heap.size := by simp
       exact ⟨g2.os.trans (g1.os.trans ha0.os), g2.tape.trans (g1.tape.trans ha0.tape), g2.output.trans (g1.output.trans ha0.output), Nat.le_trans ha0.size (Nat.le_trans g1.size g2.size), fun k hk hne => (g2.block k (Nat.lt_of_lt_of_le hk (Nat.le_trans ha0.size g1.size)) (fun e => by cases e;omega)).trans ((g1.block k (Nat.lt_of_lt_of_le hk ha0.size) (fun e => by cases e;omega)).trans (ha0.block k hk))⟩
end Go.Proofs.YtiojdbffjdoniaaGreatDoor
