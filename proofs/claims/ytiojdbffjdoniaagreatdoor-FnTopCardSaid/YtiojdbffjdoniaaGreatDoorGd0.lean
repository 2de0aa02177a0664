import Derived.Test.YtiojdbffjdoniaaGreatDoorFe
import Derived.Test.YtiojdbffjdoniaaGreatDoorGa
import Derived.Deep.DeepCutAuto
import Derived.Deep.CutBlock
namespace Go.Proofs.YtiojdbffjdoniaaGreatDoor
open Go.RowKit Go.Shelf
attribute [local go_sem] Oper.semAt_some
def QI (A k : Nat) (y : Hx) (h0 h4 h12 : Value) : Nat -> Option Value
 | 1 | 9 | 14 => some (.pointer (some ⟨A, 2, none⟩))
 | 2 | 10 => some h0
 | 3 | 11 => some (.int .i64 (k : Int))
 | 4 => some h4
 | 6 => some y.val
 | 12 => some h12
 | _ => none
structure K6 (Wd : World) (A k : Nat) (l : List Hx) (y : Hx) (h0 h4 h12 : Value) (L : Nat -> Prop) (vs : Nat -> Value) (w' : World) : Prop where
 c : ∀ j v, QI A k y h0 h4 h12 j = some v -> L j -> vs j = v
 v0 : L 0 -> ∃ p, vs 0 = .slice (some ⟨p, 0, none⟩) 0 0 /\ Wd.heap.size <= p /\ (¬ L 5 -> w'.heap[p]? = some (.cells #[] 42))
 v5 : L 5 -> ¬ L 8 -> w'.ownsRow Wd.heap.size 42 3 (vs 5) k (aN Hx.cells (l.take k))
 v7 : L 7 -> ∃ V, vs 7 = .slice (some ⟨V, 0, none⟩) 1 1 /\ (¬ L 8 -> w'.heap[V]? = some (.cells #[.string y.n, .slice y.ta y.tl.length y.tc, .slice y.na y.nl.length y.nc] 42))
 v8 : L 8 -> ¬ L 13 -> w'.ownsRow Wd.heap.size 42 3 (vs 8) (k + 1) (aN Hx.cells (l.take k) ++ y.cells)
 v13 : L 13 -> ¬ L 15 -> w'.ownsRow Wd.heap.size 42 3 (vs 13) (l.length + 1) (aN Hx.cells (l.take k) ++ y.cells ++ aN Hx.cells (l.drop k))
 w15 : L 15 -> ∃ w0, Below Wd.heap.size Wd w0 /\ w0.ownsRow Wd.heap.size 42 3 (vs 13) (l.length + 1) (aN Hx.cells (l.take k) ++ y.cells ++ aN Hx.cells (l.drop k)) /\ w' = w0.setCell ⟨A, 2, none⟩ (vs 13)
 bw : ¬ L 15 -> Below Wd.heap.size Wd w'
theorem K6.ext {Wd : World} {A k : Nat} {l : List Hx} {y : Hx} {h0 h4 h12 : Value} (L L' : Nat -> Prop) (vs : Nat -> Value) (w' : World) (h : ∀ j, L j ↔ L' j) (q : K6 Wd A k l y h0 h4 h12 L vs w') : K6 Wd A k l y h0 h4 h12 L' vs w' := by
 obtain rfl : L = L' := funext fun j => propext (h j);exact q
theorem K6.zL {Wd : World} {A k : Nat} {l : List Hx} {y : Hx} {h0 h4 h12 : Value} {L : Nat -> Prop} {vs : Nat -> Value} {w' w'' : World} (q : K6 Wd A k l y h0 h4 h12 L vs w') (h15 : ¬ L 15) (hb : Below w'.heap.size w' w'') : K6 Wd A k l y h0 h4 h12 L vs w'' :=
 ⟨q.c, fun h => by obtain ⟨p, e, h1, h2⟩ := q.v0 h;exact ⟨p, e, h1, fun h5 => bD (h2 h5) hb⟩, fun h g => nW (q.v5 h g) hb, fun h => by obtain ⟨V, e, h2⟩ := q.v7 h;exact ⟨V, e, fun h5 => bD (h2 h5) hb⟩, fun h g => nW (q.v8 h g) hb, fun h g => nW (q.v13 h g) hb, fun h => absurd h h15, fun h => aD (q.bw h) hb⟩
theorem K6.cc {Wd : World} {A k : Nat} {l : List Hx} {y : Hx} {h0 h4 h12 : Value} {L : Nat -> Prop} {vs : Nat -> Value} {w' : World} (q : K6 Wd A k l y h0 h4 h12 L vs w') (i : Nat) (v : Value) (hi : ∀ u, QI A k y h0 h4 h12 i = some u -> u = v) : ∀ j u, QI A k y h0 h4 h12 j = some u -> (L j ∨ j = i) -> aI vs i v j = u := fun j u e h => by
 by_cases hj : j = i
 · subst hj;rw [hi u e];simp [aI]
 · rw [show aI vs i v j = vs j from by simp [aI, hj]];exact q.c j u e (h.resolve_right hj)
theorem K6.addc {Wd : World} {A k : Nat} {l : List Hx} {y : Hx} {h0 h4 h12 : Value} {L : Nat -> Prop} {vs : Nat -> Value} {w' : World} (q : K6 Wd A k l y h0 h4 h12 L vs w') (i : Nat) {v : Value} (hv : QI A k y h0 h4 h12 i = some v) : K6 Wd A k l y h0 h4 h12 (fun j => L j ∨ j = i) (aI vs i v) w' := by
 have n : ∀ m, QI A k y h0 h4 h12 m = none -> m ≠ i := fun m hm e => by rw [e, hv] at hm;cases hm
 have u : ∀ m, QI A k y h0 h4 h12 m = none -> aI vs i v m = vs m := fun m hm => by simp [aI, n m hm]
 refine ⟨q.cc i v (fun u e => by rw [hv] at e;cases e;rfl), fun h => ?_, fun h g => ?_, fun h => ?_, fun h g => ?_, fun h g => ?_, fun h => ?_, fun h => q.bw (fun s => h (.inl s))⟩
 · rw [u 0 rfl];obtain ⟨p, e, h1, h2⟩ := q.v0 (h.resolve_right (n 0 rfl));exact ⟨p, e, h1, fun h5 => h2 (fun s => h5 (.inl s))⟩
 · rw [u 5 rfl];exact q.v5 (h.resolve_right (n 5 rfl)) (fun s => g (.inl s))
 · rw [u 7 rfl];obtain ⟨V, e, h2⟩ := q.v7 (h.resolve_right (n 7 rfl));exact ⟨V, e, fun h5 => h2 (fun s => h5 (.inl s))⟩
 · rw [u 8 rfl];exact q.v8 (h.resolve_right (n 8 rfl)) (fun s => g (.inl s))
 · rw [u 13 rfl];exact q.v13 (h.resolve_right (n 13 rfl)) (fun s => g (.inl s))
 · rw [u 13 rfl];exact q.w15 (h.resolve_right (n 15 rfl))
theorem K6.add0 {Wd : World} {A k : Nat} {l : List Hx} {y : Hx} {h0 h4 h12 : Value} {L : Nat -> Prop} {vs : Nat -> Value} {w' : World} {v : Value} (q : K6 Wd A k l y h0 h4 h12 L vs w') (hv : ∃ p, v = .slice (some ⟨p, 0, none⟩) 0 0 /\ Wd.heap.size <= p /\ w'.heap[p]? = some (.cells #[] 42)) : K6 Wd A k l y h0 h4 h12 (fun j => L j ∨ j = 0) (aI vs 0 v) w' :=
 ⟨q.cc 0 v (fun _ e => by cases e), fun _ => by obtain ⟨p, e, h1, h2⟩ := hv;exact ⟨p, e, h1, fun _ => h2⟩, fun h g => q.v5 (tJ h) (fun s => g (.inl s)), fun h => by obtain ⟨V, e, h2⟩ := q.v7 (tJ h);exact ⟨V, e, fun h5 => h2 (fun s => h5 (.inl s))⟩, fun h g => q.v8 (tJ h) (fun s => g (.inl s)), fun h g => q.v13 (tJ h) (fun s => g (.inl s)), fun h => q.w15 (tJ h), fun h => q.bw (fun s => h (.inl s))⟩
theorem K6.add5 {Wd : World} {A k : Nat} {l : List Hx} {y : Hx} {h0 h4 h12 : Value} {L : Nat -> Prop} {vs : Nat -> Value} {w' : World} {v : Value} (q : K6 Wd A k l y h0 h4 h12 L vs w') (hv : w'.ownsRow Wd.heap.size 42 3 v k (aN Hx.cells (l.take k))) : K6 Wd A k l y h0 h4 h12 (fun j => L j ∨ j = 5) (aI vs 5 v) w' :=
 ⟨q.cc 5 v (fun _ e => by cases e), fun h => by obtain ⟨p, e, h1, h2⟩ := q.v0 (tJ h);exact ⟨p, e, h1, fun h5 => absurd (.inr rfl) h5⟩, fun _ _ => hv, fun h => by obtain ⟨V, e, h2⟩ := q.v7 (tJ h);exact ⟨V, e, fun h5 => h2 (fun s => h5 (.inl s))⟩, fun h g => q.v8 (tJ h) (fun s => g (.inl s)), fun h g => q.v13 (tJ h) (fun s => g (.inl s)), fun h => q.w15 (tJ h), fun h => q.bw (fun s => h (.inl s))⟩
theorem K6.add7 {Wd : World} {A k : Nat} {l : List Hx} {y : Hx} {h0 h4 h12 : Value} {L : Nat -> Prop} {vs : Nat -> Value} {w' : World} {v : Value} (q : K6 Wd A k l y h0 h4 h12 L vs w') (hv : ∃ V, v = .slice (some ⟨V, 0, none⟩) 1 1 /\ w'.heap[V]? = some (.cells #[.string y.n, .slice y.ta y.tl.length y.tc, .slice y.na y.nl.length y.nc] 42)) : K6 Wd A k l y h0 h4 h12 (fun j => L j ∨ j = 7) (aI vs 7 v) w' :=
 ⟨q.cc 7 v (fun _ e => by cases e), fun h => by obtain ⟨p, e, h1, h2⟩ := q.v0 (tJ h);exact ⟨p, e, h1, fun h5 => h2 (fun s => h5 (.inl s))⟩, fun h g => q.v5 (tJ h) (fun s => g (.inl s)), fun _ => by obtain ⟨V, e, h2⟩ := hv;exact ⟨V, e, fun _ => h2⟩, fun h g => q.v8 (tJ h) (fun s => g (.inl s)), fun h g => q.v13 (tJ h) (fun s => g (.inl s)), fun h => q.w15 (tJ h), fun h => q.bw (fun s => h (.inl s))⟩
theorem K6.add8 {Wd : World} {A k : Nat} {l : List Hx} {y : Hx} {h0 h4 h12 : Value} {L : Nat -> Prop} {vs : Nat -> Value} {w' w'' : World} {v : Value} (q : K6 Wd A k l y h0 h4 h12 L vs w') (h5 : L 5) (h13 : ¬ L 13) (h15 : ¬ L 15) (hv : w''.ownsRow Wd.heap.size 42 3 v (k + 1) (aN Hx.cells (l.take k) ++ y.cells)) (hb : Below Wd.heap.size Wd w'') : K6 Wd A k l y h0 h4 h12 (fun j => L j ∨ j = 8) (aI vs 8 v) w'' :=
 ⟨q.cc 8 v (fun _ e => by cases e), fun h => by obtain ⟨p, e, h1, _⟩ := q.v0 (tJ h);exact ⟨p, e, h1, fun g => absurd (.inl h5) g⟩, fun _ g => absurd (.inr rfl) g, fun h => by obtain ⟨V, e, _⟩ := q.v7 (tJ h);exact ⟨V, e, fun g => absurd (.inr rfl) g⟩, fun _ _ => hv, fun h => absurd (tJ h) h13, fun h => absurd (tJ h) h15, fun _ => hb⟩
theorem K6.add13 {Wd : World} {A k : Nat} {l : List Hx} {y : Hx} {h0 h4 h12 : Value} {L : Nat -> Prop} {vs : Nat -> Value} {w' w'' : World} {v : Value} (q : K6 Wd A k l y h0 h4 h12 L vs w') (h5 : L 5) (h8 : L 8) (h15 : ¬ L 15) (hv : w''.ownsRow Wd.heap.size 42 3 v (l.length + 1) (aN Hx.cells (l.take k) ++ y.cells ++ aN Hx.cells (l.drop k))) (hb : Below Wd.heap.size Wd w'') : K6 Wd A k l y h0 h4 h12 (fun j => L j ∨ j = 13) (aI vs 13 v) w'' :=
 ⟨q.cc 13 v (fun _ e => by cases e), fun h => by obtain ⟨p, e, h1, _⟩ := q.v0 (tJ h);exact ⟨p, e, h1, fun g => absurd (.inl h5) g⟩, fun _ g => absurd (.inl h8) g, fun h => by obtain ⟨V, e, _⟩ := q.v7 (tJ h);exact ⟨V, e, fun g => absurd (.inl h8) g⟩, fun _ g => absurd (.inr rfl) g, fun _ _ => hv, fun h => absurd (tJ h) h15, fun _ => hb⟩
theorem K6.add15 {Wd : World} {A k : Nat} {l : List Hx} {y : Hx} {h0 h4 h12 : Value} {L : Nat -> Prop} {vs : Nat -> Value} {w' : World} {v : Value} (q : K6 Wd A k l y h0 h4 h12 L vs w') (h5 : L 5) (h8 : L 8) (h13 : L 13) (h15 : ¬ L 15) : K6 Wd A k l y h0 h4 h12 (fun j => L j ∨ j = 15) (aI vs 15 v) (w'.setCell ⟨A, 2, none⟩ (vs 13)) :=
 ⟨q.cc 15 v (fun _ e => by cases e), fun h => by obtain ⟨p, e, h1, _⟩ := q.v0 (tJ h);exact ⟨p, e, h1, fun g => absurd (.inl h5) g⟩, fun _ g => absurd (.inl h8) g, fun h => by obtain ⟨V, e, _⟩ := q.v7 (tJ h);exact ⟨V, e, fun g => absurd (.inl h8) g⟩, fun _ g => absurd (.inl h13) g, fun _ g => absurd (.inr rfl) g, fun _ => ⟨w', q.bw h15, q.v13 h13 h15, rfl⟩, fun h => absurd (.inr rfl) h⟩
set_option maxRecDepth 100000
set_option maxHeartbeats 16000000
open Go.BigFrame
def kJ (l : List Hx) (nm : ByteArray) : Nat := (l.takeWhile (fun h => eU h.n nm)).length
def jS (l : List Hx) (y : Hx) : List Hx := l.take (kJ l y.n) ++ y :: l.drop (kJ l y.n)
theorem yR {l : List Hx} {nm : ByteArray} {k : Nat} (hk : k <= l.length) (hlo : ∀ j (h : j < l.length), j < k -> eU l[j].n nm = true) (hhi : ∀ h : k < l.length, eU l[k].n nm = false) : kJ l nm = k := by
 induction l generalizing k with
 | nil => simp at hk;subst hk;rfl
 | cons a r ih =>
  cases k with
  | zero =>
   have := hhi (by simp);simp only [List.getElem_cons_zero] at this
   simp [kJ, this]
  | succ m =>
   have h0 := hlo 0 (by simp) (by omega);simp only [List.getElem_cons_zero] at h0;have := ih (k := m) (by simpa using hk) (fun j h hj => by have := hlo (j + 1) (by simpa using h) (by omega);simpa using this) (fun h => by have := hhi (by simpa using h);simpa using this);simp only [kJ] at this ⊢
   simp [h0, this]
theorem MW {w W : World} {g cap k : Nat} {l : List Hx} (h : fE 42 3 Hx.cells w g cap l l.length) (hc : l.length <= cap) (hN : Below w.heap.size w W) : ∀ j u, (aN Hx.cells (l.take k))[j]? = some u -> W.cell? ((⟨g, 0, none⟩ : Addr).add j) = some u :=
 n9 Hx.cells_length (by decide) (fun i hi => by
  rw [List.getElem_take]
  exact (h.xs' Hx.cells_length (nlq _) hc i (by simp at hi;omega)).zL hN)
theorem L0 {w W : World} {g cap k : Nat} {l : List Hx} (h : fE 42 3 Hx.cells w g cap l l.length) (hc : l.length <= cap) (hN : Below w.heap.size w W) : ∀ j u, (aN Hx.cells (l.drop k))[j]? = some u -> W.cell? ((⟨g, k * 3, none⟩ : Addr).add j) = some u :=
 n9 Hx.cells_length (by decide) (fun i hi => by
  rw [List.getElem_drop];have := (h.xs' Hx.cells_length (nlq _) hc (k + i) (by simp at hi;omega)).zL hN
  rwa [Nat.zero_add, Nat.add_mul] at this)
theorem ID (b : Bk) (y : Hx) (z : Nat) (w : World) (hO : bJ 42 3 Hx.cells w z (.slice b.ha b.hl.length b.hc) b.hl) (hn : b.hl.length <= 64) :
 Calls Tryz.prog 76 #[b.val, y.val] w fun e w' => (∃ a' c', e = .returned (Bk.val ⟨b.now, b.fa, b.fl, b.fc, a', jS b.hl y, c'⟩) /\ bJ 42 3 Hx.cells w' w.heap.size (.slice a' (jS b.hl y).length c') (jS b.hl y)) /\ Below w.heap.size w w' := by
 obtain ⟨j0, hih, hy0, hy1, hy2⟩ := info_parts Tryz.info42;have N1 : Below w.heap.size w (w.alloc b.obj) := aB (br _ _) _;have A1 := wnq w b.obj;obtain ⟨U1, hU1⟩ : ∃ U, w.alloc b.obj = U := ⟨_, rfl⟩;have z1 : U1.heap.size = w.heap.size + 1 := by rw [← hU1];simp
 rw [hU1] at N1 A1;have M2 : Below U1.heap.size U1 (U1.alloc (.cells #[.string y.n, .slice y.ta y.tl.length y.tc, .slice y.na y.nl.length y.nc] 42)) := aB (br _ _) _;have X2 := wnq U1 (.cells #[.string y.n, .slice y.ta y.tl.length y.tc, .slice y.na y.nl.length y.nc] 42);obtain ⟨U2, hU2⟩ : ∃ U, U1.alloc (.cells #[.string y.n, .slice y.ta y.tl.length y.tc, .slice y.na y.nl.length y.nc] 42) = U := ⟨_, rfl⟩;have z2 : U2.heap.size = w.heap.size + 2 := by rw [← hU2];simp [z1]
 rw [hU2] at M2 X2;have M3 : Below U2.heap.size U2 (U2.alloc (.cells #[.int .i64 0, .slice none 0 0, .slice none 0 0] 29)) := aB (br _ _) _;have R3 := wnq U2 (.cells #[.int .i64 0, .slice none 0 0, .slice none 0 0] 29);obtain ⟨U3, hU3⟩ : ∃ U, U2.alloc (.cells #[.int .i64 0, .slice none 0 0, .slice none 0 0] 29) = U := ⟨_, rfl⟩;rw [hU3] at M3 R3;have N3 : Below w.heap.size w U3 := aD (aD N1 M2) M3;have HA3 : Hid _ := bD (bD A1 M2) M3;have HY3 : Hid (U3.heap[w.heap.size + 1]? = some (.cells #[.string y.n, .slice y.ta y.tl.length y.tc, .slice y.na y.nl.length y.nc] 42)) := by rw [Hid, ← z1];exact bD X2 M3
 have HR3 : Hid (U3.heap[w.heap.size + 2]? = some (.cells #[.int .i64 0, .slice none 0 0, .slice none 0 0] 29)) := by rw [Hid, ← z2];exact R3
 clear N1 M2 M3 A1 X2 R3
 go_enter Tryz.func76, Tryz.ntmps76
 go_upto_block 0 with fail
 clear hU1 hU2 hU3;have HO : Hid _ := hO
 go_cut [5] (fun iv wx => ∃ k : Nat, k <= b.hl.length /\ iv = .int .i64 (k : Int) /\ Below U3.heap.size U3 wx /\ kJ b.hl y.n = k)
 case first =>
  go_wp2_with fail
  go_loopw [5] (fun iv wr => ∃ k : Nat, k <= b.hl.length /\ iv = .int .i64 (k : Int) /\ Below U3.heap.size U3 wr /\ Hid (∀ j (h : j < b.hl.length), j < k -> eU b.hl[j].n y.n = true)) (fun iv _ => b.hl.length - (intOf iv).toNat)
  case atStart => exact ⟨0, nz _, rfl, br _ _, fun j h hj => by omega⟩
  case round =>
   obtain ⟨k, hk, rfl, hB, hlo⟩ := hrel;have HB : Hid (Below U3.heap.size U3 wr) := hB;have a2 : wr.cell? ⟨w.heap.size, 2, none⟩ = some (.slice b.ha b.hl.length b.hc) := aH (bD HA3.out hB) rfl
   by_cases hlt : k < b.hl.length
   · obtain ⟨g, ha, hcap, hrow⟩ : ∃ g, b.ha = some ⟨g, 0, none⟩ /\ b.hl.length <= b.hc /\ fE 42 3 Hx.cells w g b.hc b.hl b.hl.length := by
      rcases hO with ⟨_, e⟩ | ⟨g, cap, e, _, h2, h3⟩
      · rw [e] at hlt;simp at hlt
      · simp only [Value.slice.injEq] at e
        obtain ⟨e1, _, rfl⟩ := e;exact ⟨g, e1, h2, h3⟩
     obtain ⟨c0, _, _⟩ := eC (hrow.xs' Hx.cells_length (nlq _) hcap k hlt);rw [Nat.zero_add] at c0;have c0 := ((aD N3 hB).cell (aA c0)).trans c0;have y0 : wr.cell? ⟨w.heap.size + 1, 0, none⟩ = some (.string y.n) := aH (bD HY3.out hB) rfl;rw [ha] at a2;obtain ⟨x, hx⟩ : ∃ x, x = b.hl[k] := ⟨_, rfl⟩;rw [← hx] at c0;have HXk : Hid (x = b.hl[k]) := hx;clear hx ha hrow hO hB
     cases hq : eU x.n y.n with
     | true =>
      have HLo : Hid (∀ j (h : j < b.hl.length), j < k + 1 -> eU b.hl[j].n y.n = true) := fun j h hj => by
       by_cases e : j = k
       · subst e;rw [← HXk.out];exact hq
       · exact hlo.out j h (by omega)
      clear hlo;unfold eU at hq;go_wp2_with fail
      go_quiet (fail)
      go_wp2
      go_roundw
      case rel => exact ⟨k + 1, by omega, by go_num, (below_drewN HB.out _), HLo⟩
      case measure => simp [intOf];omega
     | false =>
      have HPut : Hid (kJ b.hl y.n = k) := yR hk hlo.out (fun h => by have e := HXk.out;rw [← e];exact hq);clear hlo;unfold eU at hq;go_wp2_with fail
      go_quiet (fail)
      go_wp2
      all_goals go_meet
      all_goals exact ⟨k, hk, rfl, (below_drewN HB.out _), HPut.out⟩
   · have HPut : Hid (kJ b.hl y.n = k) := yR hk hlo.out (fun h => absurd h hlt)
     clear hlo hO hB;go_wp2_with fail
     go_quiet (fail)
     go_wp2
     all_goals go_meet
     all_goals exact ⟨k, hk, rfl, (below_drewN HB.out _), HPut.out⟩
 case rest =>
  obtain ⟨k, hk, rfl, hB, hpi⟩ := hcut
  have HPI : Hid (jS b.hl y = b.hl.take k ++ y :: b.hl.drop k) := by
   show jS b.hl y = _
   unfold jS;rw [hpi]
  obtain ⟨a12, h12⟩ : ∃ a12 : Option Addr, (b.ha = none /\ b.hl = [] /\ b.hc = 0 /\ a12 = none /\ k = 0) ∨ ∃ g, b.ha = some ⟨g, 0, none⟩ /\ b.hl.length <= b.hc /\ fE 42 3 Hx.cells w g b.hc b.hl b.hl.length /\ ((k < b.hc /\ a12 = some ⟨g, k * 3, none⟩) ∨ (¬ k < b.hc /\ a12 = some ⟨g, 0, none⟩)) := by
   rcases hO with ⟨e, hl0⟩ | ⟨g, cap, e, _, hcap, hrow⟩
   · simp only [Value.slice.injEq] at e
     exact ⟨none, .inl ⟨e.1, hl0, e.2.2, rfl, by rw [hl0] at hk;simpa using hk⟩⟩
   · simp only [Value.slice.injEq] at e
     obtain ⟨e1, _, rfl⟩ := e
     by_cases hkc : k < b.hc
     · exact ⟨_, .inr ⟨g, e1, hcap, hrow, .inl ⟨hkc, rfl⟩⟩⟩
     · exact ⟨_, .inr ⟨g, e1, hcap, hrow, .inr ⟨hkc, rfl⟩⟩⟩
  have HA : Hid _ := h12
  have HN : Hid (b.ha = none -> k = 0) := fun e => by
   rcases h12 with h | ⟨g, e0, _⟩
   · exact h.2.2.2.2
   · rw [e] at e0;cases e0
  have HN2 : Hid (a12 = none -> b.hl = [] /\ b.hc = 0 /\ k = 0) := fun e => by
   rcases h12 with h | ⟨g, _, _, _, ⟨_, e3⟩ | ⟨_, e3⟩⟩
   · exact ⟨h.2.1, h.2.2.1, h.2.2.2.2⟩
   · rw [e] at e3;cases e3
   · rw [e] at e3;cases e3
  have Nd : Below w.heap.size w wc.drew := (aD N3 hB).drew;have Ar := bD HA3.out hB;have Yr := bD HY3.out hB;have Rr := bD HR3.out hB;obtain ⟨Wd, hWd⟩ : ∃ Wd, wc.drew = Wd := ⟨_, rfl⟩;have HA2 : Hid (Wd.heap[w.heap.size]? = some b.obj) := by rw [Hid, ← hWd];exact Ar
  have Y2 : Wd.heap[w.heap.size + 1]? = some (.cells #[.string y.n, .slice y.ta y.tl.length y.tc, .slice y.na y.nl.length y.nc] 42) := by rw [← hWd];exact Yr
  have HR2 : Hid (Wd.heap[w.heap.size + 2]? = some (.cells #[.int .i64 0, .slice none 0 0, .slice none 0 0] 29)) := by rw [Hid, ← hWd];exact Rr
  have a2 : Wd.cell? ⟨w.heap.size, 2, none⟩ = some (.slice b.ha b.hl.length b.hc) := aH HA2.out rfl;obtain ⟨y0, y1, y2⟩ := aJ Y2;rw [hWd] at Nd;have hsd := Nd.size;have hAw : w.heap.size + 2 < Wd.heap.size := (bP HR2.out)
  have HT5 : Hid (∀ ad, b.ha = some ad -> ∀ w', Below Wd.heap.size Wd w' -> ∀ j u, (aN Hx.cells (b.hl.take k))[j]? = some u -> w'.cell? (ad.add j) = some u) := fun ad e w' h => by
   rcases h12 with ⟨e0, _⟩ | ⟨g, e0, hcap, hrow, _⟩
   · rw [e0] at e;cases e
   · rw [e0] at e;cases e
     exact MW hrow hcap (aD Nd h)
  have HD5 : Hid (∀ ad, a12 = some ad -> ∀ w', Below Wd.heap.size Wd w' -> ∀ j u, (aN Hx.cells (b.hl.drop k))[j]? = some u -> w'.cell? (ad.add j) = some u) := fun ad e w' h j u hj => by
   rcases h12 with ⟨_, _, _, e3, _⟩ | ⟨g, _, hcap, hrow, ⟨_, e3⟩ | ⟨hkc, e3⟩⟩
   · rw [e3] at e;cases e
   · rw [e3] at e;cases e
     exact L0 hrow hcap (aD Nd h) j u hj
   · rw [List.drop_of_length_le (by omega)] at hj;simp [aN] at hj
  clear Ar Yr Rr Y2 hB h12 hO hpi;go_wp2_with fail
  refine wpIn_wide.1 (lO (F := Fence.wide) (n := 0) (by kernel_rfl) [some 24, some 25, some 26, some 27, some 28, some 29, some 30, some 31, some 32, some 33, some 34, some 35, some 36, some 37, some 38] (K6 Wd w.heap.size k b.hl y (.slice b.ha b.hl.length b.hc) (.slice b.ha k b.hc) (.slice a12 (b.hl.length - k) (b.hc - k))) (by kernel_rfl) ?h0 K6.ext ?step ?fin)
  case h0 =>
   exact ⟨fun _ _ _ h => h.elim, fun h => h.elim, fun h => h.elim, fun h => h.elim, fun h => h.elim, fun h => h.elim, fun h => h.elim, fun _ => by rw [hWd];exact br _ _⟩
  case step =>
   intro L ii o vs w' ho hnl hde hcl hK;have hi : ii < 16 := (lgs.1 ho).1;have HK : Hid (K6 Wd w.heap.size k b.hl y (.slice b.ha b.hl.length b.hc) (.slice b.ha k b.hc) (.slice a12 (b.hl.length - k) (b.hc - k)) L vs w') := hK;clear hK
   match ii, hi with
   | 0, _ =>
    simp at ho;subst ho;have h15 : ¬ L 15 := fun h => hnl (hcl 15 _ h rfl (eP 0) (by simp) rfl);have hbw := HK.out.bw h15;have hb1 : Below w'.heap.size w' (w'.alloc (.cells #[] 42)) := aB (br _ _) _;have HQ : Hid _ := (HK.out.zL h15 hb1).add0 ⟨w'.heap.size, rfl, hbw.size, wnq w' _⟩;clear hb1;simp only [aE, Act.put];gi_wp2;exact ⟨_, by simp [aI], HQ.out⟩
   | 1, _ =>
    simp at ho;subst ho;have h15 : ¬ L 15 := fun h => hnl (hcl 15 _ h rfl (eP 1) (by simp) rfl);have hbw := HK.out.bw h15;simp only [aE, Act.put];gi_wp2;exact ⟨.pointer (some ⟨w.heap.size, 2, none⟩), by simp [aI], HK.out.addc 1 rfl⟩
   | 2, _ =>
    simp at ho;subst ho;have h15 : ¬ L 15 := fun h => hnl (hcl 15 _ h rfl (eP 2) (by simp) rfl);have hbw := HK.out.bw h15;have d1 := HK.out.c 1 _ rfl (Zq hde 1);have k2 := (hbw.cell (aA a2)).trans a2;simp only [aE, Act.put];rw [d1];gi_wp2;exact ⟨.slice b.ha b.hl.length b.hc, by simp [aI, d1], HK.out.addc 2 rfl⟩
   | 3, _ =>
    simp at ho;subst ho;have h15 : ¬ L 15 := fun h => hnl (hcl 15 _ h rfl (eP 3) (by simp) rfl);have hbw := HK.out.bw h15;simp only [aE, Act.put];gi_wp2;exact ⟨.int .i64 ((k : Nat) : Int), by simp [aI], HK.out.addc 3 rfl⟩
   | 4, _ =>
    simp at ho;subst ho;have h15 : ¬ L 15 := fun h => hnl (hcl 15 _ h rfl (eP 4) (by simp) rfl);have hbw := HK.out.bw h15;have d2 := HK.out.c 2 _ rfl (Zq hde 2);have d3 := HK.out.c 3 _ rfl (Zq hde 3);have HQ : Hid _ := HK.out.addc 4 (v := .slice b.ha k b.hc) rfl
    rcases HA.out with ⟨e0, e1, e2, -, rfl⟩ | ⟨g, e0, e1, -, -⟩
    · have d2 : vs 2 = .slice none 0 0 := by rw [d2, e0, e1, e2];rfl
      have E0 : Hid (b.ha = none /\ b.hc = 0) := ⟨e0, e2⟩;clear e0 e1 e2;simp only [aE, Act.put];rw [d2, d3];gi_wp2;exact ⟨.slice b.ha 0 b.hc, by simp [aI, d2, d3, E0.out], HQ.out⟩
    · have d2 : vs 2 = .slice (some ⟨g, 0, none⟩) b.hl.length b.hc := by rw [d2, e0]
      have E0 : Hid _ := e0;clear e0;simp only [aE, Act.put];rw [d2, d3];gi_wp2;exact ⟨.slice b.ha k b.hc, by simp [aI, d2, d3, E0.out], HQ.out⟩
   | 5, _ =>
    simp at ho;subst ho;have h15 : ¬ L 15 := fun h => hnl (hcl 15 _ h rfl (eP 5) (by simp) rfl);have hbw := HK.out.bw h15;have d4 := HK.out.c 4 _ rfl (Zq hde 4);obtain ⟨p, d0, hp1, hp2⟩ := HK.out.v0 (Zq hde 0);have hp := hp2 hnl;simp only [aE, Act.put, List.setIfInBounds_toArray, List.set_cons_succ, List.set_cons_zero];rw [d0, d4];refine lI w' rfl (.tmp 24) (.tmp 28) 27 rfl 42 j0 _ 3 64 Tryz.underlying27 hih hy0 hy1 hy2 rfl (by decide) p rfl hp b.ha k b.hc (aN Hx.cells (b.hl.take k)) rfl HN.out (by rw [cV Hx.cells_length, List.length_take];congr 1;omega) (fun ad e j u hj => HT5.out ad e w' hbw j u hj) (jK jI _) (by unfold maxLen;omega) (by omega) Wd.heap.size hp1 (fun v' w2 hown hb2 => ?_);have HQ : Hid _ := (HK.out.zL h15 hb2).add5 hown;clear hown hb2 hp hp2;gi_wp2;exact ⟨_, by simp [aI, d0, d4], HQ.out⟩
   | 6, _ =>
    simp at ho;subst ho;have h15 : ¬ L 15 := fun h => hnl (hcl 15 _ h rfl (eP 6) (by simp) rfl);have hbw := HK.out.bw h15;have k0 := (hbw.cell (aA y0)).trans y0;have k1 := (hbw.cell (aA y1)).trans y1;have k2 := (hbw.cell (aA y2)).trans y2;simp only [aE, Act.put];gi_wp2;exact ⟨y.val, by simp [aI], HK.out.addc 6 rfl⟩
   | 7, _ =>
    simp at ho;subst ho;have h15 : ¬ L 15 := fun h => hnl (hcl 15 _ h rfl (eP 7) (by simp) rfl);have hbw := HK.out.bw h15;have d6 := HK.out.c 6 _ rfl (Zq hde 6);have hb1 : Below w'.heap.size w' (w'.alloc (.cells #[.string y.n, .slice y.ta y.tl.length y.tc, .slice y.na y.nl.length y.nc] 42)) := aB (br _ _) _;have HQ : Hid _ := (HK.out.zL h15 hb1).add7 ⟨w'.heap.size, rfl, wnq w' _⟩;clear hb1;simp only [aE, Act.put];rw [d6];gi_wp2;exact ⟨_, by simp [aI, d6], HQ.out⟩
   | 8, _ =>
    simp at ho;subst ho;have h15 : ¬ L 15 := fun h => hnl (hcl 15 _ h rfl (eP 8) (by simp) rfl);have hbw := HK.out.bw h15;have h5 : L 5 := Zq hde 5;have h13 : ¬ L 13 := fun h => hnl (hcl 13 _ h rfl (eD 8) (by simp) rfl);have ho5 := HK.out.v5 h5 hnl;obtain ⟨V, d7, hV2⟩ := HK.out.v7 (Zq hde 7);have hV := hV2 hnl;obtain ⟨u5, e5⟩ : ∃ u, vs 5 = u := ⟨_, rfl⟩;rw [e5] at ho5;simp only [aE, Act.put, List.setIfInBounds_toArray, List.set_cons_succ, List.set_cons_zero];rw [d7, e5]
    refine wpListIn_append_own w' rfl (.tmp 29) (.tmp 31) 27 rfl Wd.heap.size 42 j0 _ 3 64 Tryz.underlying27 hih hy0 hy1 hy2 rfl (by decide) u5 k (aN Hx.cells (b.hl.take k)) rfl ho5 ⟨V, 0, none⟩ 1 1 y.cells rfl (by simp [Hx.cells]) (fun j u hj => by
     rw [Addr.add_lit, Nat.zero_add]
     match j, hj with
     | 0, hj => simp [Hx.cells] at hj;subst hj;exact aH hV rfl
     | 1, hj => simp [Hx.cells] at hj;subst hj;exact aH hV rfl
     | 2, hj => simp [Hx.cells] at hj;subst hj;exact aH hV rfl) (jI y) (by unfold maxLen;omega) (by omega) hbw.size (fun v' w2 hown hgr _ => ?_)
    have hb2 : Below Wd.heap.size Wd w2 := hbw.grown hgr hbw.size (fun q hq => gV ho5 hq);have HQ : Hid _ := HK.out.add8 h5 h13 h15 hown hb2;clear hown hgr ho5 hV hV2;gi_wp2;exact ⟨_, by simp [aI, d7, e5], HQ.out⟩
   | 9, _ =>
    simp at ho;subst ho;have h15 : ¬ L 15 := fun h => hnl (hcl 15 _ h rfl (eP 9) (by simp) rfl);have hbw := HK.out.bw h15;simp only [aE, Act.put];gi_wp2;exact ⟨.pointer (some ⟨w.heap.size, 2, none⟩), by simp [aI], HK.out.addc 9 rfl⟩
   | 10, _ =>
    simp at ho;subst ho;have h15 : ¬ L 15 := fun h => hnl (hcl 15 _ h rfl (eP 10) (by simp) rfl);have hbw := HK.out.bw h15;have d9 := HK.out.c 9 _ rfl (Zq hde 9);have k2 := (hbw.cell (aA a2)).trans a2;simp only [aE, Act.put];rw [d9];gi_wp2;exact ⟨.slice b.ha b.hl.length b.hc, by simp [aI, d9], HK.out.addc 10 rfl⟩
   | 11, _ =>
    simp at ho;subst ho;have h15 : ¬ L 15 := fun h => hnl (hcl 15 _ h rfl (eP 11) (by simp) rfl);have hbw := HK.out.bw h15;simp only [aE, Act.put];gi_wp2;exact ⟨.int .i64 ((k : Nat) : Int), by simp [aI], HK.out.addc 11 rfl⟩
   | 12, _ =>
    simp at ho;subst ho;have h15 : ¬ L 15 := fun h => hnl (hcl 15 _ h rfl (eP 12) (by simp) rfl);have hbw := HK.out.bw h15;have d10 := HK.out.c 10 _ rfl (Zq hde 10);have d11 := HK.out.c 11 _ rfl (Zq hde 11);have HQ : Hid _ := HK.out.addc 12 (v := .slice a12 (b.hl.length - k) (b.hc - k)) rfl
    rcases HA.out with ⟨e0, e1, e2, e3, rfl⟩ | ⟨g, e0, e1, -, h3⟩
    · have d10 : vs 10 = .slice none 0 0 := by rw [d10, e0, e1, e2];rfl
      have E0 : Hid (b.hl = [] /\ b.hc = 0 /\ a12 = none) := ⟨e1, e2, e3⟩;clear e0 e1 e2 e3;simp only [aE, Act.put];rw [d10, d11];gi_wp2;exact ⟨.slice a12 (b.hl.length - 0) (b.hc - 0), by simp [aI, d10, d11, E0.out], HQ.out⟩
    · have d10 : vs 10 = .slice (some ⟨g, 0, none⟩) b.hl.length b.hc := by rw [d10, e0]
      clear e0
      rcases h3 with ⟨hkc, e3⟩ | ⟨hkc, e3⟩
      · have E3 : Hid _ := e3
        clear e3;simp only [aE, Act.put];rw [d10, d11];gi_wp2;exact ⟨.slice a12 (b.hl.length - k) (b.hc - k), by simp [aI, d10, d11, E3.out], HQ.out⟩
      · have hkc2 : b.hc - k = 0 := by omega
        have E3 : Hid _ := e3;clear e3;simp only [aE, Act.put];rw [d10, d11];gi_wp2;exact ⟨.slice a12 (b.hl.length - k) (b.hc - k), by simp [aI, d10, d11, E3.out, hkc2];omega, by have h := HQ.out;have e : b.hc = k := (by omega);simp only [e, Nat.sub_self] at h ⊢;exact h⟩
   | 13, _ =>
    simp at ho;subst ho;have h15 : ¬ L 15 := fun h => hnl (hcl 15 _ h rfl (eP 13) (by simp) rfl);have hbw := HK.out.bw h15;have d12 := HK.out.c 12 _ rfl (Zq hde 12);have h8 : L 8 := Zq hde 8;have h5 : L 5 := hcl 8 _ h8 rfl (eD 5) (by simp) rfl;have ho8 := HK.out.v8 h8 hnl;obtain ⟨u8, e8⟩ : ∃ u, vs 8 = u := ⟨_, rfl⟩
    cases a12 with
    | none =>
     obtain ⟨hl0, hc0, hk0⟩ := HN2.out rfl
     obtain ⟨g8, cap8, e9, hc8⟩ : ∃ g8 cap8, vs 8 = .slice (some ⟨g8, 0, none⟩) 1 cap8 /\ 1 <= cap8 := by
      rw [hk0] at ho8;obtain ⟨_, ⟨_, e⟩ | ⟨g8, cap8, _, e, _, _, hnc, _⟩⟩ := ho8
      · omega
      · exact ⟨g8, cap8, e, hnc⟩
     have HQ : Hid _ := HK.out.add13 (v := vs 8) h5 h8 h15 (by rw [hl0, hk0] at ho8 ⊢;simpa [aN] using ho8) hbw;have d12 : vs 12 = .slice none 0 0 := by rw [d12, hl0, hc0, hk0];rfl
     clear ho8 hl0 hc0 hk0;simp only [aE, Act.put];rw [d12, e9];gi_wp2;exact ⟨vs 8, by simp [aI, d12, e9], HQ.out⟩
    | some ad =>
     rw [e8] at ho8;simp only [aE, Act.put, List.setIfInBounds_toArray, List.set_cons_succ, List.set_cons_zero];rw [d12, e8];refine wpListIn_append_own w' rfl (.tmp 32) (.tmp 36) 27 rfl Wd.heap.size 42 j0 _ 3 64 Tryz.underlying27 hih hy0 hy1 hy2 rfl (by decide) u8 (k + 1) (aN Hx.cells (b.hl.take k) ++ y.cells) rfl ho8 ad (b.hl.length - k) (b.hc - k) (aN Hx.cells (b.hl.drop k)) rfl (by rw [cV Hx.cells_length, List.length_drop]) (fun j u hj => HD5.out ad rfl w' hbw j u hj) (jK jI _) (by unfold maxLen;omega) (by omega) hbw.size (fun v' w2 hown hgr _ => ?_);have hb2 : Below Wd.heap.size Wd w2 := hbw.grown hgr hbw.size (fun q hq => gV ho8 hq);have hown2 : w2.ownsRow Wd.heap.size 42 3 v' (b.hl.length + 1) (aN Hx.cells (b.hl.take k) ++ y.cells ++ aN Hx.cells (b.hl.drop k)) := by rw [show b.hl.length + 1 = k + 1 + (b.hl.length - k) by omega];exact hown
     have HQ : Hid _ := HK.out.add13 h5 h8 h15 hown2 hb2;clear hown hown2 hgr ho8;gi_wp2;exact ⟨_, by simp [aI, d12, e8], HQ.out⟩
   | 14, _ =>
    simp at ho;subst ho;have h15 : ¬ L 15 := fun h => hnl (hcl 15 _ h rfl (eD 14) (by simp) rfl);have hbw := HK.out.bw h15;simp only [aE, Act.put];gi_wp2;exact ⟨.pointer (some ⟨w.heap.size, 2, none⟩), by simp [aI], HK.out.addc 14 rfl⟩
   | 15, _ =>
    simp at ho;subst ho;have d14 := HK.out.c 14 _ rfl (Zq hde 14);have hbw := HK.out.bw hnl;have h13 : L 13 := Zq hde 13;have h8 : L 8 := hcl 13 _ h13 rfl (eD 8) (by simp) rfl;have h5 : L 5 := hcl 8 _ h8 rfl (eD 5) (by simp) rfl;have ho13 := HK.out.v13 h13 hnl
    obtain ⟨a8, c8, e13⟩ : ∃ a c, vs 13 = .slice a (b.hl.length + 1) c := by
     obtain ⟨_, ⟨_, e⟩ | ⟨g8, cap8, _, e, _⟩⟩ := ho13
     · omega
     · exact ⟨_, _, e⟩
    have k2 := (hbw.cell (aA a2)).trans a2;have kf : ∀ i, w'.frozen? ⟨w.heap.size, i, none⟩ = false := fun i => by simp [World.frozen?, bD HA2.out hbw]
    have HQ : Hid _ := HK.out.add15 (v := undef) h5 h8 h13 hnl;rw [e13] at HQ;simp only [aE, Act.put];rw [d14, e13];clear ho13;gi_wp2_with fail
    exact ⟨undef, by simp [aI, d14, e13], by have h := HQ.out;simpa using h⟩
   | q + 16, h => exact absurd h (by omega)
  case fin =>
   intro L vs w' hL6 hK;obtain ⟨w9, hb9, ho9, hw9⟩ := hK.w15 (hL6 15 (by decide))
   have hX9 : bJ 42 3 Hx.cells w9 Wd.heap.size (vs 13) (b.hl.take k ++ y :: b.hl.drop k) := iB Hx.cells_length (by
    rw [show (b.hl.take k ++ y :: b.hl.drop k).length = b.hl.length + 1 by simp;omega];have e : aN Hx.cells (b.hl.take k ++ y :: b.hl.drop k) = aN Hx.cells (b.hl.take k) ++ y.cells ++ aN Hx.cells (b.hl.drop k) := by simp [aN]
    rw [e];exact ho9)
   obtain ⟨a', c', e13⟩ := hX9.slice;rw [e13] at hX9 hw9;rw [hw9];clear hw9 ho9 hL6 hK;simp only [aE, Act.put];generalize vs 0 = u0;generalize vs 1 = u1;generalize vs 2 = u2;generalize vs 3 = u3;generalize vs 4 = u4;generalize vs 5 = u5;generalize vs 6 = u6;generalize vs 7 = u7;generalize vs 8 = u8;generalize vs 9 = u9;generalize vs 10 = u10;generalize vs 11 = u11;generalize vs 12 = u12;generalize vs 13 = u13;generalize vs 14 = u14;have hlen : (b.hl.take k ++ y :: b.hl.drop k).length = (b.hl.take k ++ y :: b.hl.drop k).length := rfl;have A9 := cB (bD HA2.out hb9) 2 (.slice a' (b.hl.take k ++ y :: b.hl.drop k).length c');have bA : cA (fun q => q = w.heap.size) w9 (w9.setCell ⟨w.heap.size, 2, none⟩ (.slice a' (b.hl.take k ++ y :: b.hl.drop k).length c')) := (cA.refl (fun q => q = w.heap.size) w9).set (g := w.heap.size) rfl _ _;have R9 := dA (bD HR2.out hb9) bA (by show ¬ (w.heap.size + 2 = w.heap.size);omega);have N9 := bA.under (aD Nd hb9) (nlq _) (fun q hq => by have hq' : q = w.heap.size := hq;omega);have X9 := hX9.butRow bA (fun q n f hq _ e => by have e' : q = w.heap.size := e;omega);obtain ⟨Wf, hWf⟩ : ∃ Wf, w9.setCell ⟨w.heap.size, 2, none⟩ (.slice a' (b.hl.take k ++ y :: b.hl.drop k).length c') = Wf := ⟨_, rfl⟩;rw [hWf] at A9 R9 N9 X9 ⊢;obtain ⟨e0, e1, e2⟩ := aJ A9;obtain ⟨r0, r1, r2⟩ := aJ R9;have rf : ∀ i, Wf.frozen? ⟨w.heap.size + 2, i, none⟩ = false := fun i => by simp [World.frozen?, R9]
   have hsf := hb9.size;have HX : Hid (bJ 42 3 Hx.cells Wf Wd.heap.size (.slice a' (b.hl.take k ++ y :: b.hl.drop k).length c') (b.hl.take k ++ y :: b.hl.drop k)) := X9;obtain ⟨lq, hlq⟩ : ∃ lq, (b.hl.take k ++ y :: b.hl.drop k).length = lq := ⟨_, rfl⟩;have HLq : Hid ((b.hl.take k ++ y :: b.hl.drop k).length = lq) := hlq;rw [hlq] at e2;clear A9 R9 bA hX9 X9 hb9 hWf hlen hlq;go_wp2_with fail
   have hS : cA (fun q => q = w.heap.size + 2) Wf (((Wf.setCell ⟨w.heap.size + 2, 0, none⟩ (.int .i64 b.now)).setCell ⟨w.heap.size + 2, 1, none⟩ (.slice b.fa b.fl.length b.fc)).setCell ⟨w.heap.size + 2, 2, none⟩ (.slice a' lq c')) := (((cA.refl (fun q => q = w.heap.size + 2) Wf).set (g := w.heap.size + 2) rfl _ _).set (g := w.heap.size + 2) rfl _ _).set (g := w.heap.size + 2) rfl _ _;exact bpr (v := Bk.val ⟨b.now, b.fa, b.fl, b.fc, a', b.hl.take k ++ y :: b.hl.drop k, c'⟩) (by simp only [Bk.val, HLq.out];simp [results, Tryz.results76, go_sem, r0, r1, r2]) rfl ⟨⟨a', c', by rw [HPI.out], by rw [HPI.out];exact (HX.out.butRow hS (fun q n f hq _ e => by have e' : q = w.heap.size + 2 := e;omega)).weak (by omega)⟩, hS.under N9 (nlq _) (fun q hq => by have hq' : q = w.heap.size + 2 := hq;omega)⟩
end Go.Proofs.YtiojdbffjdoniaaGreatDoor
