import Derived.Maps.AppendAt
import Derived.RangeFuncRecord
import Derived.Test.YtiojdbffjdoniaaGreatDoorRd
import Derived.Test.YtiojdbffjdoniaaGreatDoorBehind
namespace Go.Proofs.YtiojdbffjdoniaaGreatDoor
set_option maxRecDepth 100000
set_option maxHeartbeats 2000000
open Go.RowKit Go.BigFrame
def xU : List Fx -> List Value
 | [] => []
 | f :: r => f.cells ++ xU r
theorem oB {w w' : World} {R base : Nat} {e : TypeId} {s : Nat} {v : Value} {n : Nat} {xs : List Value} (h : w.ownsRow base e s v n xs) (hb : bC R w w') (hR : R < base) : w'.ownsRow base e s v n xs := by
 obtain ⟨h1, h2 | ⟨g, cap, cur, hv, hg, hc, r⟩⟩ := h
 · exact ⟨h1, Or.inl h2⟩
 · exact ⟨h1, Or.inr ⟨g, cap, cur, hv, hg, (hb.block g (bP hc) (by omega)).trans hc, r⟩⟩
theorem bC.grown {R : Nat} {a w w' : World} {row : Option Nat} (h : bC R a w) (hg : w.grownBy w' row) (hr : ∀ k, row = some k -> a.heap.size <= k) : bC R a w' := by
 have hb : Below a.heap.size w w' := (br _ w).grown hg (by have := h.size;omega) hr;exact ⟨hb.os.trans h.os, hb.tape.trans h.tape, hb.output.trans h.output, Nat.le_trans h.size hb.size, fun k hk hs => (hb.block k hk).trans (h.block k hk hs)⟩
theorem Q7 {a b c d : Int} (ha : 0 <= a /\ a <= 3) (hb : 0 <= b /\ b <= 3) (hc : 6 <= c /\ c <= 8) (hd : 5 <= d /\ d <= 7) : aW [⟨⟨#[104, 111, 109, 101]⟩, a, b⟩, ⟨⟨#[111, 117, 116]⟩, c, d⟩] = true := by
 have n1 : bL ⟨#[104, 111, 109, 101]⟩ = true := by decide +kernel
 have n2 : bL ⟨#[111, 117, 116]⟩ = true := by decide +kernel
 have l1 : eU ⟨#[104, 111, 109, 101]⟩ ⟨#[111, 117, 116]⟩ = true := by decide +kernel
 simp [aW, a9, iO, fT, gD, eW, qV, eK, n1, n2, l1]
 omega
theorem QM {a b c d e : Int} (ha : 0 <= a /\ a <= 3) (hb : 0 <= b /\ b <= 3) (hc : 6 <= c /\ c <= 8) (hd : 5 <= d /\ d <= 7) (he : 0 <= e /\ e <= 15) : aW [⟨⟨#[104, 111, 109, 101]⟩, a, b⟩, ⟨⟨#[111, 117, 116]⟩, c, d⟩, ⟨⟨#[122, 117, 108, 117]⟩, 15, e⟩] = true := by
 have n1 : bL ⟨#[104, 111, 109, 101]⟩ = true := by decide +kernel
 have n2 : bL ⟨#[111, 117, 116]⟩ = true := by decide +kernel
 have n3 : bL ⟨#[122, 117, 108, 117]⟩ = true := by decide +kernel
 have l1 : eU ⟨#[104, 111, 109, 101]⟩ ⟨#[111, 117, 116]⟩ = true := by decide +kernel
 have l2 : eU ⟨#[111, 117, 116]⟩ ⟨#[122, 117, 108, 117]⟩ = true := by decide +kernel
 simp [aW, a9, iO, fT, gD, eW, qV, eK, n1, n2, n3, l1, l2]
 omega
theorem DG (R n cap : Nat) (ao : Option Addr) (p : Int) (w : World) (h : Rd w R ao n cap p) (hp : p <= 999000) :
 Calls Tryz.prog 23 #[.pointer (some ⟨R, 0, none⟩)] w fun e w' => (∃ v l, e = .returned v /\ w'.ownsRow w.heap.size 82 3 v l.length (xU l) /\ 2 <= l.length /\ l.length <= 3 /\ (∀ f ∈ l, f.n.size <= 4 /\ 0 <= f.x /\ f.x <= 15 /\ 0 <= f.y /\ f.y <= 15) /\ aW l = true) /\
  (∃ p', p' <= p + 6 /\ Rd w' R ao n cap p') /\ bC R w w' := by
 obtain ⟨i0, hi, hz0, hz1, hz2⟩ := info_parts Tryz.info82
 go_enter Tryz.func23, Tryz.ntmps23
 go_wp2_with fail
 refine (bG R n cap ao _ _ _ h (by omega) (by omega)).mono ?_;rintro e w1 ⟨⟨r1, rfl, r10, r11, -⟩, h1, B1⟩
 replace r11 := r11 (by omega)
 go_wp2_with fail
 refine (bG R n cap ao _ _ _ h1 (by omega) (by omega)).mono ?_;rintro e w2 ⟨⟨r2, rfl, r20, r21, -⟩, h2, B2⟩
 replace r21 := r21 (by omega)
 go_wp2_with fail
 refine (bG R n cap ao _ _ _ h2 (by omega) (by omega)).mono ?_;rintro e w3 ⟨⟨r3, rfl, r30, r31, -⟩, h3, B3⟩
 replace r31 := r31 (by omega)
 go_wp2_with fail
 refine (bG R n cap ao _ _ _ h3 (by omega) (by omega)).mono ?_;rintro e w4 ⟨⟨r4, rfl, r40, r41, -⟩, h4, B4⟩
 replace r41 := r41 (by omega)
 have T4 : bC R w w4 := ((B1.trans B2).trans B3).trans B4;clear B1 B2 B3 B4 h1 h2 h3;have hRw := h.lt;obtain ⟨fa, hfa⟩ : ∃ fa : Fx, fa = ⟨⟨#[104, 111, 109, 101]⟩, 1 + r1, 1 + r2⟩ := ⟨_, rfl⟩;obtain ⟨fb, hfb⟩ : ∃ fb : Fx, fb = ⟨⟨#[111, 117, 116]⟩, 6 + r3, 5 + r4⟩ := ⟨_, rfl⟩
 have O4 : (w4.alloc (.cells #[.string ⟨#[104, 111, 109, 101]⟩, .int .i64 (1 + r1), .int .i64 (1 + r2), .string ⟨#[111, 117, 116]⟩, .int .i64 (6 + r3), .int .i64 (5 + r4)] 82)).ownsRow w.heap.size 82 3 (.slice (some ⟨w4.heap.size, 0, none⟩) 2 2) 2 (xU [fa, fb]) := by
  refine ⟨rfl, Or.inr ⟨w4.heap.size, 2, _, rfl, T4.size, wnq _ _, by omega, by unfold maxLen;omega, rfl, ?_⟩⟩;rw [hfa, hfb];rfl
 have hl : ∀ f ∈ [fa, fb], f.n.size <= 4 /\ 0 <= f.x /\ f.x <= 15 /\ 0 <= f.y /\ f.y <= 15 := by
  intro f hf;simp only [List.mem_cons, List.not_mem_nil, or_false] at hf
  rcases hf with rfl | rfl
  · rw [hfa];refine ⟨by show 4 <= 4;omega, ?_⟩;dsimp only;omega
  · rw [hfb];refine ⟨by show 3 <= 4;omega, ?_⟩;dsimp only;omega
 have T4' := T4.trans (bC.below (R := R) ((br _ w4).alloc (nlq _) (.cells #[.string ⟨#[104, 111, 109, 101]⟩, .int .i64 (1 + r1), .int .i64 (1 + r2), .string ⟨#[111, 117, 116]⟩, .int .i64 (6 + r3), .int .i64 (5 + r4)] 82)));have h4' := h4.zL ((br _ w4).alloc (by have := h4.lt;omega) (.cells #[.string ⟨#[104, 111, 109, 101]⟩, .int .i64 (1 + r1), .int .i64 (1 + r2), .string ⟨#[111, 117, 116]⟩, .int .i64 (6 + r3), .int .i64 (5 + r4)] 82));go_wp2_with fail
 refine (bG R n cap ao _ _ _ h4' (by omega) (by omega)).mono ?_;rintro e w5 ⟨⟨r5, rfl, r50, r51, -⟩, h5, B5⟩
 replace r51 := r51 (by omega)
 have T5 := T4'.trans B5;have O5 := oB O4 B5 hRw;clear T4 T4' h4 h4' B5 O4
 by_cases hr : r5 = 0
 · go_wp2_with fail
   refine (bG R n cap ao _ _ _ h5 (by omega) (by omega)).mono ?_;rintro e w6 ⟨⟨r6, rfl, r60, r61, -⟩, h6, B6⟩
   replace r61 := r61 (by omega)
   have T6 := T5.trans B6;have O6 := oB O5 B6 hRw;clear T5 h5 B6 O5;obtain ⟨fc, hfc⟩ : ∃ fc : Fx, fc = ⟨⟨#[122, 117, 108, 117]⟩, 15, r6⟩ := ⟨_, rfl⟩;have hw6 := T6.size
   go_wp2_with (at_builtin;refine wpList_append_own_at _ rfl (.tmp 22) (.tmp 26) 23 rfl w.heap.size 82 i0 _ 3 32 Tryz.underlying23 hi hz0 hz1 hz2 rfl (by decide) _ _ _ rfl (O6.alloc _) ⟨w6.heap.size, 0, none⟩ 1 1 [.string ⟨#[122, 117, 108, 117]⟩, .int .i64 15, .int .i64 r6] rfl rfl ?qc1 ?qc2 ?qc3 ?qc4 ?qc5 ?_)
   case qc1 =>
    intro j u hj
    match j, hj with
    | 0, hj => simp at hj;subst hj;simp [Addr.add]
    | 1, hj => simp at hj;subst hj;simp [Addr.add]
    | 2, hj => simp at hj;subst hj;simp [Addr.add]
    | n + 3, hj => simp at hj
   case qc2 => intro u hu;simp at hu;rcases hu with rfl | rfl | rfl <;> rfl
   case qc3 => unfold maxLen;omega
   case qc4 => omega
   case qc5 => simp;omega
   intro v' w7 O7 hgrow _ _;have T7 : bC R w w7 := (T6.trans (bC.below ((br _ w6).alloc (nlq _) _))).grown hgrow (fun k hk => gV O6 hk);have H7 : Rd w7 R ao n cap _ := h6.zL (((br (R + 1) w6).alloc (by omega) _).grown hgrow (by simp;omega) (fun k hk => by have := gV O6 hk;omega));go_wp2
   go_ret;refine ⟨⟨v', [fa, fb, fc], rfl, ?_, by simp, by simp, ?_, by rw [hfa, hfb, hfc];exact QM (by omega) (by omega) (by omega) (by omega) (by omega)⟩, ⟨_, ?_, H7⟩, T7⟩
   · rw [hfa, hfb, hfc];exact O7
   · intro f hf
     rcases lma.1 (show f ∈ [fa, fb] ++ [fc] from hf) with hf | hf
     · exact hl f hf
     · rw [List.mem_singleton.1 hf, hfc];refine ⟨by show 4 <= 4;omega, ?_⟩;dsimp only;omega
   · omega
 · go_wp2
   go_ret;exact ⟨⟨_, _, rfl, O5, by simp, by simp, hl, by rw [hfa, hfb];exact Q7 (by omega) (by omega) (by omega) (by omega)⟩, ⟨_, by omega, h5⟩, T5⟩
def PY (n : Int) : Int := if n < 0 then -1 else if 0 < n then 1 else 0
theorem LA (n : Int) : -1 <= PY n /\ PY n <= 1 := by unfold PY;split;omega;split <;> omega
theorem BX (n : Int) (w : World) :
 Calls Tryz.prog 149 #[.int .i64 n] w fun e w' => e = .returned (.int .i64 (PY n)) /\ w' = w := by
 by_cases h0 : n < 0
 · go_enter Tryz.func149, Tryz.ntmps149
   go_wp2
   go_ret;exact ⟨jP (by unfold PY;rw [if_pos (by omega)]), rfl⟩
 · by_cases h1 : 0 < n
   · go_enter Tryz.func149, Tryz.ntmps149
     go_wp2
     go_ret;exact ⟨jP (by unfold PY;rw [if_neg (by omega), if_pos (by omega)]), rfl⟩
   · go_enter Tryz.func149, Tryz.ntmps149
     go_wp2
     go_ret;exact ⟨jP (by unfold PY;rw [if_neg (by omega), if_neg (by omega)]), rfl⟩
theorem LU (f : Fx) (w : World) :
 Calls Tryz.prog 114 #[f.val] w fun e w' => e = .returned (.agg #[.int .i64 f.x, .int .i64 f.y]) /\ Below w.heap.size w w' := by
 go_enter Tryz.func114, Tryz.ntmps114
 go_wp2
 refine bpr (v := .agg #[.int .i64 f.x, .int .i64 f.y]) (by simp [results, go_sem]) rfl ⟨rfl, aB (aB (br _ _) _) _⟩
theorem LX (R n cap : Nat) (ao : Option Addr) (p : Int) (w : World) (h : Rd w R ao n cap p) (hp : p <= 999999) (bl m c : Nat) (s : Nat -> ByteArray) (hR : R ≠ bl) (h1 : 1 <= m) (h2 : m <= 1000) (hs : ∀ i, i < m -> w.cell? ⟨bl, i, none⟩ = some (.string (s i))) :
 Calls Tryz.prog 62 #[.pointer (some ⟨R, 0, none⟩), .slice (some ⟨bl, 0, none⟩) m c] w fun e w' => (∃ i, i < m /\ e = .returned (.string (s i))) /\ Rd w' R ao n cap (p + 1) /\ bC R w w' := by
 go_enter Tryz.func62, Tryz.ntmps62
 go_wp2_with fail
 refine (bG R n cap ao _ _ _ h (by omega) (by omega)).mono ?_;rintro e w1 ⟨⟨r, rfl, r0, r1, -⟩, hr, B⟩
 replace r1 := r1 (by omega)
 obtain ⟨i, rfl⟩ := Int.eq_ofNat_of_zero_le r0;have hc := B.cell (p := ⟨bl, i, none⟩) (Ne.symm hR) (hs i (by omega));go_wp2
 go_ret;exact ⟨⟨i, by omega, rfl⟩, hr, B⟩
end Go.Proofs.YtiojdbffjdoniaaGreatDoor
