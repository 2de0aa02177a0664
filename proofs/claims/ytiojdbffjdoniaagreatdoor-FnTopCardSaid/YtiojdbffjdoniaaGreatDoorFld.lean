import Derived.Deep.RegionWith
import Derived.Test.YtiojdbffjdoniaaGreatDoorLeaf
namespace Go.Proofs.YtiojdbffjdoniaaGreatDoor
set_option maxRecDepth 100000
open Go.RowKit
structure Fx where
 n : ByteArray
 x : Int
 y : Int
abbrev Fx.val (f : Fx) : Value := .agg #[.string f.n, .int .i64 f.x, .int .i64 f.y]
def Fx.cells (f : Fx) : List Value := [.string f.n, .int .i64 f.x, .int .i64 f.y]
theorem Fx.cells_length (f : Fx) : f.cells.length = 3 := rfl
theorem Tryz.info82 : (Tryz.prog.info? 82).map (fun i => (i.zero, i.size, i.bytes)) = some (some (.agg #[.string ByteArray.empty, .int .i64 0, .int .i64 0]), 3, 32) := by kernel_rfl
theorem jB {w : World} {bl o : Nat} {f : Fx} (h : aM w bl o f.cells) : w.cell? ⟨bl, o, none⟩ = some (.string f.n) /\ w.cell? ⟨bl, o + 1, none⟩ = some (.int .i64 f.x) /\ w.cell? ⟨bl, o + 2, none⟩ = some (.int .i64 f.y) :=
 ⟨h 0 _ rfl, h 1 _ rfl, h 2 _ rfl⟩
def cJ (a b : Bx) : Bool := decide (a.x - b.x <= 1 /\ b.x - a.x <= 1 /\ a.y - b.y <= 1 /\ b.y - a.y <= 1 /\ a.lo <= b.hi /\ b.lo <= a.hi /\ a.i <= b.i /\ a.o <= b.o /\ b.i <= a.o + 1)
def dG : List Bx -> Bool
 | a :: b :: r => cJ a b && dG (b :: r)
 | _ => true
theorem dN : ∀ l : List Bx, dG l = true ↔ ∀ i (h : i + 1 < l.length), cJ l[i] l[i + 1] = true
 | [] => by simp [dG]
 | [a] => by simp [dG]
 | a :: b :: r => by
  rw [dG, bat, dN (b :: r)]
  constructor
  · rintro ⟨h0, h⟩ i hi
    cases i with
    | zero => exact h0
    | succ i => exact h i (by simpa using hi)
  · intro h
    exact ⟨h 0 (by simp), fun i hi => h (i + 1) (by simpa using hi)⟩
def qV (fl : List Fx) (x y : Int) : Bool := fl.any fun f => decide (f.x = x /\ f.y = y)
def iT (fl : List Fx) (l : List Bx) : Bool :=
 match l[l.length - 1]? with
 | some b => decide (b.lo = 0) && qV fl b.x b.y
 | none => false
def kT (n : Nat) : Bool := decide (1 <= n /\ n <= 40)
def aK (fl : List Fx) (l : List Bx) : Bool := kT l.length && (l.all aF && (dG l && iT fl l))
theorem jF (fl : List Fx) (l : List Bx) (h : l.length - 1 < l.length) : iT fl l = (decide (l[l.length - 1].lo = 0) && qV fl l[l.length - 1].x l[l.length - 1].y) := by
 rw [iT, lge h]
theorem qC (p : Bx -> Bool) (l : List Bx) (k : Nat) (h : k < l.length) : (l.take (k + 1)).all p = ((l.take k).all p && p l[k]) := by
 rw [List.take_succ_eq_append_getElem h, List.all_append];simp only [List.all_cons, List.all_nil, Bool.and_true]
theorem oV (p : Bx -> Bool) (l : List Bx) (k : Nat) (h : k < l.length) (hp : p l[k] = false) : l.all p = false := by
 rw [Bool.eq_false_iff];intro ha;have := lat.1 ha l[k] (lgm h);rw [hp] at this;cases this
theorem pS (l : List Bx) (k : Nat) (h : k + 1 < l.length) (hp : cJ l[k] l[k + 1] = false) : dG l = false := by
 rw [Bool.eq_false_iff];intro ha;have := (dN l).1 ha k h;rw [hp] at this;cases this
theorem nT {b : Bx} (h : aF b = true) : 0 <= b.x /\ b.x < 16 /\ 0 <= b.y /\ b.y < 16 /\ 0 <= b.lo /\ b.lo <= b.hi /\ b.hi <= 6 /\ 0 <= b.i /\ b.i <= b.o /\ b.o <= 10000 := by
 simp only [aF, dte] at h;exact h
def m9 (f : Fx) (x y : Int) : Bool := decide (f.x = x /\ f.y = y)
set_option maxHeartbeats 1000000
theorem EP (a b : Bx) (w : World) (ha : aF a = true) (hb : aF b = true) :
 Calls Tryz.prog 130 #[a.val, b.val] w fun e w' => e = .returned (.bool (cJ a b)) /\ Below w.heap.size w w' := by
 obtain ⟨a1, a2, a3, a4, _, _, _, a5, a6, a7⟩ := nT ha;obtain ⟨b1, b2, b3, b4, _⟩ := nT hb;clear ha hb
 go_enter Tryz.func130, Tryz.ntmps130
 go_wp2_with (go_at_call 69;refine (dP _ _ _ _).mono ?_;rintro e w' ⟨rfl, rfl⟩)
 all_goals go_ret
 all_goals refine ⟨aC ?_, ((br _ _).alloc (nlq _) _).alloc (by simp) _⟩
 all_goals (rw [Bool.eq_iff_iff];simp only [dS, cJ, dte, decide_eq_false_iff_not, Bool.false_eq_true, false_iff] at *;omega)
theorem EV (a b : Bx) (w : World) (ha : aF a = true) (hb : aF b = true) :
 Calls Tryz.prog 210 #[a.val, b.val] w fun e w' => e = .returned (.bool (cJ a b)) /\ Below w.heap.size w w' := by
 have hB : Below w.heap.size w w := br _ _;obtain ⟨a1, a2, a3, a4, _, _, _, a5, a6, a7⟩ := nT ha;obtain ⟨b1, b2, b3, b4, _⟩ := nT hb;clear ha hb
 go_enter Tryz.func210, Tryz.ntmps210
 go_wp2_with (first
  | (go_at_call 211;refine (jD _ _ _ (by assumption) (by assumption) (by assumption) (by assumption)).mono ?_;rintro e w' ⟨rfl, rfl⟩)
  | (go_at_call 176;refine (iQ _ _ _).mono ?_;rintro e w1 ⟨rfl, hb1⟩;have hB : Below w.heap.size w w1 := aD (by repeat (first | exact hB | refine aB ?_ _)) hb1;obtain ⟨hc1, hf1⟩ := nJ hb1))
 all_goals go_ret
 all_goals refine ⟨aC ?_, by repeat (first | exact hB | refine aB ?_ _)⟩
 all_goals (rw [Bool.eq_iff_iff];simp only [eT, cJ, dte, decide_eq_false_iff_not, Bool.false_eq_true, false_iff] at *;omega)
theorem yB (n cap : Nat) (ao : Option Addr) (w : World) (hn : n <= 1048576) :
 Calls Tryz.prog 170 #[.slice ao n cap] w fun e w' => e = .returned (.bool (kT n)) /\ w' = w := by
 go_enter Tryz.func170, Tryz.ntmps170
 go_wp2
 all_goals go_ret
 all_goals refine ⟨aC ?_, rfl⟩
 all_goals (rw [Bool.eq_iff_iff];simp only [kT, dte, Bool.false_eq_true, false_iff];omega)
theorem k8 (l : List Fx) (ao : Option Addr) (cap : Nat) (x y : Int) (w : World) (hl : Xs 3 Fx.cells w ao l) (hn : l.length <= 1048576) :
 Calls Tryz.prog 135 #[.slice ao l.length cap, .int .i64 x, .int .i64 y] w fun e w' => e = .returned (.bool (qV l x y)) /\ Below w.heap.size w w' := by
 go_enter Tryz.func135, Tryz.ntmps135
 go_wp2
 go_loopw [11] (fun i wr => ∃ k : Nat, k <= l.length /\ i = .int .i64 k /\ Below w.heap.size w wr /\ Hid ((l.take k).any (fun f => m9 f x y) = false)) (fun i _ => l.length - (intOf i).toNat)
 case atStart => exact ⟨0, nz _, rfl, br _ _, by simp [Hid]⟩
 case round =>
  obtain ⟨k, hk, rfl, hN, hno⟩ := hrel
  by_cases hlt : k < l.length
  · rcases hl with h | ⟨bl, off, rfl, hc⟩
    · subst h;simp at hlt
    · have hbx := (hc k hlt).zL hN
      obtain ⟨b, hbe⟩ : ∃ b, b = l[k] := ⟨_, rfl⟩;rw [← hbe] at hbx;have HB : Hid (b = l[k]) := hbe;clear hbe hc;obtain ⟨c0, c1, c2⟩ := jB hbx;clear hbx
      by_cases hx : b.x = x
      · by_cases hy : b.y = y
        · have ex : (b.x == x) = true := by simp [hx]
          have ey : (b.y == y) = true := by simp [hy]
          have HX : Hid (b.x = x /\ b.y = y) := ⟨hx, hy⟩;clear hx hy;go_wp2
          go_ret;exact ⟨aC (dK _ l k hlt (by rw [← HB.out];exact decide_eq_true HX.out)).symm, hN.alloc hN.size _⟩
        · have ex : (b.x == x) = true := by simp [hx]
          have ey : (b.y == y) = false := by simp [hy]
          have HX : Hid (¬ (b.x = x /\ b.y = y)) := fun h => hy h.2;clear hx hy;go_wp2
          go_roundw
          case rel => exact ⟨k + 1, by omega, by go_num, hN.alloc hN.size _, by rw [Hid, eF _ l k hlt, hno.out, ← HB.out, m9, decide_eq_false HX.out];rfl⟩
          case measure => simp [intOf];omega
      · have ex : (b.x == x) = false := by simp [hx]
        have HX : Hid (¬ (b.x = x /\ b.y = y)) := fun h => hx h.1;clear hx;go_wp2
        go_roundw
        case rel => exact ⟨k + 1, by omega, by go_num, hN.alloc hN.size _, by rw [Hid, eF _ l k hlt, hno.out, ← HB.out, m9, decide_eq_false HX.out];rfl⟩
        case measure => simp [intOf];omega
  · go_wp2
    go_ret;refine ⟨aC ?_, hN⟩;rw [ltl (by omega)] at hno;exact hno.out.symm
theorem AN (l : List Bx) (ao : Option Addr) (cap : Nat) (w : World) (hl : iH w ao l) (hn : l.length <= 1048576) :
 Calls Tryz.prog 171 #[.slice ao l.length cap] w fun e w' => e = .returned (.bool (l.all aF)) /\ Below w.heap.size w w' := by
 go_enter Tryz.func171, Tryz.ntmps171
 go_wp2
 go_loopw [7] (fun i wr => ∃ k : Nat, k <= l.length /\ i = .int .i64 k /\ Below w.heap.size w wr /\ Hid ((l.take k).all aF = true)) (fun i _ => l.length - (intOf i).toNat)
 case atStart => exact ⟨0, nz _, rfl, br _ _, by simp [Hid]⟩
 case round =>
  obtain ⟨k, hk, rfl, hN, hno⟩ := hrel
  by_cases hlt : k < l.length
  · rcases hl with h | ⟨bl, off, rfl, hc⟩
    · subst h;simp at hlt
    · have hbx := (hc k hlt).zL hN
      obtain ⟨b, hbe⟩ : ∃ b, b = l[k] := ⟨_, rfl⟩;rw [← hbe] at hbx;have HB : Hid (b = l[k]) := hbe;clear hbe hc;obtain ⟨c0, c1, c2, c3, c4, c5⟩ := hbx
      go_wp2_with (go_at_call 142;refine (n5 _ _).mono ?_;rintro e w1 ⟨rfl, hb1⟩;have hN : Below w.heap.size w w1 := aY (by repeat (first | exact hN | refine jO ?_ (nlq _) _)) (nlq _) hb1)
      · have hv : aF b = false := nf (by assumption)
        go_ret;exact ⟨aC (oV _ l k hlt (by rw [← HB.out];exact hv)).symm, hN⟩
      · have hv : aF b = true := nt (by assumption)
        go_roundw
        case rel => exact ⟨k + 1, by omega, by go_num, hN, by rw [Hid, qC _ l k hlt, hno.out, ← HB.out, hv];rfl⟩
        case measure => simp [intOf];omega
  · go_wp2
    go_ret;refine ⟨aC ?_, hN⟩;rw [ltl (by omega)] at hno;exact hno.out.symm
theorem FB {l : List Fx} {b : Bx} {k : Nat} {f : Fx} (h : k < l.length) (hf : f = l[k]) (hx : b.lo = 0 /\ f.x = b.x /\ f.y = b.y) : (decide (b.lo = 0) && qV l b.x b.y) = true := by
 have ho : qV l b.x b.y = true := dK _ l k h (by rw [← hf];exact decide_eq_true hx.2);rw [ho, decide_eq_true hx.1];rfl
def lJ (l : List Fx) (b : Bx) (k : Nat) : Prop := (decide (b.lo = 0) && (l.take k).any (fun f => m9 f b.x b.y)) = false
theorem rF {l : List Fx} {b : Bx} {k : Nat} {f : Fx} (h : k < l.length) (hf : f = l[k]) (hno : lJ l b k) (hx : ¬ (b.lo = 0 /\ f.x = b.x /\ f.y = b.y)) : lJ l b (k + 1) := by
 unfold lJ at *;rw [eF _ l k h, ← hf]
 by_cases e : b.lo = 0
 · have e2 : m9 f b.x b.y = false := decide_eq_false (fun q => hx ⟨e, q⟩)
   rw [e2, Bool.or_false];exact hno
 · simp [e]
theorem zO (l : List Fx) (ao : Option Addr) (cap : Nat) (b : Bx) (w : World) (hl : Xs 3 Fx.cells w ao l) (hn : l.length <= 1048576) :
 Calls Tryz.prog 131 #[.slice ao l.length cap, b.val] w fun e w' => e = .returned (.bool (decide (b.lo = 0) && qV l b.x b.y)) /\ Below w.heap.size w w' := by
 obtain ⟨V, hV⟩ : ∃ V, V = (decide (b.lo = 0) && qV l b.x b.y) := ⟨_, rfl⟩;rw [← hV];have HV : Hid (V = (decide (b.lo = 0) && qV l b.x b.y)) := hV;clear hV;have hS : w.heap.size + 1 <= (w.alloc (.cells #[.int .i64 b.x, .int .i64 b.y, .int .i64 b.lo, .int .i64 b.hi, .int .i64 b.i, .int .i64 b.o] 89)).heap.size := by simp
 go_enter Tryz.func131, Tryz.ntmps131
 go_wp2
 go_loopw [5] (fun i wr => ∃ k : Nat, k <= l.length /\ i = .int .i64 k /\ Below (w.heap.size + 1) (w.alloc (.cells #[.int .i64 b.x, .int .i64 b.y, .int .i64 b.lo, .int .i64 b.hi, .int .i64 b.i, .int .i64 b.o] 89)) wr /\ Hid (lJ l b k)) (fun i _ => l.length - (intOf i).toNat)
 case atStart => exact ⟨0, nz _, rfl, br _ _, by simp [Hid, lJ]⟩
 case round =>
  obtain ⟨k, hk, rfl, hN, hno⟩ := hrel;have hBr : Below w.heap.size w wr := (aB (br _ _) _).trans (hN.mono (by omega));have a0 : wr.cell? ⟨w.heap.size, 0, none⟩ = some (.int .i64 b.x) := (hN.cell (by simp)).trans (by simp);have a1 : wr.cell? ⟨w.heap.size, 1, none⟩ = some (.int .i64 b.y) := (hN.cell (by simp)).trans (by simp);have a2 : wr.cell? ⟨w.heap.size, 2, none⟩ = some (.int .i64 b.lo) := (hN.cell (by simp)).trans (by simp)
  by_cases hlt : k < l.length
  · rcases hl with h | ⟨bl, off, rfl, hc⟩
    · subst h;simp at hlt
    · have hbx := (hc k hlt).zL hBr
      obtain ⟨f, hbe⟩ : ∃ f, f = l[k] := ⟨_, rfl⟩;rw [← hbe] at hbx;have HB : Hid (f = l[k]) := hbe;clear hbe hc;obtain ⟨c0, c1, c2⟩ := jB hbx;clear hbx
      by_cases hx : f.x = b.x
      · by_cases hy : f.y = b.y
        · by_cases hz : b.lo = 0
          · have ex : (f.x == b.x) = true := by simp [hx]
            have ey : (f.y == b.y) = true := by simp [hy]
            have ez : (b.lo == 0) = true := by simp [hz]
            have HX : Hid (b.lo = 0 /\ f.x = b.x /\ f.y = b.y) := ⟨hz, hx, hy⟩;clear hx hy hz;go_wp2
            go_region
            all_goals
             go_wp2
             go_ret;exact ⟨aC (by rw [HV.out, FB hlt HB.out HX.out]), hBr.drew⟩
          · have ex : (f.x == b.x) = true := by simp [hx]
            have ey : (f.y == b.y) = true := by simp [hy]
            have ez : (b.lo == 0) = false := by simp [hz]
            have HX : Hid (¬ (b.lo = 0 /\ f.x = b.x /\ f.y = b.y)) := fun h => hz h.1;clear hx hy hz;go_wp2
            go_region
            all_goals
             go_wp2
             go_roundw
             case rel => exact ⟨k + 1, by omega, by go_num, hN.drew, rF hlt HB.out hno.out HX.out⟩
             case measure => simp [intOf];omega
        · have ex : (f.x == b.x) = true := by simp [hx]
          have ey : (f.y == b.y) = false := by simp [hy]
          have HX : Hid (¬ (b.lo = 0 /\ f.x = b.x /\ f.y = b.y)) := fun h => hy h.2.2;clear hx hy;go_wp2
          go_region
          all_goals
           go_wp2
           go_roundw
           case rel => exact ⟨k + 1, by omega, by go_num, hN.drew, rF hlt HB.out hno.out HX.out⟩
           case measure => simp [intOf];omega
      · have ex : (f.x == b.x) = false := by simp [hx]
        have HX : Hid (¬ (b.lo = 0 /\ f.x = b.x /\ f.y = b.y)) := fun h => hx h.2.1;clear hx;go_wp2
        go_region
        all_goals
         go_wp2
         go_roundw
         case rel => exact ⟨k + 1, by omega, by go_num, hN.drew, rF hlt HB.out hno.out HX.out⟩
         case measure => simp [intOf];omega
  · go_wp2
    go_ret;refine ⟨aC ?_, hBr⟩;unfold lJ at hno;rw [ltl (by omega)] at hno;rw [HV.out];exact hno.out.symm
theorem xR (a b : Bx) : aV a b = aV b a := by
 rw [Bool.eq_iff_iff];simp only [aV, fV, eT, jU, bat, dte]
 constructor <;> (rintro ⟨⟨⟨⟨h1, h2⟩, h3⟩, h4⟩, h5⟩;exact ⟨⟨⟨⟨h2, h1⟩, by omega⟩, by omega⟩, by omega⟩)
theorem rX (la lb : List Bx) : (la.any fun a => lb.any (aV a)) = lb.any fun b => la.any (aV b) := by
 rw [Bool.eq_iff_iff];simp only [List.any_eq_true]
 constructor
 · rintro ⟨a, ha, b, hb, h⟩;exact ⟨b, hb, a, ha, by rw [xR];exact h⟩
 · rintro ⟨b, hb, a, ha, h⟩;exact ⟨a, ha, b, hb, by rw [xR];exact h⟩
theorem F7 : ∀ (r : List Bx) (a : Bx), dG (a :: r) = true -> ∀ b ∈ r, a.o <= b.o
 | [], _, _, b, hb => by simp at hb
 | c :: r, a, h, b, hb => by
  rw [dG, bat] at h
  have hac : a.o <= c.o := by
   have := h.1;simp only [cJ, dte] at this;omega
  rcases List.mem_cons.1 hb with rfl | hb
  · exact hac
  · exact Int.le_trans hac (F7 r c h.2 b hb)
theorem BL (f : Int) : ∀ l : List Bx, (∀ b ∈ l, f <= b.o) -> aQ f l = l.map (fC f)
 | [], _ => rfl
 | b :: r, h => by
  rw [aQ, if_pos (h b (by simp)), BL f r (fun c hc => h c (by simp [hc]))];rfl
theorem vB (f : Int) : ∀ l : List Bx, dG l = true -> ∃ k, aQ f l = (l.drop k).map (fC f) /\ ∀ b ∈ l.drop k, f <= b.o
 | [], _ => ⟨0, rfl, by simp⟩
 | a :: r, h => by
  by_cases ha : f <= a.o
  · have hall : ∀ b ∈ a :: r, f <= b.o := fun b hb => by
     rcases List.mem_cons.1 hb with rfl | hb
     · exact ha
     · exact Int.le_trans ha (F7 r a h b hb)
    exact ⟨0, by rw [BL f _ hall];rfl, hall⟩
  · have hr : dG r = true := by
     rw [dN] at h ⊢;intro i hi;exact h (i + 1) (by simpa using hi)
    obtain ⟨k, h1, h2⟩ := vB f r hr;exact ⟨k + 1, by rw [aQ, if_neg ha, h1];rfl, h2⟩
theorem DH {f : Int} {a b : Bx} (h : cJ a b = true) (ha : f <= a.o) : cJ (fC f a) (fC f b) = true := by
 simp only [cJ, dte] at h ⊢;obtain ⟨h1, h2, h3, h4, h5, h6, h7, h8, h9⟩ := h;refine ⟨h1, h2, h3, h4, h5, h6, ?_, h8, ?_⟩
 · show max a.i f <= max b.i f;omega
 · show max b.i f <= a.o + 1;omega
theorem IV {f : Int} {a : Bx} (h : aF a = true) (ha : f <= a.o) : aF (fC f a) = true := by
 simp only [aF, dte] at h ⊢;obtain ⟨h1, h2, h3, h4, h5, h6, h7, h8, h9, h10⟩ := h;refine ⟨h1, h2, h3, h4, h5, h6, h7, ?_, ?_, h10⟩
 · show 0 <= max a.i f;omega
 · show max a.i f <= a.o;omega
theorem vN (fl : List Fx) (f : Int) (l : List Bx) (h : aK fl l = true) (hne : aQ f l ≠ []) : aK fl (aQ f l) = true := by
 simp only [aK, bat] at h;obtain ⟨hl, ha, hp, hd⟩ := h;obtain ⟨k, he, hk⟩ := vB f l hp;rw [he] at hne ⊢
 have hkl : k < l.length := by
  rcases Nat.lt_or_ge k l.length with h | h
  · exact h
  · exfalso;apply hne;rw [List.drop_eq_nil_of_le h];rfl
 have hlen : ((l.drop k).map (fC f)).length = l.length - k := by rw [List.length_map, List.length_drop]
 simp only [kT, dte] at hl;simp only [aK, bat];refine ⟨?_, ?_, ?_, ?_⟩
 · rw [hlen];simp only [kT, dte];omega
 · rw [lat] at ha ⊢
   intro x hx;obtain ⟨b, hb, rfl⟩ := List.mem_map.1 hx;exact IV (ha b (List.mem_of_mem_drop hb)) (hk b hb)
 · rw [dN] at hp ⊢
   intro i hi;rw [hlen] at hi;rw [List.getElem_map, List.getElem_map, List.getElem_drop, List.getElem_drop];have := hp (k + i) (by omega);refine DH (by simpa [Nat.add_assoc] using this) (hk _ ?_);rw [List.mem_iff_getElem];exact ⟨i, by rw [List.length_drop];omega, by rw [List.getElem_drop]⟩
 · have h1 : l.length - 1 < l.length := by omega
   rw [jF fl l h1] at hd;have h2 : ((l.drop k).map (fC f)).length - 1 < ((l.drop k).map (fC f)).length := by rw [hlen];omega
   rw [jF fl _ h2]
   have e : ((l.drop k).map (fC f))[((l.drop k).map (fC f)).length - 1] = fC f l[l.length - 1] := by
    rw [List.getElem_map, List.getElem_drop]
    congr 2
    rw [hlen];omega
   rw [e];exact hd
theorem qE (la lb : List Bx) (aa ab : Option Addr) (ca cb : Nat) (w : World) (hla : iH w aa la) (hlb : iH w ab lb) (hna : la.length <= 1048576) (hnb : lb.length <= 1048576) :
 Calls Tryz.prog 93 #[.slice aa la.length ca, .slice ab lb.length cb] w fun e w' => e = .returned (.bool (la.any fun a => lb.any (aV a))) /\ Below w.heap.size w w' := by
 go_enter Tryz.func93, Tryz.ntmps93
 go_wp2
 go_loopw [9] (fun i wr => ∃ k : Nat, k <= la.length /\ i = .int .i64 k /\ Below w.heap.size w wr /\ Hid ((la.take k).any (fun a => lb.any (aV a)) = false)) (fun i _ => la.length - (intOf i).toNat)
 case atStart => exact ⟨0, nz _, rfl, br _ _, by simp [Hid]⟩
 case round =>
  obtain ⟨k, hk, rfl, hN, hno⟩ := hrel
  by_cases hlt : k < la.length
  · rcases hla with h | ⟨bl, off, rfl, hc⟩
    · subst h;simp at hlt
    · have hbx := (hc k hlt).zL hN
      obtain ⟨b, hbe⟩ : ∃ b, b = la[k] := ⟨_, rfl⟩;rw [← hbe] at hbx;have HB : Hid (b = la[k]) := hbe;clear hbe hc;obtain ⟨c0, c1, c2, c3, c4, c5⟩ := hbx
      rcases Bool.eq_false_or_eq_true (aF b) with hb | hb
      · go_wp2_with (first
        | (go_at_call 142;refine (n5 _ _).mono ?_;rintro e w1 ⟨rfl, hb1⟩;have hN : Below w.heap.size w w1 := aY (by repeat (first | exact hN | refine jO ?_ (nlq _) _)) (nlq _) hb1;obtain ⟨hc1, hf1⟩ := nJ hb1;have hz1 : wr.heap.size < w1.heap.size := (by have := hb1.size;(try simp at this);omega))
        | (go_at_call 143;refine (DD _ _ _ _ _ hb (hlb.zL hN) hnb).mono ?_;rintro e w1 ⟨rfl, hb1⟩;have hN : Below w.heap.size w w1 := aY hN (nlq _) hb1;obtain ⟨v, hv⟩ : ∃ v, v = lb.any (aV b) := ⟨_, rfl⟩;rw [← hv];have HV : Hid (v = lb.any (aV b)) := hv;clear hv))
        · have hv : v = true := by assumption
          go_ret;exact ⟨aC (dK _ la k hlt (by rw [← HB.out, ← HV.out];exact hv)).symm, hN⟩
        · have hv : v = false := by assumption
          go_roundw
          case rel => exact ⟨k + 1, by omega, by go_num, hN, by rw [Hid, eF _ la k hlt, hno.out, ← HB.out, ← HV.out, hv];rfl⟩
          case measure => simp [intOf];omega
      · go_wp2_with (first
        | (go_at_call 142;refine (n5 _ _).mono ?_;rintro e w1 ⟨rfl, hb1⟩;have hN : Below w.heap.size w w1 := aY (by repeat (first | exact hN | refine jO ?_ (nlq _) _)) (nlq _) hb1;obtain ⟨hc1, hf1⟩ := nJ hb1;have hz1 : wr.heap.size < w1.heap.size := (by have := hb1.size;(try simp at this);omega)))
        go_roundw
        case rel => exact ⟨k + 1, by omega, by go_num, hN, by rw [Hid, eF _ la k hlt, hno.out, ← HB.out, tC _ hb];rfl⟩
        case measure => simp [intOf];omega
  · go_wp2
    go_ret;refine ⟨aC ?_, hN⟩;rw [ltl (by omega)] at hno;exact hno.out.symm
theorem yI (la lb : List Bx) (aa ab : Option Addr) (ca cb : Nat) (w : World) (hla : iH w aa la) (hlb : iH w ab lb) (hna : la.length <= 1048576) (hnb : lb.length <= 1048576) :
 Calls Tryz.prog 122 #[.slice aa la.length ca, .slice ab lb.length cb] w fun e w' => e = .returned (.bool (la.any fun a => lb.any (aV a))) /\ Below w.heap.size w w' := by
 go_enter Tryz.func122, Tryz.ntmps122
 go_wp2
 go_loopw [5, 6] (fun i _ wr => ∃ k : Nat, k <= la.length /\ i = .int .i64 k /\ Below w.heap.size w wr /\ Hid ((la.take k).any (fun a => lb.any (aV a)) = false)) (fun i _ _ => la.length - (intOf i).toNat)
 case atStart => exact ⟨0, nz _, rfl, br _ _, by simp [Hid]⟩
 case round =>
  obtain ⟨k, hk, rfl, hN, hno⟩ := hrel
  by_cases hlt : k < la.length
  · rcases hla with h | ⟨bl, off, rfl, hc⟩
    · subst h;simp at hlt
    · have hbx := hc k hlt
      obtain ⟨a, hae⟩ : ∃ a, a = la[k] := ⟨_, rfl⟩;rw [← hae] at hbx;have HA : Hid (a = la[k]) := hae;clear hae hc;go_wp2
      go_loopw [6] (fun i ws => ∃ j : Nat, j <= lb.length /\ i = .int .i64 j /\ Below w.heap.size w ws /\ Hid ((lb.take j).any (aV a) = false)) (fun i _ => lb.length - (intOf i).toNat)
      case atStart => exact ⟨0, nz _, rfl, hN, by simp [Hid]⟩
      case round =>
       clear hN;obtain ⟨j, hj, rfl, hN, hnj⟩ := hrel
       by_cases hlj : j < lb.length
       · rcases hlb with h | ⟨bl2, off2, rfl, hc2⟩
         · subst h;simp at hlj
         · have hby := (hc2 j hlj).zL hN
           have hbz := hbx.zL hN;obtain ⟨b, hbe⟩ : ∃ b, b = lb[j] := ⟨_, rfl⟩;rw [← hbe] at hby;have HB : Hid (b = lb[j]) := hbe;clear hbe hc2 hbx;obtain ⟨c0, c1, c2, c3, c4, c5⟩ := hbz;obtain ⟨d0, d1, d2, d3, d4, d5⟩ := hby;go_wp2_with fail
           go_region_with (go_at_call 162;refine (AF _ _ _).mono ?_;rintro e w1 ⟨rfl, hb1⟩;have hN : Below w.heap.size w w1 := aY (by repeat (first | exact hN | refine Below.drew ?_)) (nlq _) hb1)
           all_goals
            go_wp2
            · have hcl : aV a b = true := by assumption
              go_ret;exact ⟨aC (dK _ la k hlt (by rw [← HA.out];exact dK _ lb j hlj (by rw [← HB.out];exact hcl))).symm, hN⟩
            · have hcl : aV a b = false := by assumption
              go_roundw
              case rel => exact ⟨j + 1, by omega, by go_num, hN, by rw [Hid, eF _ lb j hlj, hnj.out, ← HB.out, hcl];rfl⟩
              case measure => simp [intOf];omega
       · rw [ltl (by omega)] at hnj
         go_wp2
         go_roundw
         case rel => exact ⟨k + 1, by omega, by go_num, hN, by rw [Hid, eF _ la k hlt, hno.out, ← HA.out, hnj.out];rfl⟩
         case measure => simp [intOf];omega
  · go_wp2
    go_ret;refine ⟨aC ?_, hN⟩;rw [ltl (by omega)] at hno;exact hno.out.symm
end Go.Proofs.YtiojdbffjdoniaaGreatDoor
