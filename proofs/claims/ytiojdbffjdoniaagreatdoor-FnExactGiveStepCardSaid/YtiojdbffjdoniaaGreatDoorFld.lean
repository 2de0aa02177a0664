import Derived.Deep.RegionWith
import Derived.Test.YtiojdbffjdoniaaGreatDoorLeaf
namespace Go.Proofs.YtiojdbffjdoniaaGreatDoor
set_option maxRecDepth 100000
set_option maxHeartbeats 1000000
open Go.RowKit
structure Fx where
 n : ByteArray
 x : Int
 y : Int
abbrev Fx.val (f : Fx) : Value := .agg #[.string f.n, .int .i64 f.x, .int .i64 f.y]
def Fx.cells (f : Fx) : List Value := [.string f.n, .int .i64 f.x, .int .i64 f.y]
theorem Fx.cells_length (f : Fx) : f.cells.length = 3 := rfl
theorem Tryz.info82 : (Tryz.prog.info? 82).map (fun i => (i.zero, i.size, i.bytes)) = some (some (.agg #[.string ByteArray.empty, .int .i64 0, .int .i64 0]), 3, 32) := by kernel_rfl
theorem PW (n : Nat) (hn : n <= 1048576) (w : World) :
 (Instr.makeSlice 23 (.int .i64 (n : Int)) (.int .i64 (n : Int))).run Tryz.prog w = .ok (.slice (some ⟨w.heap.size, 0, none⟩) n n) (w.alloc (.cells (madeCells #[.string ByteArray.empty, .int .i64 0, .int .i64 0] (n * 3)) 82)) := by
 obtain ⟨i, hi, hz0, hz1, hz2⟩ := info_parts Tryz.info82; have hr := run_make (P := Tryz.prog) w 23 82 i _ Tryz.underlying23 hi hz0 .i64 .i64 n n (by omega) (Int.le_refl _) (by rw [hz2]; omega) (by omega); rw [hz1, Int.toNat_natCast] at hr; exact hr
theorem IX (f : Fx) (w : World) :
 Calls Tryz.prog 99 #[f.val] w fun e w' => e = .returned f.val /\ Below w.heap.size w w' := by
 go_enter Tryz.func99, Tryz.ntmps99
 go_wp2
 exact bpr (v := f.val) (by simp [results, Tryz.results99, go_sem]) rfl ⟨rfl, (((br _ _).alloc (nlq _) _).alloc (by simp) _).alloc (by simp; omega) _⟩
theorem J5 (f : Fx) (left : Int) (w : World) (h0 : 0 <= left) (h1 : left <= 1048576) (hs : f.n.size <= 9223372036854775807) :
 Calls Tryz.prog 95 #[f.val, .int .i64 left] w fun e w' => (∃ r : Int, e = .returned (.int .i64 r) /\ -1 <= r /\ r <= left) /\ Below w.heap.size w w' := by
 by_cases h : (f.n.size : Int) <= left
 · go_enter Tryz.func95, Tryz.ntmps95
   go_wp2
   go_ret; exact ⟨⟨_, rfl, by omega, by omega⟩, (br _ _).alloc (nlq _) _⟩
 · go_enter Tryz.func95, Tryz.ntmps95
   go_wp2
   go_ret; exact ⟨⟨_, rfl, by omega, by omega⟩, (br _ _).alloc (nlq _) _⟩
theorem EE (a : Fx) (w : World) :
 Calls Tryz.prog 104 #[a.val, a.val] w fun e w' => e = .returned (.bool true) /\ Below w.heap.size w w' := by
 go_enter Tryz.func104, Tryz.ntmps104
 go_wp2
 go_ret; exact ⟨rfl, ((br _ _).alloc (nlq _) _).alloc (by simp) _⟩
theorem iI {w : World} {bl o : Nat} {f : Fx} (h : aN w bl o f.cells) : w.cell? ⟨bl, o, none⟩ = some (.string f.n) /\ w.cell? ⟨bl, o + 1, none⟩ = some (.int .i64 f.x) /\ w.cell? ⟨bl, o + 2, none⟩ = some (.int .i64 f.y) :=
 ⟨h 0 _ rfl, h 1 _ rfl, h 2 _ rfl⟩
theorem uU (l : List Fx) (ao : Option Addr) (cap : Nat) (w : World) (hl : Xs 3 Fx.cells w ao l) (hn : l.length <= 1048576) :
 Calls Tryz.prog 48 #[.slice ao l.length cap] w fun e w' => e = .returned (.slice (some ⟨w.heap.size, 0, none⟩) l.length l.length) /\ bJ 82 3 Fx.cells w' w.heap.size l.length l l.length /\ Below w.heap.size w w' := by
 have hmk := PW l.length hn
 go_enter Tryz.func48, Tryz.ntmps48
 go_wp2
 go_loopw [4] (fun i wr => ∃ k : Nat, k <= l.length /\ i = .int .i64 k /\ bJ 82 3 Fx.cells wr w.heap.size l.length l k /\ Below w.heap.size w wr) (fun i _ => l.length - (intOf i).toNat)
 case atStart => exact ⟨0, nz _, rfl, bJ.start _ _ _ _ _ _, aA (br _ _) _⟩
 case round =>
  clear hmk; obtain ⟨k, hk, rfl, hR, hN⟩ := hrel
  by_cases hlt : k < l.length
  · rcases hl with h | ⟨bl, off, rfl, hc⟩
    · subst h; simp at hlt
    · have hbx := (hc k hlt).zL hN
      obtain ⟨b, hbe⟩ : ∃ b, b = l[k] := ⟨_, rfl⟩; rw [← hbe] at hbx; have HB : Hid (Fx.cells l[k] = [.string b.n, .int .i64 b.x, .int .i64 b.y]) := by rw [← hbe]; rfl
      clear hbe hc; obtain ⟨c0, c1, c2⟩ := iI hbx; clear hbx; obtain ⟨f, hrow, hf⟩ := hR; have HF : Hid (∀ i (h : i < l.length), i < k -> ∀ j v, (Fx.cells l[i])[j]? = some v -> f (i * 3 + j) = v) := hf; clear hf
      go_wp2_with (go_at_call 99; refine (IX _ _).mono ?_; rintro e w1 ⟨rfl, hb1⟩; have hrow1 := hrow.of_block (hb1.block _ hrow.lt); have hN1 : Below w.heap.size w w1 := aT hN (nlq _) hb1; clear hN hrow c0 c1 c2 hb1; have hfr := fun i => hrow1.frozen i; have hz : w.heap.size < w1.heap.size := hrow1.lt; have e0 := hrow1.cell (i := k * 3) (by omega); have e1 := hrow1.cell (i := k * 3 + 1) (by omega); have e2 := hrow1.cell (i := k * 3 + 2) (by omega))
      go_roundw
      case rel => exact ⟨k + 1, by omega, by go_num, bJ.store3 hrow1 HF.out Fx.cells_length HB.out, ((hN1.setCell (by exact nlq _) _).setCell (by exact nlq _) _).setCell (by exact nlq _) _⟩
      case measure => simp [intOf]; omega
  · have hkk : k = l.length := by omega
    go_wp2
    go_ret; exact ⟨rfl, by rw [hkk] at hR; exact hR, hN⟩
theorem F4 (l : List Fx) (ao : Option Addr) (cap : Nat) (w : World) (hl : Xs 3 Fx.cells w ao l) (hn : l.length <= 9223372036854775807) (hs : ∀ f ∈ l, f.n.size <= 9223372036854775807) (left : Int) (h0 : 0 <= left) (h1 : left <= 1048576) :
 Calls Tryz.prog 44 #[.slice ao l.length cap, .int .i64 left] w fun e w' => (∃ r : Int, e = .returned (.int .i64 r) /\ -1 <= r /\ (0 <= r -> r + l.length <= left)) /\ Below w.heap.size w w' := by
 by_cases hle : (l.length : Int) <= left
 · go_enter Tryz.func44, Tryz.ntmps44
   go_wp2
   go_loopw [1, 5] (fun lv i wr => ∃ (k : Nat) (r : Int), k <= l.length /\ i = .int .i64 k /\ lv = .int .i64 r /\ 0 <= r /\ r + l.length <= left /\ Below w.heap.size w wr) (fun _ i _ => l.length - (intOf i).toNat)
   case atStart => exact ⟨0, left - l.length, nz _, rfl, rfl, by omega, by omega, br _ _⟩
   case round =>
    obtain ⟨k, r, hk, rfl, rfl, hr0, hr1, hN⟩ := hrel
    by_cases hlt : k < l.length
    · rcases hl with h | ⟨bl, off, rfl, hc⟩
      · subst h; simp at hlt
      · have hbx := (hc k hlt).zL hN
        have hsz := hs l[k] (lgm hlt); obtain ⟨b, hbe⟩ : ∃ b, b = l[k] := ⟨_, rfl⟩; rw [← hbe] at hbx hsz; clear hbe hc; obtain ⟨c0, c1, c2⟩ := iI hbx; clear hbx
        go_wp2_with (go_at_call 95; refine (J5 _ _ _ (by omega) (by omega) hsz).mono ?_; rintro e w1 ⟨⟨r', rfl, hq0, hq1⟩, hb1⟩; have hN1 : Below w.heap.size w w1 := aT hN (nlq _) hb1; clear hN c0 c1 c2 hb1)
        · go_ret
          exact ⟨⟨_, rfl, by omega, by omega⟩, hN1⟩
        · go_roundw
          case rel => exact ⟨k + 1, r', by omega, by go_num, rfl, by omega, by omega, hN1⟩
          case measure => simp [intOf]; omega
    · go_wp2
      go_ret; exact ⟨⟨_, rfl, by omega, by omega⟩, hN⟩
 · go_enter Tryz.func44, Tryz.ntmps44
   go_wp2
   go_ret; exact ⟨⟨_, rfl, by omega, by omega⟩, br _ _⟩
theorem BW (l : List Fx) (aa ab : Option Addr) (ca cb : Nat) (w : World) (hla : Xs 3 Fx.cells w aa l) (hlb : Xs 3 Fx.cells w ab l) (hna : l.length <= 1048576) :
 Calls Tryz.prog 52 #[.slice aa l.length ca, .slice ab l.length cb] w fun e w' => e = .returned (.bool true) /\ Below w.heap.size w w' := by
 go_enter Tryz.func52, Tryz.ntmps52
 go_wp2
 go_loopw [5] (fun i wr => ∃ k : Nat, k <= l.length /\ i = .int .i64 k /\ Below w.heap.size w wr) (fun i _ => l.length - (intOf i).toNat)
 case atStart => exact ⟨0, nz _, rfl, br _ _⟩
 case round =>
  obtain ⟨k, hk, rfl, hN⟩ := hrel
  by_cases hlt : k < l.length
  · rcases hla with h | ⟨bl, off, rfl, hc⟩
    · subst h; simp at hlt
    rcases hlb with h | ⟨bl2, off2, rfl, hc2⟩
    · subst h; simp at hlt
    have hbx := (hc k hlt).zL hN; have hby := (hc2 k hlt).zL hN; obtain ⟨a, hae⟩ : ∃ a, a = l[k] := ⟨_, rfl⟩; rw [← hae] at hbx hby; clear hae hc hc2; obtain ⟨c0, c1, c2⟩ := iI hbx; obtain ⟨d0, d1, d2⟩ := iI hby; clear hbx hby; go_wp2_with fail
    go_region_with (go_at_call 104; refine (EE _ _).mono ?_; rintro e w1 ⟨rfl, hb1⟩; have hN : Below w.heap.size w w1 := aT (by repeat (first | exact hN | refine Below.drew ?_)) (nlq _) hb1)
    all_goals
     go_wp2
     go_roundw
     case rel => exact ⟨k + 1, by omega, by go_num, hN⟩
     case measure => simp [intOf]; omega
  · go_wp2
    go_ret; exact ⟨rfl, hN⟩
def cV (a b : Bx) : Bool := decide (a.x - b.x <= 1 /\ b.x - a.x <= 1 /\ a.y - b.y <= 1 /\ b.y - a.y <= 1 /\ a.lo <= b.hi /\ b.lo <= a.hi /\ a.i <= b.i /\ a.o <= b.o /\ b.i <= a.o + 1)
def eE : List Bx -> Bool
 | a :: b :: r => cV a b && eE (b :: r)
 | _ => true
theorem eL : ∀ l : List Bx, eE l = true ↔ ∀ i (h : i + 1 < l.length), cV l[i] l[i + 1] = true
 | [] => by simp [eE]
 | [a] => by simp [eE]
 | a :: b :: r => by
  rw [eE, bat, eL (b :: r)]
  constructor
  · rintro ⟨h0, h⟩ i hi
    cases i with
    | zero => exact h0
    | succ i => exact h i (by simpa using hi)
  · intro h
    exact ⟨h 0 (by simp), fun i hi => h (i + 1) (by simpa using hi)⟩
def sU (fl : List Fx) (x y : Int) : Bool := fl.any fun f => decide (f.x = x /\ f.y = y)
def jH (fl : List Fx) (l : List Bx) : Bool :=
 match l[l.length - 1]? with
 | some b => decide (b.lo = 0) && sU fl b.x b.y
 | none => false
def mX (n : Nat) : Bool := decide (1 <= n /\ n <= 40)
def aM (fl : List Fx) (l : List Bx) : Bool := mX l.length && (l.all aG && (eE l && jH fl l))
theorem lQ (fl : List Fx) (l : List Bx) (h : l.length - 1 < l.length) : jH fl l = (decide (l[l.length - 1].lo = 0) && sU fl l[l.length - 1].x l[l.length - 1].y) := by
 rw [jH, lge h]
theorem qL (p : Bx -> Bool) (l : List Bx) (k : Nat) (h : k < l.length) : (l.take (k + 1)).all p = ((l.take k).all p && p l[k]) := by
 rw [List.take_succ_eq_append_getElem h, List.all_append]; simp only [List.all_cons, List.all_nil, Bool.and_true]
theorem pE (p : Bx -> Bool) (l : List Bx) (k : Nat) (h : k < l.length) (hp : p l[k] = false) : l.all p = false := by
 rw [Bool.eq_false_iff]; intro ha; have := lat.1 ha l[k] (lgm h); rw [hp] at this; cases this
theorem qK (l : List Bx) (k : Nat) (h : k + 1 < l.length) (hp : cV l[k] l[k + 1] = false) : eE l = false := by
 rw [Bool.eq_false_iff]; intro ha; have := (eL l).1 ha k h; rw [hp] at this; cases this
theorem oC {b : Bx} (h : aG b = true) : 0 <= b.x /\ b.x < 16 /\ 0 <= b.y /\ b.y < 16 /\ 0 <= b.lo /\ b.lo <= b.hi /\ b.hi <= 6 /\ 0 <= b.i /\ b.i <= b.o /\ b.o <= 10000 := by
 simp only [aG, dte] at h; exact h
def nG (f : Fx) (x y : Int) : Bool := decide (f.x = x /\ f.y = y)
theorem FD (a b : Bx) (w : World) (ha : aG a = true) (hb : aG b = true) :
 Calls Tryz.prog 130 #[a.val, b.val] w fun e w' => e = .returned (.bool (cV a b)) /\ Below w.heap.size w w' := by
 obtain ⟨a1, a2, a3, a4, _, _, _, a5, a6, a7⟩ := oC ha; obtain ⟨b1, b2, b3, b4, _⟩ := oC hb; clear ha hb
 go_enter Tryz.func130, Tryz.ntmps130
 go_wp2_with (go_at_call 69; refine (dP _ _ _ _).mono ?_; rintro e w' ⟨rfl, rfl⟩)
 all_goals go_ret
 all_goals refine ⟨aC ?_, ((br _ _).alloc (nlq _) _).alloc (by simp) _⟩
 all_goals (rw [Bool.eq_iff_iff]; simp only [eB, cV, dte, decide_eq_false_iff_not, Bool.false_eq_true, false_iff] at *; omega)
theorem EI (a b : Bx) (w : World) (ha : aG a = true) (hb : aG b = true) :
 Calls Tryz.prog 210 #[a.val, b.val] w fun e w' => e = .returned (.bool (cV a b)) /\ Below w.heap.size w w' := by
 have hB : Below w.heap.size w w := br _ _; obtain ⟨a1, a2, a3, a4, _, _, _, a5, a6, a7⟩ := oC ha; obtain ⟨b1, b2, b3, b4, _⟩ := oC hb; clear ha hb
 go_enter Tryz.func210, Tryz.ntmps210
 go_wp2_with (first
  | (go_at_call 211; refine (jJ _ _ _ (by assumption) (by assumption) (by assumption) (by assumption)).mono ?_; rintro e w' ⟨rfl, rfl⟩)
  | (go_at_call 176; refine (iV _ _ _).mono ?_; rintro e w1 ⟨rfl, hb1⟩; have hB : Below w.heap.size w w1 := aD (by repeat (first | exact hB | refine aA ?_ _)) hb1; obtain ⟨hc1, hf1⟩ := mY hb1))
 all_goals go_ret
 all_goals refine ⟨aC ?_, by repeat (first | exact hB | refine aA ?_ _)⟩
 all_goals (rw [Bool.eq_iff_iff]; simp only [iG, cV, dte, decide_eq_false_iff_not, Bool.false_eq_true, false_iff] at *; omega)
theorem yA (n cap : Nat) (ao : Option Addr) (w : World) (hn : n <= 1048576) :
 Calls Tryz.prog 170 #[.slice ao n cap] w fun e w' => e = .returned (.bool (mX n)) /\ w' = w := by
 go_enter Tryz.func170, Tryz.ntmps170
 go_wp2
 all_goals go_ret
 all_goals refine ⟨aC ?_, rfl⟩
 all_goals (rw [Bool.eq_iff_iff]; simp only [mX, dte, Bool.false_eq_true, false_iff]; omega)
theorem lB (l : List Fx) (ao : Option Addr) (cap : Nat) (x y : Int) (w : World) (hl : Xs 3 Fx.cells w ao l) (hn : l.length <= 1048576) :
 Calls Tryz.prog 135 #[.slice ao l.length cap, .int .i64 x, .int .i64 y] w fun e w' => e = .returned (.bool (sU l x y)) /\ Below w.heap.size w w' := by
 go_enter Tryz.func135, Tryz.ntmps135
 go_wp2
 go_loopw [11] (fun i wr => ∃ k : Nat, k <= l.length /\ i = .int .i64 k /\ Below w.heap.size w wr /\ Hid ((l.take k).any (fun f => nG f x y) = false)) (fun i _ => l.length - (intOf i).toNat)
 case atStart => exact ⟨0, nz _, rfl, br _ _, by simp [Hid]⟩
 case round =>
  obtain ⟨k, hk, rfl, hN, hno⟩ := hrel
  by_cases hlt : k < l.length
  · rcases hl with h | ⟨bl, off, rfl, hc⟩
    · subst h; simp at hlt
    · have hbx := (hc k hlt).zL hN
      obtain ⟨b, hbe⟩ : ∃ b, b = l[k] := ⟨_, rfl⟩; rw [← hbe] at hbx; have HB : Hid (b = l[k]) := hbe; clear hbe hc; obtain ⟨c0, c1, c2⟩ := iI hbx; clear hbx
      by_cases hx : b.x = x
      · by_cases hy : b.y = y
        · have ex : (b.x == x) = true := by simp [hx]
          have ey : (b.y == y) = true := by simp [hy]
          have HX : Hid (b.x = x /\ b.y = y) := ⟨hx, hy⟩; clear hx hy; go_wp2
          go_ret; exact ⟨aC (eM _ l k hlt (by rw [← HB.out]; exact decide_eq_true HX.out)).symm, hN.alloc hN.size _⟩
        · have ex : (b.x == x) = true := by simp [hx]
          have ey : (b.y == y) = false := by simp [hy]
          have HX : Hid (¬ (b.x = x /\ b.y = y)) := fun h => hy h.2; clear hx hy; go_wp2
          go_roundw
          case rel => exact ⟨k + 1, by omega, by go_num, hN.alloc hN.size _, by rw [Hid, eV _ l k hlt, hno.out, ← HB.out, nG, decide_eq_false HX.out]; rfl⟩
          case measure => simp [intOf]; omega
      · have ex : (b.x == x) = false := by simp [hx]
        have HX : Hid (¬ (b.x = x /\ b.y = y)) := fun h => hx h.1; clear hx; go_wp2
        go_roundw
        case rel => exact ⟨k + 1, by omega, by go_num, hN.alloc hN.size _, by rw [Hid, eV _ l k hlt, hno.out, ← HB.out, nG, decide_eq_false HX.out]; rfl⟩
        case measure => simp [intOf]; omega
  · go_wp2
    go_ret; refine ⟨aC ?_, hN⟩; rw [ltl (by omega)] at hno; exact hno.out.symm
theorem AN (l : List Bx) (ao : Option Addr) (cap : Nat) (w : World) (hl : iL w ao l) (hn : l.length <= 1048576) :
 Calls Tryz.prog 171 #[.slice ao l.length cap] w fun e w' => e = .returned (.bool (l.all aG)) /\ Below w.heap.size w w' := by
 go_enter Tryz.func171, Tryz.ntmps171
 go_wp2
 go_loopw [7] (fun i wr => ∃ k : Nat, k <= l.length /\ i = .int .i64 k /\ Below w.heap.size w wr /\ Hid ((l.take k).all aG = true)) (fun i _ => l.length - (intOf i).toNat)
 case atStart => exact ⟨0, nz _, rfl, br _ _, by simp [Hid]⟩
 case round =>
  obtain ⟨k, hk, rfl, hN, hno⟩ := hrel
  by_cases hlt : k < l.length
  · rcases hl with h | ⟨bl, off, rfl, hc⟩
    · subst h; simp at hlt
    · have hbx := (hc k hlt).zL hN
      obtain ⟨b, hbe⟩ : ∃ b, b = l[k] := ⟨_, rfl⟩; rw [← hbe] at hbx; have HB : Hid (b = l[k]) := hbe; clear hbe hc; obtain ⟨c0, c1, c2, c3, c4, c5⟩ := hbx
      go_wp2_with (go_at_call 142; refine (oF _ _).mono ?_; rintro e w1 ⟨rfl, hb1⟩; have hN : Below w.heap.size w w1 := aT (by repeat (first | exact hN | refine jO ?_ (nlq _) _)) (nlq _) hb1)
      · have hv : aG b = false := nf (by assumption)
        go_ret; exact ⟨aC (pE _ l k hlt (by rw [← HB.out]; exact hv)).symm, hN⟩
      · have hv : aG b = true := nt (by assumption)
        go_roundw
        case rel => exact ⟨k + 1, by omega, by go_num, hN, by rw [Hid, qL _ l k hlt, hno.out, ← HB.out, hv]; rfl⟩
        case measure => simp [intOf]; omega
  · go_wp2
    go_ret; refine ⟨aC ?_, hN⟩; rw [ltl (by omega)] at hno; exact hno.out.symm
theorem EK {l : List Fx} {b : Bx} {k : Nat} {f : Fx} (h : k < l.length) (hf : f = l[k]) (hx : b.lo = 0 /\ f.x = b.x /\ f.y = b.y) : (decide (b.lo = 0) && sU l b.x b.y) = true := by
 have ho : sU l b.x b.y = true := eM _ l k h (by rw [← hf]; exact decide_eq_true hx.2); rw [ho, decide_eq_true hx.1]; rfl
def lK (l : List Fx) (b : Bx) (k : Nat) : Prop := (decide (b.lo = 0) && (l.take k).any (fun f => nG f b.x b.y)) = false
theorem rB {l : List Fx} {b : Bx} {k : Nat} {f : Fx} (h : k < l.length) (hf : f = l[k]) (hno : lK l b k) (hx : ¬ (b.lo = 0 /\ f.x = b.x /\ f.y = b.y)) : lK l b (k + 1) := by
 unfold lK at *; rw [eV _ l k h, ← hf]
 by_cases e : b.lo = 0
 · have e2 : nG f b.x b.y = false := decide_eq_false (fun q => hx ⟨e, q⟩)
   rw [e2, Bool.or_false]; exact hno
 · simp [e]
theorem zG (l : List Fx) (ao : Option Addr) (cap : Nat) (b : Bx) (w : World) (hl : Xs 3 Fx.cells w ao l) (hn : l.length <= 1048576) :
 Calls Tryz.prog 131 #[.slice ao l.length cap, b.val] w fun e w' => e = .returned (.bool (decide (b.lo = 0) && sU l b.x b.y)) /\ Below w.heap.size w w' := by
 obtain ⟨V, hV⟩ : ∃ V, V = (decide (b.lo = 0) && sU l b.x b.y) := ⟨_, rfl⟩; rw [← hV]; have HV : Hid (V = (decide (b.lo = 0) && sU l b.x b.y)) := hV; clear hV; have hS : w.heap.size + 1 <= (w.alloc (.cells #[.int .i64 b.x, .int .i64 b.y, .int .i64 b.lo, .int .i64 b.hi, .int .i64 b.i, .int .i64 b.o] 89)).heap.size := by simp
 go_enter Tryz.func131, Tryz.ntmps131
 go_wp2
 go_loopw [5] (fun i wr => ∃ k : Nat, k <= l.length /\ i = .int .i64 k /\ Below (w.heap.size + 1) (w.alloc (.cells #[.int .i64 b.x, .int .i64 b.y, .int .i64 b.lo, .int .i64 b.hi, .int .i64 b.i, .int .i64 b.o] 89)) wr /\ Hid (lK l b k)) (fun i _ => l.length - (intOf i).toNat)
 case atStart => exact ⟨0, nz _, rfl, br _ _, by simp [Hid, lK]⟩
 case round =>
  obtain ⟨k, hk, rfl, hN, hno⟩ := hrel; have hBr : Below w.heap.size w wr := (aA (br _ _) _).trans (hN.mono (by omega)); have a0 : wr.cell? ⟨w.heap.size, 0, none⟩ = some (.int .i64 b.x) := (hN.cell (by simp)).trans (by simp); have a1 : wr.cell? ⟨w.heap.size, 1, none⟩ = some (.int .i64 b.y) := (hN.cell (by simp)).trans (by simp); have a2 : wr.cell? ⟨w.heap.size, 2, none⟩ = some (.int .i64 b.lo) := (hN.cell (by simp)).trans (by simp)
  by_cases hlt : k < l.length
  · rcases hl with h | ⟨bl, off, rfl, hc⟩
    · subst h; simp at hlt
    · have hbx := (hc k hlt).zL hBr
      obtain ⟨f, hbe⟩ : ∃ f, f = l[k] := ⟨_, rfl⟩; rw [← hbe] at hbx; have HB : Hid (f = l[k]) := hbe; clear hbe hc; obtain ⟨c0, c1, c2⟩ := iI hbx; clear hbx
      by_cases hx : f.x = b.x
      · by_cases hy : f.y = b.y
        · by_cases hz : b.lo = 0
          · have ex : (f.x == b.x) = true := by simp [hx]
            have ey : (f.y == b.y) = true := by simp [hy]
            have ez : (b.lo == 0) = true := by simp [hz]
            have HX : Hid (b.lo = 0 /\ f.x = b.x /\ f.y = b.y) := ⟨hz, hx, hy⟩; clear hx hy hz; go_wp2
            go_region
            all_goals
             go_wp2
             go_ret; exact ⟨aC (by rw [HV.out, EK hlt HB.out HX.out]), hBr.drew⟩
          · have ex : (f.x == b.x) = true := by simp [hx]
            have ey : (f.y == b.y) = true := by simp [hy]
            have ez : (b.lo == 0) = false := by simp [hz]
            have HX : Hid (¬ (b.lo = 0 /\ f.x = b.x /\ f.y = b.y)) := fun h => hz h.1; clear hx hy hz; go_wp2
            go_region
            all_goals
             go_wp2
             go_roundw
             case rel => exact ⟨k + 1, by omega, by go_num, hN.drew, rB hlt HB.out hno.out HX.out⟩
             case measure => simp [intOf]; omega
        · have ex : (f.x == b.x) = true := by simp [hx]
          have ey : (f.y == b.y) = false := by simp [hy]
          have HX : Hid (¬ (b.lo = 0 /\ f.x = b.x /\ f.y = b.y)) := fun h => hy h.2.2; clear hx hy; go_wp2
          go_region
          all_goals
           go_wp2
           go_roundw
           case rel => exact ⟨k + 1, by omega, by go_num, hN.drew, rB hlt HB.out hno.out HX.out⟩
           case measure => simp [intOf]; omega
      · have ex : (f.x == b.x) = false := by simp [hx]
        have HX : Hid (¬ (b.lo = 0 /\ f.x = b.x /\ f.y = b.y)) := fun h => hx h.2.1; clear hx; go_wp2
        go_region
        all_goals
         go_wp2
         go_roundw
         case rel => exact ⟨k + 1, by omega, by go_num, hN.drew, rB hlt HB.out hno.out HX.out⟩
         case measure => simp [intOf]; omega
  · go_wp2
    go_ret; refine ⟨aC ?_, hBr⟩; unfold lK at hno; rw [ltl (by omega)] at hno; rw [HV.out]; exact hno.out.symm
end Go.Proofs.YtiojdbffjdoniaaGreatDoor
