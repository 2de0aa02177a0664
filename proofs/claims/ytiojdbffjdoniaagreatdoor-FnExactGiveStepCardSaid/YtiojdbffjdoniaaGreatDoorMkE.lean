import Derived.Test.YtiojdbffjdoniaaGreatDoorMarkT
import Derived.Test.YtiojdbffjdoniaaGreatDoorMark
import Derived.Test.YtiojdbffjdoniaaGreatDoorAny
namespace Go.Proofs.YtiojdbffjdoniaaGreatDoor
set_option maxRecDepth 100000
set_option maxHeartbeats 2000000
open Go.RowKit
def I7 : Nat -> Int -> ByteArray -> ByteArray
 | 0, _, s => s
 | f + 1, d, s => if 0 < d then I7 f (d / 10) (strOfNums [48 + d % 10] ++ s) else s
theorem K8 (f : Nat) (d : Int) (s : ByteArray) (h : ¬ 0 < d) : I7 f d s = s := by
 cases f with
 | zero => rfl
 | succ f => simp [I7, h]
theorem L0 (f : Nat) (d : Int) (s : ByteArray) (h : 0 < d) : I7 (f + 1) d s = I7 f (d / 10) (strOfNums [48 + d % 10] ++ s) := by simp [I7, h]
def CP (k : Int) : ByteArray := if k <= 0 then ByteArray.mk #[109, 48] else ByteArray.mk #[109] ++ I7 k.toNat k (ByteArray.mk #[])
theorem lC (k : Int) (w : World) (h0 : 0 <= k) (h1 : k <= 4611686018427387904) :
 Calls Tryz.prog 109 #[.int .i64 k] w fun e w' => e = .returned (.string (CP k)) /\ Below w.heap.size w w' := by
 by_cases hk : k <= 0
 · have HM : Hid (CP k = ByteArray.mk #[109, 48]) := by rw [Hid, CP, if_pos hk]
   go_enter Tryz.func109, Tryz.ntmps109
   go_wp2
   go_ret; exact ⟨by rw [HM.out]; rfl, br _ _⟩
 · have HM : Hid (CP k = ByteArray.mk #[109] ++ I7 k.toNat k (ByteArray.mk #[])) := by rw [Hid, CP, if_neg hk]
   go_enter Tryz.func109, Tryz.ntmps109
   go_wp2
   go_loopw [0, 3] (fun kv sv wr => ∃ (d : Int) (s : ByteArray) (f : Nat), 0 <= d /\ (s.size : Int) + d <= 4611686018427387904 /\ d.toNat <= f /\ kv = .int .i64 d /\ sv = .string s /\ Hid (I7 f d s = I7 k.toNat k (ByteArray.mk #[])) /\ Below w.heap.size w wr) (fun kv _ _ => (intOf kv).toNat)
   case atStart => exact ⟨k, ByteArray.mk #[], k.toNat, h0, (by rw [show (ByteArray.mk #[]).size = 0 from rfl]; omega), nlq _, rfl, rfl, by rw [Hid], br _ _⟩
   case round =>
    obtain ⟨d, s, f, d0, d1, hf, rfl, rfl, hE, hN⟩ := hrel
    by_cases hd : 0 < d
    · obtain ⟨f, rfl⟩ : ∃ f', f = f' + 1 := ⟨f - 1, by omega⟩
      have hcv := run_convert_bytes_arg (P := Tryz.prog) (wr.alloc (.cells #[.int .u8 (48 + d % 10)] 5)) _ _ Tryz.underlying22 Tryz.underlying5 wr.heap.size 0 1 1 [48 + d % 10] rfl (fun i hi => by cases Nat.lt_one_iff.1 hi; simp) _ Tryz.underlying9; have hs0 := LC (48 + d % 10); have hs1 : ¬ ((strOfNums [48 + d % 10]).size + s.size > 9223372036854775807) := by omega
      have hsz : ((strOfNums [48 + d % 10] ++ s).size : Int) = 1 + s.size := by rw [ByteArray.size_append, hs0]; omega
      have hE' : Hid (I7 f (d / 10) (strOfNums [48 + d % 10] ++ s) = I7 k.toNat k (ByteArray.mk #[])) := by rw [Hid, ← L0 f d s hd]; exact hE.out
      clear hE; generalize strOfNums [48 + d % 10] = st at hcv hs1 hsz hs0 hE'; go_wp2
      go_roundw
      case rel => exact ⟨d / 10, st ++ s, f, by omega, by omega, by omega, by go_num, rfl, hE', hN.alloc hN.size _⟩
      case measure => simp [intOf]; omega
    · have hs3 : (ByteArray.mk #[109]).size = 1 := rfl
      have hs2 : ¬ ((ByteArray.mk #[109]).size + s.size > 9223372036854775807) := by omega
      have HS : Hid (s = I7 k.toNat k (ByteArray.mk #[])) := by rw [Hid, ← hE.out, K8 _ _ _ hd]
      clear hE; go_wp2
      go_ret; exact ⟨by rw [HM.out, ← HS.out]; rfl, hN⟩
def mF (k : Int) : Fx := ⟨CP k, k + 1, k + 1 + 1⟩
def zQ (k0 : Int) (n : Nat) : List Fx := (List.range n).map (fun i : Nat => mF (k0 + 3 * (i : Int)))
theorem jL (k0 : Int) (n : Nat) : (zQ k0 n).length = n := by simp [zQ]
theorem IF (k0 : Int) (n i : Nat) (h : i < (zQ k0 n).length) : (zQ k0 n)[i] = mF (k0 + 3 * (i : Int)) := by simp [zQ]
theorem L2 (S : Nat -> Prop) (n cap capv g : Nat) (k0 : Int) (w : World) (hS : S g) (hR : ∃ f, w.rowIs g 82 (cap * 3) f) (hnc : n <= cap) (hn : n <= 1048576) (h0 : 0 <= k0) (h1 : k0 <= 1000000000) :
 Calls Tryz.prog 56 #[.slice (some ⟨g, 0, none⟩) n capv, .int .i64 k0] w fun e w' => e = .returned (.int .i64 (k0 + 3 * n)) /\ bJ 82 3 Fx.cells w' g cap (zQ k0 n) n /\ bC S w w' := by
 obtain ⟨f0, hrow0⟩ := hR
 go_enter Tryz.func56, Tryz.ntmps56
 go_wp2
 go_loopw [1, 5] (fun kv i wr => ∃ j : Nat, j <= n /\ i = .int .i64 j /\ kv = .int .i64 (k0 + 3 * (j : Int)) /\ bJ 82 3 Fx.cells wr g cap (zQ k0 n) j /\ bC S w wr) (fun _ i _ => n - (intOf i).toNat)
 case atStart => exact ⟨0, nz _, rfl, by simp, ⟨f0, hrow0, fun i _ hi => absurd hi (by omega)⟩, bC.refl _ _⟩
 case round =>
  clear hrow0; obtain ⟨j, hj, rfl, rfl, hR, hO⟩ := hrel
  by_cases hlt : j < n
  · obtain ⟨f, hrow, hf⟩ := hR
    have hlm : j < (zQ k0 n).length := by rw [jL]; exact hlt
    have HF : Hid (∀ i (h : i < (zQ k0 n).length), i < j -> ∀ q v, ((zQ k0 n)[i].cells)[q]? = some v -> f (i * 3 + q) = v) := hf; have HM : Hid ((zQ k0 n)[j].cells = [.string (CP (k0 + 3 * (j : Int))), .int .i64 (k0 + 3 * (j : Int) + 1), .int .i64 (k0 + 3 * (j : Int) + 1 + 1)]) := by rw [Hid, IF]; rfl
    clear hf; go_wp2_with fail
    refine (lC _ _ (by omega) (by omega)).mono ?_; rintro e w1 ⟨rfl, hb1⟩; have hrow1 := hrow.of_block (hb1.block _ hrow.lt); have hO1 := hO.trans (bC.below hb1); clear hrow hO hb1; obtain ⟨tx, htx⟩ : ∃ tx, CP (k0 + 3 * (j : Int)) = tx := ⟨_, rfl⟩; rw [htx] at HM ⊢; clear htx; have hfr := fun i => hrow1.frozen i; have e0 := hrow1.cell (i := j * 3) (by omega); have e1 := hrow1.cell (i := j * 3 + 1) (by omega); have e2 := hrow1.cell (i := j * 3 + 2) (by omega); go_wp2
    go_roundw
    case rel => exact ⟨j + 1, by omega, by go_num, by go_num, bJ.store3 (hk := hlm) hrow1 HF.out Fx.cells_length HM.out, ((hO1.set hS _ _).set hS _ _).set hS _ _⟩
    case measure => simp [intOf]; omega
  · have hjn : j = n := by omega
    go_wp2
    go_ret; subst hjn; exact ⟨rfl, hR, hO⟩
theorem KI (w : World) (ao : Option Addr) (c : Nat) (k0 : Int) :
 Calls Tryz.prog 56 #[.slice ao 0 c, .int .i64 k0] w fun e w' => e = .returned (.int .i64 k0) /\ w' = w := by
 go_enter Tryz.func56, Tryz.ntmps56
 go_wp2
 go_loopw [1, 5] (fun kv i wr => kv = .int .i64 k0 /\ i = .int .i64 0 /\ wr = w) (fun _ _ _ => 0)
 case atStart => exact ⟨rfl, rfl, rfl⟩
 case round =>
  obtain ⟨rfl, rfl, rfl⟩ := hrel; go_wp2
  go_ret; exact ⟨rfl, rfl⟩
def T7 (sl : Value) (i : Int) (p : Addr) (k : Int) (j : Nat) (v : Value) (_w : World) : Prop :=
 match j with
 | 0 => v = sl
 | 1 => v = .int .i64 i
 | 2 => v = .pointer (some p)
 | 3 => v = .pointer (some p)
 | 4 => v = .string (CP k)
 | 5 => v = .int .i64 k
 | 6 => v = .string (CP k)
 | _ => True
theorem T7.zL {sl : Value} {i : Int} {p : Addr} {k : Int} (j : Nat) (v : Value) (w w' : World) (h : T7 sl i p k j v w) (_ : Below w.heap.size w w') : T7 sl i p k j v w' := h
theorem LO (n capv : Nat) (ao : Option Addr) (w : World) (k0 : Int) (hl : Xs 3 Fx.cells w ao (zQ k0 n)) (hn : n <= 1048576) (h0 : 0 <= k0) (h1 : k0 <= 1000000000) :
 Calls Tryz.prog 60 #[.slice ao n capv, .int .i64 k0] w fun e w' => e = .returned (.int .i64 (k0 + 3 * n)) /\ Below w.heap.size w w' := by
 go_enter Tryz.func60, Tryz.ntmps60
 go_wp2
 go_loopw [1, 5] (fun kv i wr => ∃ j : Nat, j <= n /\ i = .int .i64 j /\ kv = .int .i64 (k0 + 3 * (j : Int)) /\ Below w.heap.size w wr) (fun _ i _ => n - (intOf i).toNat)
 case atStart => exact ⟨0, nz _, rfl, by simp, br _ _⟩
 case round =>
  obtain ⟨j, hj, rfl, rfl, hB⟩ := hrel
  by_cases hlt : j < n
  · have hlm : j < (zQ k0 n).length := by rw [jL]; exact hlt
    rcases hl with h | ⟨bl, off, rfl, hc⟩
    · rw [h] at hlm; simp at hlm
    · have hb := hc j hlm
      rw [IF] at hb; have c0 : wr.cell? ⟨bl, off + j * 3, none⟩ = some (.string (CP (k0 + 3 * (j : Int)))) := (hb.zL hB) 0 _ rfl; have c1 : wr.cell? ⟨bl, off + j * 3 + 1, none⟩ = some (.int .i64 (k0 + 3 * (j : Int) + 1)) := (hb.zL hB) 1 _ rfl; have c2 : wr.cell? ⟨bl, off + j * 3 + 2, none⟩ = some (.int .i64 (k0 + 3 * (j : Int) + 1 + 1)) := (hb.zL hB) 2 _ rfl; clear hc hb; go_wp2_with fail
      refine wpIn_wide.1 (aP (F := Fence.wide) (n := 0) (by kernel_rfl) 7 [some 12, some 13, some 14, some 15, some 16, some 17, some 18] (by decide) (T7 (.slice (some ⟨bl, off, none⟩) n capv) (j : Int) ⟨bl, off + j * 3, none⟩ (k0 + 3 * (j : Int))) T7.zL (by kernel_rfl) (by kernel_rfl) (by kernel_rfl) ?step ?fin)
      case step =>
       intro i o vs w' hi' ho hBr hd
       match i, hi' with
       | 0, _ | 1, _ | 5, _ =>
        simp at ho; subst ho; simp only [aE, Act.put]; gi_wp2; exact ⟨_, by simp [aH], rfl, br _ _⟩
       | 2, _ =>
        simp at ho; subst ho; have d0 : vs 0 = _ := Zq hd 0; have d1 : vs 1 = _ := Zq hd 1; simp only [aE, Act.put]; rw [d0, d1]; gi_wp2; exact ⟨_, by simp [aH, d0, d1], rfl, br _ _⟩
       | 3, _ =>
        simp at ho; subst ho; have d2 : vs 2 = _ := Zq hd 2; simp only [aE, Act.put]; rw [d2]; gi_wp2; exact ⟨_, by simp [aH, d2], rfl, br _ _⟩
       | 4, _ =>
        simp at ho; subst ho; have d3 : vs 3 = _ := Zq hd 3; have c0' := (hBr.cell (aB c0)).trans c0; simp only [aE, Act.put]; rw [d3]; gi_wp2; exact ⟨_, by simp [aH, d3], rfl, br _ _⟩
       | 6, _ =>
        simp at ho; subst ho; have d5 : vs 5 = _ := Zq hd 5; simp only [aE, Act.put]; rw [d5]; gi_wp2_with fail
        refine ⟨trivial, rfl, ?_⟩; refine (cw.2 (lC _ w' (by omega) (by omega))).mono ?_; rintro e w3 ⟨rfl, hb3⟩; gi_wp2; exact ⟨_, by simp [aH, d5], rfl, hb3⟩
       | j + 7, h => exact absurd h (by omega)
      case fin =>
       intro vs w1 hb1 hp; have d4 : vs 4 = _ := hp 4 (by decide); have d6 : vs 6 = _ := hp 6 (by decide); clear hp; simp only [lds, List.drop_zero, aE, Act.put]; rw [d4, d6]; clear d4 d6; generalize vs 0 = v0; generalize vs 1 = v1; generalize vs 2 = v2; generalize vs 3 = v3; generalize vs 5 = v5; have e1 := (hb1.cell (aB c1)).trans c1; have e2 := (hb1.cell (aB c2)).trans c2; have hB1 := aD hB hb1; clear c0 c1 c2 hb1 hB; generalize CP (k0 + 3 * (j : Int)) = tx; gi_wp2_with fail
       go_wp2
       go_roundw
       case rel => exact ⟨j + 1, by omega, by go_num, by go_num, hB1⟩
       case measure => simp [intOf]; omega
  · have hjn : j = n := by omega
    go_wp2
    go_ret; subst hjn; exact ⟨rfl, hB⟩
set_option maxHeartbeats 4000000
def mH (k : Int) (h : Hx) : Hx := ⟨CP k, h.ta, jX (k + 1) h.tl.length, h.tc, h.na, jX (k + 1 + 6 * (h.tl.length : Int)) h.nl.length, h.nc⟩
def OV (k : Int) (h : Hx) : Int := k + 1 + 6 * (h.tl.length : Int) + 6 * (h.nl.length : Int)
def cH : Int -> List Hx -> Int
 | k, [] => k
 | k, h :: r => cH (OV k h) r
def mS : Int -> List Hx -> List Hx
 | _, [] => []
 | k, h :: r => mH k h :: mS (OV k h) r
theorem zH (h : Hx) : ∀ (a : List Hx) (k : Int), cH k (a ++ [h]) = OV (cH k a) h
 | [], _ => rfl
 | _ :: r, k => zH h r (OV k _)
theorem tY (h : Hx) : ∀ (a : List Hx) (k : Int), mS k (a ++ [h]) = mS k a ++ [mH (cH k a) h]
 | [], _ => rfl
 | g :: r, k => congrArg (mH k g :: ·) (tY h r (OV k g))
theorem iC : ∀ (a : List Hx) (k : Int), (mS k a).length = a.length
 | [], _ => rfl
 | _ :: r, k => congrArg (· + 1) (iC r (OV k _))
theorem CZ : ∀ (a : List Hx) (k : Int), (∀ h ∈ a, h.Fit) -> k <= cH k a /\ cH k a <= k + 12582913 * (a.length : Int)
 | [], k, _ => by simp [cH]
 | g :: r, k, hf => by
  have ih := CZ r (OV k g) (fun h hm => hf h (List.mem_cons_of_mem _ hm)); have h1 := (hf g (by simp)).tn; have h2 := (hf g (by simp)).nn; simp only [cH, llc]; unfold OV at ih ⊢; omega
def Hx.bs (h : Hx) : List Nat := (h.ta.map Addr.block).toList ++ (h.na.map Addr.block).toList
theorem MA : ∀ (a : List Hx) (k : Int), ∀ g ∈ mS k a, ∃ g0 ∈ a, g.bs = g0.bs
 | [], _, g, h => by simp [mS] at h
 | x :: r, k, g, h => by
  simp only [mS, List.mem_cons] at h
  rcases h with rfl | h
  · exact ⟨x, by simp, rfl⟩
  · obtain ⟨g0, m, e⟩ := MA r _ g h
    exact ⟨g0, List.mem_cons_of_mem _ m, e⟩
structure cG (z : Nat) (w : World) (h : Hx) : Prop where
 t : aF w z (.slice h.ta h.tl.length h.tc) h.tl
 n : aF w z (.slice h.na h.nl.length h.nc) h.nl
theorem aF.but {S : Nat -> Prop} {w w' : World} {z : Nat} {a : Option Addr} {n c : Nat} {l : List Bx} (h : aF w z (.slice a n c) l) (hb : bC S w w') (hs : ∀ x, a = some x -> ¬ S x.block) : aF w' z (.slice a n c) l := by
 rcases h with h | ⟨g, cap, hv, hg, hc, f, hr, hf⟩
 · exact .inl h
 · have ea : a = some ⟨g, 0, none⟩ := by cases hv; rfl
   exact .inr ⟨g, cap, hv, hg, hc, f, hr.of_block (hb.block g hr.lt (hs _ ea)), hf⟩
theorem cG.but {S : Nat -> Prop} {w w' : World} {z : Nat} {h : Hx} (ho : cG z w h) (hb : bC S w w') (hs : ∀ x ∈ h.bs, ¬ S x) : cG z w' h :=
 ⟨ho.t.but hb (fun x e => hs _ (by simp [Hx.bs, e])), ho.n.but hb (fun x e => hs _ (by simp [Hx.bs, e]))⟩
theorem cG.zL {w w' : World} {z : Nat} {h : Hx} (ho : cG z w h) (hb : Below w.heap.size w w') : cG z w' h := ho.but (bC.below (S := fun _ => False) hb) (fun _ _ e => e)
theorem bC.wide {S S' : Nat -> Prop} {w w' : World} (h : bC S w w') (hs : ∀ k, S k -> S' k) : bC S' w w' := ⟨h.os, h.tape, h.output, h.size, fun k hk g => h.block k hk (fun e => g (hs k e))⟩
theorem KN {q : Nat} {dn rs : List Hx} {h : Hx} (hD : (q :: (dn ++ h :: rs).flatMap Hx.bs).Nodup) : q ∉ h.bs /\ (∀ a b, h.ta = some a -> h.na = some b -> a.block ≠ b.block) /\ ∀ g, g ∈ dn ∨ g ∈ rs -> ∀ x ∈ g.bs, x ≠ q /\ x ∉ h.bs := by
 simp only [List.nodup_cons, List.flatMap_append, List.flatMap_cons, List.nodup_append, lma, List.mem_flatMap, not_or, not_exists, not_and] at hD; obtain ⟨⟨h1, h2, h3⟩, h4, ⟨h5, h6, h7⟩, h8⟩ := hD; refine ⟨h2, fun a b ea eb e => ?_, fun g hg x hx => ?_⟩
 · have h5' := h5
   simp [Hx.bs, ea, eb] at h5'
   exact h5' e
 · rcases hg with hg | hg
   · exact ⟨fun e => h1 g hg (e ▸ hx), fun e => h8 x ⟨g, hg, hx⟩ x (.inl e) rfl⟩
   · exact ⟨fun e => h3 g hg (e ▸ hx), fun e => h7 x e x ⟨g, hg, hx⟩ rfl⟩
theorem bJ.rename {W : World} {q cap kk j : Nat} {L : List Hx} {s : ByteArray} {f : Nat -> Value} {h h' : Hx} (hrow : W.rowIs q 42 (cap * 3) (fun i => if i = j * 3 then .string s else f i))
 (hf : ∀ i (h : i < L.length), i < kk -> ∀ q v, (L[i].cells)[q]? = some v -> f (i * 3 + q) = v) (hj : L[j]? = some h) (e : h'.cells = [.string s, .slice h.ta h.tl.length h.tc, .slice h.na h.nl.length h.nc]) :
 bJ 42 3 Hx.cells W q cap (L.set j h') kk := by
 refine ⟨_, hrow, fun i hi hk c v hc => ?_⟩; have hil : i < L.length := by simpa using hi
 by_cases hij : j = i
 · subst hij
   rw [List.getElem_set_self, e] at hc; have hh : L[j] = h := by have := hj; rw [lge hil] at this; exact Option.some.inj this
   match c, hc with
   | 0, hc => simp at hc; simp [hc]
   | 1, hc => rw [if_neg (by omega)]; exact hf j hil hk 1 v (by rw [hh]; exact hc)
   | 2, hc => rw [if_neg (by omega)]; exact hf j hil hk 2 v (by rw [hh]; exact hc)
 · rw [List.getElem_set_ne hij] at hc
   have hc3 : c < 3 := (lgs.1 hc).1; rw [if_neg (by omega)]; exact hf i hil hk c v hc
theorem AR (l : List Bx) (a : Option Addr) (c z : Nat) (k0 : Int) (w : World) (hO : aF w z (.slice a l.length c) l) (hn : l.length <= 1048576) (h0 : 0 <= k0) (h1 : k0 <= 1000000000) :
 Calls Tryz.prog 59 #[.slice a l.length c, .int .i64 k0] w fun e w' => e = .returned (.int .i64 (k0 + 6 * (l.length : Int))) /\ aF w' z (.slice a l.length c) (jX k0 l.length) /\ bC (fun k => ∃ x, a = some x /\ k = x.block) w w' := by
 rcases hO with ⟨hv, rfl⟩ | ⟨g, cap, hv, h2, h3, h4⟩
 · cases hv
   refine (LL w k0).mono ?_; rintro e w' ⟨rfl, rfl⟩; exact ⟨by simp, Or.inl ⟨rfl, rfl⟩, bC.refl _ _⟩
 · cases hv
   refine (L8 l.length c c g l l.length w h4 h3 hn k0 h0 h1).mono ?_; rintro e w' ⟨rfl, hR, hB⟩; exact ⟨rfl, Or.inr ⟨g, c, by rw [cL], h2, by rw [cL]; exact h3, by rw [cL]; exact hR⟩, bC.only hB ⟨_, rfl, rfl⟩⟩
theorem CF (n : Nat) (a : Option Addr) (c z : Nat) (k0 : Int) (w : World) (hO : aF w z (.slice a n c) (jX k0 n)) (hn : n <= 1048576) (h0 : 0 <= k0) (h1 : k0 <= 1000000000) :
 Calls Tryz.prog 112 #[.slice a n c, .int .i64 k0] w fun e w' => e = .returned (.int .i64 (k0 + 6 * (n : Int))) /\ w' = w := by
 obtain ⟨ao, cap, hv, hl⟩ := hO.slice; rw [cL] at hv
 cases hv
 exact NK n c a w k0 hl hn h0 h1
theorem NR (z q cap capv : Nat) (m : List Hx) (k0 : Int) (w : World) (hR : bJ 42 3 Hx.cells w q cap m m.length) (hnc : m.length <= cap) (hT : ∀ h ∈ m, cG z w h) (hD : (q :: m.flatMap Hx.bs).Nodup) (hF : ∀ h ∈ m, h.Fit) (hn : m.length <= 64) (h0 : 0 <= k0) (h1 : k0 <= 100000000) :
 Calls Tryz.prog 57 #[.slice (some ⟨q, 0, none⟩) m.length capv, .int .i64 k0] w fun e w' => e = .returned (.int .i64 (cH k0 m)) /\ bJ 42 3 Hx.cells w' q cap (mS k0 m) m.length /\ (∀ h ∈ mS k0 m, cG z w' h) /\ bC (fun k => k ∈ q :: m.flatMap Hx.bs) w w' := by
 have HD : Hid _ := hD; have HT : Hid (∀ h ∈ m, cG z w h) := hT; have HFt : Hid (∀ h ∈ m, h.Fit) := hF; clear hD hT hF
 go_enter Tryz.func57, Tryz.ntmps57
 go_wp2
 go_loopw [1, 5] (fun kv i wr => ∃ (dn rs : List Hx), Hid (m = dn ++ rs) /\ i = .int .i64 (dn.length : Int) /\ kv = .int .i64 (cH k0 dn) /\ bJ 42 3 Hx.cells wr q cap (mS k0 dn ++ rs) m.length /\ Hid (∀ h ∈ mS k0 dn ++ rs, cG z wr h) /\ bC (fun k => k ∈ q :: m.flatMap Hx.bs) w wr) (fun _ i _ => m.length - (intOf i).toNat)
 case atStart => exact ⟨[], m, rfl, rfl, rfl, hR, HT, bC.refl _ _⟩
 case round =>
  clear hR HT; obtain ⟨dn, rs, hm, rfl, rfl, ⟨f, hrow, hf⟩, hT, hO⟩ := hrel; have hml : m.length = dn.length + rs.length := by rw [hm.out]; simp
  have hcb := CZ dn k0 (fun h hx => HFt.out h (by rw [hm.out]; simp [hx]))
  cases rs with
  | cons x rs =>
   have hjl : dn.length < m.length := by rw [hml]; simp
   have hxf := HFt.out x (by rw [hm.out]; simp); have hdl : (dn.length : Int) <= 64 := by omega
   clear hml; obtain ⟨kc, hkc⟩ : ∃ kc, kc = cH k0 dn := ⟨_, rfl⟩; have HKC : Hid (kc = cH k0 dn) := hkc; have hk0 : 0 <= kc := by rw [hkc]; omega
   have hk1 : kc <= 100000000 + 12582913 * 64 := by rw [hkc]; omega
   rw [← hkc]; clear hkc hcb
   have hLj : (mS k0 dn ++ x :: rs)[dn.length]? = some x := by
    rw [List.getElem?_append_right (by rw [iC]; exact nlq _), iC]; simp
   have hLl : dn.length < (mS k0 dn ++ x :: rs).length := (lgs.1 hLj).1; have hfx : ∀ c v, (x.cells)[c]? = some v -> f (dn.length * 3 + c) = v := fun c v hc => hf dn.length hLl hjl c v (by rw [(lgs.1 hLj).2]; exact hc); have f1 : f (dn.length * 3 + 1) = .slice x.ta x.tl.length x.tc := hfx 1 _ rfl; have f2 : f (dn.length * 3 + 2) = .slice x.na x.nl.length x.nc := hfx 2 _ rfl; have HF : Hid (∀ i (h : i < (mS k0 dn ++ x :: rs).length), i < m.length -> ∀ c v, ((mS k0 dn ++ x :: rs)[i].cells)[c]? = some v -> f (i * 3 + c) = v) := hf; have HLj : Hid _ := hLj; have hD2 := HD.out; rw [hm.out] at hD2; obtain ⟨hqx, hxx, hoth⟩ := KN hD2; have hTx := hT.out x (by simp)
   have HO : Hid (∀ g, g ∈ mS k0 dn ∨ g ∈ rs -> cG z wr g /\ ∀ y ∈ g.bs, y ≠ q /\ y ∉ x.bs) := fun g hg => by
    refine ⟨hT.out g (by rcases hg with hg | hg <;> simp [hg]), fun y hy => ?_⟩
    rcases hg with hg | hg
    · obtain ⟨g0, hg0, e⟩ := MA dn k0 g hg
      exact hoth g0 (.inl hg0) y (e ▸ hy)
    · exact hoth g (.inr hg) y hy
   have HX : Hid _ := hxx
   have HS : Hid (∀ k, k = q ∨ k ∈ x.bs -> k ∈ q :: m.flatMap Hx.bs) := fun k hk => by
    rcases hk with hk | hk
    · simp [hk]
    · refine List.mem_cons_of_mem _ (List.mem_flatMap.2 ⟨x, ?_, hk⟩)
      rw [hm.out]; simp
   have hqt : ∀ y, x.ta = some y -> y.block ≠ q := fun y e g => hqx (by simp [Hx.bs, e, g]); have hqn : ∀ y, x.na = some y -> y.block ≠ q := fun y e g => hqx (by simp [Hx.bs, e, g]); have HQ : Hid _ := And.intro hqt hqn; clear hf hLj hfx hD2 hqx hxx hoth hT hqt hqn; go_wp2_with fail
   refine (lC _ _ hk0 (by omega)).mono ?_; rintro e w1 ⟨rfl, hb1⟩; obtain ⟨tx, htx⟩ : ∃ tx, CP kc = tx := ⟨_, rfl⟩; rw [htx]; have HTx : Hid (CP kc = tx) := htx; clear htx; have hrow1 := hrow.of_block (hb1.block _ hrow.lt); have hB1 : bC (fun k => k = q ∨ k ∈ x.bs) wr w1 := bC.below hb1; have hTx1 := hTx.zL hb1; clear hrow hb1 hTx; have hfr := fun i => hrow1.frozen i; have e0 := hrow1.cell (i := dn.length * 3) (by omega); have hB2 := hB1.set (g := q) (.inl rfl) (dn.length * 3) (.string tx)
   have hTx2 : cG z (w1.setCell ⟨q, dn.length * 3, none⟩ (.string tx)) x := hTx1.but ((bC.refl (fun k => k = q) w1).set rfl _ _) (fun y hy e => by
    simp only [Hx.bs, lma, Option.mem_toList, Option.map_eq_some_iff] at hy
    rcases hy with ⟨u, hu, hv⟩ | ⟨u, hu, hv⟩
    · exact HQ.out.1 u hu (hv.trans e)
    · exact HQ.out.2 u hu (hv.trans e))
   have hrow2 := hrow1.set (dn.length * 3) (.string tx); have e1 := hrow2.cell (i := dn.length * 3 + 1) (by omega); rw [if_neg (by omega), f1] at e1; go_wp2_with fail
   obtain ⟨W2, hW2⟩ : ∃ W2, w1.setCell ⟨q, dn.length * 3, none⟩ (.string tx) = W2 := ⟨_, rfl⟩; rw [hW2] at hB2 hTx2 hrow2 ⊢; clear hW2 e0 e1 hfr hB1 hTx1 hrow1; have hxt := hxf.tn; have hxn := hxf.nn; refine (AR x.tl x.ta x.tc z _ _ hTx2.t hxt (by omega) (by omega)).mono ?_; rintro e w3 ⟨rfl, hO3, hb3⟩; have hrow3 := hrow2.of_block (hb3.block q hrow2.lt (fun ⟨y, ey, eq⟩ => HQ.out.1 y ey eq.symm)); have hB3 := hB2.trans (hb3.wide (fun k ⟨y, ey, eq⟩ => .inr (by simp [Hx.bs, ey, eq]))); have hN3 := hTx2.n.but hb3 (fun y ey ⟨u, eu, eb⟩ => HX.out u y eu ey eb.symm); clear hrow2 hB2 hTx2 hb3; have e2 := hrow3.cell (i := dn.length * 3 + 2) (by omega); rw [if_neg (by omega), f2] at e2; go_wp2_with fail
   refine (AR x.nl x.na x.nc z _ _ hN3 hxn (by omega) (by omega)).mono ?_; rintro e w5 ⟨rfl, hO5, hb5⟩; have hrow5 := hrow3.of_block (hb5.block q hrow3.lt (fun ⟨y, ey, eq⟩ => HQ.out.2 y ey eq.symm)); have hB5 := hB3.trans (hb5.wide (fun k ⟨y, ey, eq⟩ => .inr (by simp [Hx.bs, ey, eq]))); have hT5 := hO3.but hb5 (fun y ey ⟨u, eu, eb⟩ => HX.out y u ey eu eb); clear hrow3 hB3 hN3 hb5 hO3 e2; have hRn := bJ.rename (h' := mH kc x) hrow5 HF.out HLj.out (by rw [← HTx.out]; simp [Hx.cells, mH, cL])
   have hset : (mS k0 dn ++ x :: rs).set dn.length (mH kc x) = mS k0 (dn ++ [x]) ++ rs := by
    rw [tY, ← HKC.out, List.set_append_right _ _ (by rw [iC]; exact nlq _), iC, Nat.sub_self]; simp
   rw [hset] at hRn; have HRn : Hid _ := hRn
   have HTn : Hid (∀ h ∈ mS k0 (dn ++ [x]) ++ rs, cG z w5 h) := fun g hg => by
    rw [tY, ← HKC.out] at hg; simp only [lma, List.mem_singleton] at hg
    have old : (g ∈ mS k0 dn ∨ g ∈ rs) -> cG z w5 g := fun h => (HO.out g h).1.but hB5 (fun y hy e => by
     have := (HO.out g h).2 y hy
     rcases e with e | e
     · exact this.1 e
     · exact this.2 e)
    rcases hg with (hg | hg) | hg
    · exact old (.inl hg)
    · subst hg
      exact ⟨by simp only [mH, cL]; exact hT5, by simp only [mH, cL]; exact hO5⟩
    · exact old (.inr hg)
   have HBn : Hid _ := hO.trans (hB5.wide HS.out); have HCn : Hid (cH k0 (dn ++ [x]) = kc + 1 + 6 * (x.tl.length : Int) + 6 * (x.nl.length : Int)) := by rw [Hid, zH, ← HKC.out]; rfl
   have HMn : Hid (m = (dn ++ [x]) ++ rs) := by rw [Hid, hm.out]; simp
   clear hRn hset hO5 hT5 hB5 hrow5 HO HX HS HQ HF HLj hO f1 f2; go_wp2
   go_roundw
   case rel => exact ⟨dn ++ [x], rs, HMn, by simp, by rw [HCn.out], HRn.out, HTn, HBn.out⟩
   case measure => simp [intOf]; omega
  | nil =>
   have hjn : m.length <= dn.length := by simp at hml; omega
   clear hml; have hmd : m = dn := by simpa using hm.out
   have HE : Hid (bJ 42 3 Hx.cells wr q cap (mS k0 m) m.length /\ (∀ h ∈ mS k0 m, cG z wr h) /\ cH k0 m = cH k0 dn) := by
    rw [hmd]; exact ⟨⟨f, hrow, by simpa [hmd] using hf⟩, by simpa using hT.out, rfl⟩
   clear hm hf hrow hT hmd; go_wp2
   go_ret; exact ⟨by rw [HE.out.2.2]; rfl, HE.out.1, HE.out.2.1, hO⟩
theorem IB (x : Hx) (rs : List Hx) : ∀ (dn : List Hx) (k : Int), (mS k (dn ++ x :: rs))[dn.length]? = some (mH (cH k dn) x)
 | [], _ => rfl
 | g :: r, k => by
  have := IB x rs r (OV k g)
  simpa [mS, cH] using this
theorem MT (z : Nat) (m : List Hx) (ao : Option Addr) (capv : Nat) (k0 : Int) (w : World) (hX : Xs 3 Hx.cells w ao (mS k0 m)) (hT : ∀ h ∈ mS k0 m, cG z w h) (hF : ∀ h ∈ m, h.Fit) (hn : m.length <= 64) (h0 : 0 <= k0) (h1 : k0 <= 100000000) :
 Calls Tryz.prog 61 #[.slice ao m.length capv, .int .i64 k0] w fun e w' => e = .returned (.int .i64 (cH k0 m)) /\ Below w.heap.size w w' := by
 have HT : Hid (∀ h ∈ mS k0 m, cG z w h) := hT; have HFt : Hid (∀ h ∈ m, h.Fit) := hF; have HX : Hid (Xs 3 Hx.cells w ao (mS k0 m)) := hX; clear hX hT hF
 go_enter Tryz.func61, Tryz.ntmps61
 go_wp2
 go_loopw [1, 5] (fun kv i wr => ∃ (dn rs : List Hx), Hid (m = dn ++ rs) /\ i = .int .i64 (dn.length : Int) /\ kv = .int .i64 (cH k0 dn) /\ Below w.heap.size w wr) (fun _ i _ => m.length - (intOf i).toNat)
 case atStart => exact ⟨[], m, rfl, rfl, rfl, br _ _⟩
 case round =>
  obtain ⟨dn, rs, hm, rfl, rfl, hB⟩ := hrel; have hml : m.length = dn.length + rs.length := by rw [hm.out]; simp
  have hcb := CZ dn k0 (fun h hx => HFt.out h (by rw [hm.out]; simp [hx]))
  cases rs with
  | cons x rs =>
   have hjl : dn.length < m.length := by rw [hml]; simp
   have hxf := HFt.out x (by rw [hm.out]; simp); have hdl : (dn.length : Int) <= 64 := by omega
   have hmid := IB x rs dn k0; rw [← hm.out] at hmid; obtain ⟨kc, hkc⟩ : ∃ kc, kc = cH k0 dn := ⟨_, rfl⟩; have HKC : Hid (kc = cH k0 dn) := hkc; have hk0 : 0 <= kc := by rw [hkc]; omega
   have hk1 : kc <= 100000000 + 12582913 * 64 := by rw [hkc]; omega
   rw [← hkc] at hmid ⊢; clear hkc hcb; have hlt : dn.length < (mS k0 m).length := (lgs.1 hmid).1; have hTx := HT.out (mH kc x) (List.mem_of_getElem? hmid); have hXs := HX.out
   rcases hXs with h | ⟨bl, off, rfl, hc⟩
   · rw [h] at hlt; simp at hlt
   have hcc := hc dn.length hlt; rw [(lgs.1 hmid).2] at hcc; have hcc := hcc.zL hB; have c0 : wr.cell? ⟨bl, off + dn.length * 3, none⟩ = some (.string (CP kc)) := hcc 0 _ rfl; have c1 : wr.cell? ⟨bl, off + dn.length * 3 + 1, none⟩ = some (.slice x.ta x.tl.length x.tc) := hcc 1 _ (by simp [Hx.cells, mH, cL]); have c2 : wr.cell? ⟨bl, off + dn.length * 3 + 2, none⟩ = some (.slice x.na x.nl.length x.nc) := hcc 2 _ (by simp [Hx.cells, mH, cL]); have ht0 := hTx.t; have hn0 := hTx.n; simp only [mH, cL] at ht0 hn0; clear hc hcc hTx hmid hlt; clear hml; go_wp2_with fail
   refine wpIn_wide.1 (aP (F := Fence.wide) (n := 0) (by kernel_rfl) 7 [some 12, some 13, some 14, some 15, some 16, some 17, some 18] (by decide) (T7 (.slice (some ⟨bl, off, none⟩) m.length capv) (dn.length : Int) ⟨bl, off + dn.length * 3, none⟩ kc) T7.zL (by kernel_rfl) (by kernel_rfl) (by kernel_rfl) ?step ?fin)
   case step =>
    intro i o vs w' hi' ho hBr hd
    match i, hi' with
    | 0, _ | 1, _ | 5, _ =>
     simp at ho; subst ho; simp only [aE, Act.put]; gi_wp2; exact ⟨_, by simp [aH], rfl, br _ _⟩
    | 2, _ =>
     simp at ho; subst ho; have d0 : vs 0 = _ := Zq hd 0; have d1 : vs 1 = _ := Zq hd 1; simp only [aE, Act.put]; rw [d0, d1]; gi_wp2; exact ⟨_, by simp [aH, d0, d1], rfl, br _ _⟩
    | 3, _ =>
     simp at ho; subst ho; have d2 : vs 2 = _ := Zq hd 2; simp only [aE, Act.put]; rw [d2]; gi_wp2; exact ⟨_, by simp [aH, d2], rfl, br _ _⟩
    | 4, _ =>
     simp at ho; subst ho; have d3 : vs 3 = _ := Zq hd 3; have c0' := (hBr.cell (aB c0)).trans c0; simp only [aE, Act.put]; rw [d3]; gi_wp2; exact ⟨_, by simp [aH, d3], rfl, br _ _⟩
    | 6, _ =>
     simp at ho; subst ho; have d5 : vs 5 = _ := Zq hd 5; simp only [aE, Act.put]; rw [d5]; gi_wp2_with fail
     refine ⟨trivial, rfl, ?_⟩; refine (cw.2 (lC _ w' (by omega) (by omega))).mono ?_; rintro e w3 ⟨rfl, hb3⟩; gi_wp2; exact ⟨_, by simp [aH, d5], rfl, hb3⟩
    | j + 7, h => exact absurd h (by omega)
   case fin =>
    intro vs w1 hb1 hp; have d4 : vs 4 = _ := hp 4 (by decide); have d6 : vs 6 = _ := hp 6 (by decide); clear hp; simp only [lds, List.drop_zero, aE, Act.put]; rw [d4, d6]; clear d4 d6; generalize vs 0 = v0; generalize vs 1 = v1; generalize vs 2 = v2; generalize vs 3 = v3; generalize vs 5 = v5; have d1 := (hb1.cell (aB c1)).trans c1; have d2 := (hb1.cell (aB c2)).trans c2; have hB1 := aD hB hb1; have ht1 := ht0.but (bC.below (S := fun _ => False) hB1) (fun _ _ e => e); have hn1 := hn0.but (bC.below (S := fun _ => False) hB1) (fun _ _ e => e); clear c0 c1 c2 hb1 hB ht0 hn0; generalize CP kc = tx; have hxt := hxf.tn; have hxn := hxf.nn; have g1 : decide (kc + 1 + 6 * (x.tl.length : Int) < 0) = false := by simp; omega
    have g2 : decide (kc + 1 + 6 * (x.tl.length : Int) + 6 * (x.nl.length : Int) < 0) = false := by simp; omega
    gi_wp2_with fail
    go_wp2_with fail
    refine (CF x.tl.length x.ta x.tc z _ _ ht1 hxt (by omega) (by omega)).mono ?_; rintro e w2 ⟨rfl, hw2⟩; subst hw2; go_wp2_with fail
    refine (CF x.nl.length x.na x.nc z _ _ hn1 hxn (by omega) (by omega)).mono ?_; rintro e w3 ⟨rfl, hw3⟩; subst hw3; have HCn : Hid (cH k0 (dn ++ [x]) = kc + 1 + 6 * (x.tl.length : Int) + 6 * (x.nl.length : Int)) := by rw [Hid, zH, ← HKC.out]; rfl
    have HMn : Hid (m = (dn ++ [x]) ++ rs) := by rw [Hid, hm.out]; simp
    clear ht1 hn1; go_wp2
    go_roundw
    case rel => exact ⟨dn ++ [x], rs, HMn, by simp, by rw [HCn.out], hB1⟩
    case measure => simp [intOf]; omega
  | nil =>
   have hjn : m.length <= dn.length := by simp at hml; omega
   clear hml; have HE : Hid (cH k0 m = cH k0 dn) := by rw [Hid, hm.out]; simp
   clear hm; go_wp2
   go_ret; exact ⟨by rw [HE.out]; rfl, hB⟩
theorem KV (w : World) (ao : Option Addr) (c : Nat) (k0 : Int) :
 Calls Tryz.prog 57 #[.slice ao 0 c, .int .i64 k0] w fun e w' => e = .returned (.int .i64 k0) /\ w' = w := by
 go_enter Tryz.func57, Tryz.ntmps57
 go_wp2
 go_loopw [1, 5] (fun kv i wr => kv = .int .i64 k0 /\ i = .int .i64 0 /\ wr = w) (fun _ _ _ => 0)
 case atStart => exact ⟨rfl, rfl, rfl⟩
 case round =>
  obtain ⟨rfl, rfl, rfl⟩ := hrel; go_wp2
  go_ret; exact ⟨rfl, rfl⟩
structure cP (z : Nat) (w : World) (b : Bk) : Prop where
 f : b.fl = [] ∨ ∃ p cap, b.fa = some ⟨p, 0, none⟩ /\ z <= p /\ b.fl.length <= cap /\ bJ 82 3 Fx.cells w p cap b.fl b.fl.length
 h : b.hl = [] ∨ ∃ q cap, b.ha = some ⟨q, 0, none⟩ /\ z <= q /\ b.hl.length <= cap /\ bJ 42 3 Hx.cells w q cap b.hl b.hl.length
 t : ∀ h ∈ b.hl, cG z w h
 d : ((b.fa.map Addr.block).toList ++ ((b.ha.map Addr.block).toList ++ b.hl.flatMap Hx.bs)).Nodup
 z : ∀ k ∈ (b.fa.map Addr.block).toList ++ ((b.ha.map Addr.block).toList ++ b.hl.flatMap Hx.bs), z <= k
def IA (k : Int) (b : Bk) : Bk := ⟨b.now, b.fa, zQ k b.fl.length, b.fc, b.ha, mS (k + 3 * (b.fl.length : Int)) b.hl, b.hc⟩
theorem uL : ∀ (a : List Hx) (k : Int), (mS k a).flatMap Hx.bs = a.flatMap Hx.bs
 | [], _ => rfl
 | g :: r, k => by simp only [mS, List.flatMap_cons]; rw [uL r]; rfl
theorem bJ.but {α : Type} {t sz : Nat} {c : α -> List Value} {S : Nat -> Prop} {w w' : World} {bl n k : Nat} {l : List α} (h : bJ t sz c w bl n l k) (hb : bC S w w') (hs : ¬ S bl) : bJ t sz c w' bl n l k := by
 obtain ⟨f, hrow, hf⟩ := h; exact ⟨f, hrow.of_block (hb.block _ hrow.lt hs), hf⟩
theorem cP.but {S : Nat -> Prop} {z : Nat} {w w' : World} {b : Bk} (h : cP z w b) (hb : bC S w w') (hs : ∀ k, S k -> k < z) : cP z w' b := by
 have hn : ∀ k, k ∈ (b.fa.map Addr.block).toList ++ ((b.ha.map Addr.block).toList ++ b.hl.flatMap Hx.bs) -> ¬ S k := fun k hk g => by have := h.z k hk; have := hs k g; omega
 refine ⟨?_, ?_, fun x hx => (h.t x hx).but hb (fun y hy => hn y ?_), h.d, h.z⟩
 · rcases h.f with e | ⟨p, cap, e, h1, h2, h3⟩
   · exact .inl e
   · exact .inr ⟨p, cap, e, h1, h2, h3.but hb (hn p (by simp [e]))⟩
 · rcases h.h with e | ⟨p, cap, e, h1, h2, h3⟩
   · exact .inl e
   · exact .inr ⟨p, cap, e, h1, h2, h3.but hb (hn p (by simp [e]))⟩
 · exact List.mem_append_right _ (List.mem_append_right _ (List.mem_flatMap.2 ⟨x, hx, hy⟩))
theorem cP.zL {z : Nat} {w w' : World} {b : Bk} (h : cP z w b) (hb : Below w.heap.size w w') : cP z w' b := h.but (bC.below (S := fun _ => False) hb) (fun _ e => e.elim)
theorem cP.weak {z z' : Nat} {w : World} {b : Bk} (h : cP z w b) (hz : z' <= z) : cP z' w b := by
 have ow : ∀ {v : Value} {l : List Bx}, aF w z v l -> aF w z' v l := fun h => by
  rcases h with h | ⟨g, cap, h1, h2, h3⟩
  · exact .inl h
  · exact .inr ⟨g, cap, h1, by omega, h3⟩
 refine ⟨?_, ?_, fun x hx => ⟨ow (h.t x hx).t, ow (h.t x hx).n⟩, h.d, fun k hk => Nat.le_trans hz (h.z k hk)⟩
 · rcases h.f with e | ⟨p, cap, e, h1, h2⟩
   · exact .inl e
   · exact .inr ⟨p, cap, e, by omega, h2⟩
 · rcases h.h with e | ⟨p, cap, e, h1, h2⟩
   · exact .inl e
   · exact .inr ⟨p, cap, e, by omega, h2⟩
theorem cP.fs {z : Nat} {w : World} {b : Bk} (h : cP z w b) : Xs 3 Fx.cells w b.fa b.fl := by
 rcases h.f with e | ⟨p, cap, e, _, h2, h3⟩
 · exact .inl e
 · rw [e]; exact h3.xs Fx.cells_length (nlq _) h2
theorem cP.hs {z : Nat} {w : World} {b : Bk} (h : cP z w b) : Xs 3 Hx.cells w b.ha b.hl := by
 rcases h.h with e | ⟨p, cap, e, _, h2, h3⟩
 · exact .inl e
 · rw [e]; exact h3.xs Hx.cells_length (nlq _) h2
theorem aF.xs {w : World} {z : Nat} {a : Option Addr} {n c : Nat} {l : List Bx} (h : aF w z (.slice a n c) l) : iL w a l := by
 obtain ⟨a', c', hv, hb⟩ := h.slice
 cases hv
 exact hb
theorem cP.inn {z : Nat} {w : World} {b : Bk} (h : cP z w b) : ∀ x ∈ b.hl, x.In w := fun x hx => ⟨(h.t x hx).t.xs, (h.t x hx).n.xs⟩
def nW (b : Bk) (k : Nat) : Prop := (b.fl ≠ [] /\ k ∈ (b.fa.map Addr.block).toList) ∨ (b.hl ≠ [] /\ k ∈ (b.ha.map Addr.block).toList) ∨ k ∈ b.hl.flatMap Hx.bs
theorem aF.lt {w : World} {z : Nat} {a : Option Addr} {n c : Nat} {l : List Bx} (h : aF w z (.slice a n c) l) : ∀ x, a = some x -> x.block < w.heap.size := by
 intro x e
 rcases h with ⟨hv, _⟩ | ⟨g, cap, hv, _, _, f, hr, _⟩
 · cases hv; cases e
 · cases hv; cases e; exact hr.lt
theorem cP.touched {z : Nat} {w : World} {b : Bk} (h : cP z w b) : ∀ k, nW b k -> z <= k /\ k < w.heap.size := by
 intro k hk
 rcases hk with ⟨hn, hk⟩ | ⟨hn, hk⟩ | hk
 · refine ⟨h.z k (List.mem_append_left _ hk), ?_⟩
   rcases h.f with e | ⟨p, cap, e, _, _, h3⟩
   · exact absurd e hn
   · rw [e] at hk; simp at hk; subst hk; exact h3.lt
 · refine ⟨h.z k (List.mem_append_right _ (List.mem_append_left _ hk)), ?_⟩
   rcases h.h with e | ⟨p, cap, e, _, _, h3⟩
   · exact absurd e hn
   · rw [e] at hk; simp at hk; subst hk; exact h3.lt
 · refine ⟨h.z k (List.mem_append_right _ (List.mem_append_right _ hk)), ?_⟩
   obtain ⟨x, hx, hk⟩ := List.mem_flatMap.1 hk; simp only [Hx.bs, lma, Option.mem_toList, Option.map_eq_some_iff] at hk
   rcases hk with ⟨a, ha, rfl⟩ | ⟨a, ha, rfl⟩
   · exact (h.t x hx).t.lt a ha
   · exact (h.t x hx).n.lt a ha
theorem JK (z : Nat) (b : Bk) (w : World) (hA : cP z w b) (hF : ∀ h ∈ b.hl, h.Fit) (hnf : b.fl.length <= 1048576) (hnh : b.hl.length <= 64) :
 Calls Tryz.prog 19 #[b.val, .int .i64 1] w fun e w' => e = .returned (.int .i64 (cH (1 + 3 * (b.fl.length : Int)) b.hl)) /\ cP z w' (IA 1 b) /\ bC (nW b) w w' := by
 obtain ⟨now, fa, fl, fc, ha, hl, hc⟩ := b; have hAz := hA; have hB0 : Below w.heap.size w (w.alloc (.cells #[.int .i64 now, .slice fa fl.length fc, .slice ha hl.length hc] 29)) := aA (br _ _) _; have A0 := wnq w (.cells #[.int .i64 now, .slice fa fl.length fc, .slice ha hl.length hc] 29); have hA1 := hA.zL hB0; have hd := hA.d; have hzz := hA.z; simp only at hF hnf hnh hd hzz; have hlt : ∀ (S : Nat -> Prop) (X : World), bC S (w.alloc (.cells #[.int .i64 now, .slice fa fl.length fc, .slice ha hl.length hc] 29)) X -> ¬ S w.heap.size -> X.heap[w.heap.size]? = some (.cells #[.int .i64 now, .slice fa fl.length fc, .slice ha hl.length hc] 29) := fun S X h hs => (h.block _ (bH A0) hs).trans A0; have hbW : bC (nW ⟨now, fa, fl, fc, ha, hl, hc⟩) w (w.alloc (.cells #[.int .i64 now, .slice fa fl.length fc, .slice ha hl.length hc] 29)) := bC.below hB0
 have stepF : Calls Tryz.prog 56 #[.slice fa fl.length fc, .int .i64 1] (w.alloc (.cells #[.int .i64 now, .slice fa fl.length fc, .slice ha hl.length hc] 29)) fun e w' => e = .returned (.int .i64 (1 + 3 * (fl.length : Int))) /\ (zQ 1 fl.length = [] ∨ ∃ p cap, fa = some ⟨p, 0, none⟩ /\ z <= p /\ fl.length <= cap /\ bJ 82 3 Fx.cells w' p cap (zQ 1 fl.length) fl.length) /\ bC (fun k => fl ≠ [] /\ k ≠ w.heap.size /\ k ∈ (fa.map Addr.block).toList) (w.alloc (.cells #[.int .i64 now, .slice fa fl.length fc, .slice ha hl.length hc] 29)) w' := by
  by_cases hfe : fl = []
  · subst hfe
    refine (KI _ fa fc 1).mono ?_; rintro e w' ⟨rfl, rfl⟩; exact ⟨by simp, .inl rfl, bC.refl _ _⟩
  · rcases hA1.f with e | ⟨p, cap, e, h1, h2, h3⟩
    · exact absurd e hfe
    simp only at e h2 h3; subst e; obtain ⟨f0, hr0, hv0⟩ := h3
    have hpw : p ≠ w.heap.size := fun e => by
     rcases hA.f with e' | ⟨p', cap', e', _, _, h3'⟩
     · exact absurd e' hfe
     · simp only at e' h3'
       cases e'
       have := h3'.lt; omega
    refine (L2 (fun k => k = p) fl.length cap fc p 1 _ rfl ⟨f0, hr0⟩ h2 hnf (by omega) (by omega)).mono ?_; rintro e w' ⟨rfl, hR, hb⟩; exact ⟨rfl, .inr ⟨p, cap, rfl, h1, h2, hR⟩, hb.wide (fun k hk => by subst hk; exact ⟨hfe, hpw, by simp⟩)⟩
 go_enter Tryz.func19, Tryz.ntmps19
 go_wp2_with fail
 refine stepF.mono ?_; rintro e w1 ⟨rfl, hF1, hb1⟩; have A1 := hlt _ w1 hb1 (fun h => h.2.1 rfl); have k2 : w1.cell? ⟨w.heap.size, 2, none⟩ = some (.slice ha hl.length hc) := bF A1 rfl; have hdis : ∀ k, k ∈ (ha.map Addr.block).toList ++ hl.flatMap Hx.bs -> ¬ (fl ≠ [] /\ k ≠ w.heap.size /\ k ∈ (fa.map Addr.block).toList) := fun k hk g => (List.nodup_append.1 hd).2.2 k g.2.2 k hk rfl
 have hH1 : hl = [] ∨ ∃ q cap, ha = some ⟨q, 0, none⟩ /\ z <= q /\ hl.length <= cap /\ bJ 42 3 Hx.cells w1 q cap hl hl.length := by
  rcases hA1.h with e | ⟨q, cap, e, h1, h2, h3⟩
  · exact .inl e
  · simp only at e h2 h3
    exact .inr ⟨q, cap, e, h1, h2, h3.but hb1 (hdis q (by simp [e]))⟩
 have hT1 : ∀ x ∈ hl, cG z w1 x := fun x hx => (hA1.t x hx).but hb1 (fun y hy => hdis y (List.mem_append_right _ (List.mem_flatMap.2 ⟨x, hx, hy⟩))); have hb1' := hbW.trans (hb1.wide (S' := nW ⟨now, fa, fl, fc, ha, hl, hc⟩) (fun k h => .inl ⟨h.1, h.2.2⟩)); clear hA1 hb1 hlt stepF A0 A1 hB0 hbW; go_wp2_with fail
 by_cases hhe : hl = []
 · subst hhe
   refine (KV _ ha hc _).mono ?_; rintro e w2 ⟨rfl, hw2⟩; subst hw2; go_wp2
   go_ret; refine ⟨rfl, ⟨?_, .inl rfl, fun x hx => absurd hx (by simp [IA, mS]), by simpa [IA, mS] using hd, by simpa [IA, mS] using hzz⟩, hb1'⟩
   rcases hF1 with e | ⟨p, cap, e, g1, g2, g3⟩
   · exact .inl e
   · exact .inr ⟨p, cap, e, g1, by simpa [IA, jL] using g2, by simpa [IA, jL] using g3⟩
 · rcases hH1 with e | ⟨q, cap, e, h1, h2, h3⟩
   · exact absurd e hhe
   subst e; have hdq : (q :: hl.flatMap Hx.bs).Nodup := by simpa using (List.nodup_append.1 hd).2.1
   refine (NR z q cap hc hl _ w1 h3 h2 hT1 hdq hF hnh (by omega) (by omega)).mono ?_; rintro e w2 ⟨rfl, hR2, hT2, hb2⟩
   have hb3 := hb1'.trans (hb2.wide (S' := nW ⟨now, fa, fl, fc, some ⟨q, 0, none⟩, hl, hc⟩) (fun k hk => by
    rcases List.mem_cons.1 hk with rfl | hk
    · exact .inr (.inl ⟨hhe, by simp⟩)
    · exact .inr (.inr hk)))
   have HE : Hid (cP z w2 (IA 1 ⟨now, fa, fl, fc, some ⟨q, 0, none⟩, hl, hc⟩)) := by
    refine ⟨?_, .inr ⟨q, cap, rfl, h1, by simpa [IA, iC] using h2, by simpa [IA, iC] using hR2⟩, hT2, by simpa [IA, uL] using hd, by simpa [IA, uL] using hzz⟩
    rcases hF1 with e | ⟨p, cp, e, g1, g2, g3⟩
    · exact .inl e
    · refine .inr ⟨p, cp, e, g1, by simpa [IA, jL] using g2, ?_⟩
      have : bJ 82 3 Fx.cells w2 p cp (zQ 1 fl.length) fl.length := g3.but hb2 (fun h => (List.nodup_append.1 hd).2.2 p (by simp [e]) p (by simpa using h) rfl)
      simpa [IA, jL] using this
   clear hR2 hT2 hb2 h3 hT1 hF1; go_wp2
   go_ret; exact ⟨rfl, HE.out, hb3⟩
theorem xH (z : Nat) (b : Bk) (w : World) (hA : cP z w (IA 1 b)) (hF : ∀ h ∈ b.hl, h.Fit) (hnf : b.fl.length <= 1048576) (hnh : b.hl.length <= 64) :
 Calls Tryz.prog 21 #[b.val, .int .i64 1] w fun e w' => e = .returned (.int .i64 (cH (1 + 3 * (b.fl.length : Int)) b.hl)) /\ Below w.heap.size w w' := by
 obtain ⟨now, fa, fl, fc, ha, hl, hc⟩ := b; have hB0 : Below w.heap.size w (w.alloc (.cells #[.int .i64 now, .slice fa fl.length fc, .slice ha hl.length hc] 29)) := aA (br _ _) _; have A0 := wnq w (.cells #[.int .i64 now, .slice fa fl.length fc, .slice ha hl.length hc] 29); have hF1 : Xs 3 Fx.cells w fa (zQ 1 fl.length) := hA.fs; have hH1 : Xs 3 Hx.cells w ha (mS (1 + 3 * (fl.length : Int)) hl) := hA.hs; have hT1 : ∀ x ∈ mS (1 + 3 * (fl.length : Int)) hl, cG z w x := hA.t; have hcb := CZ hl (1 + 3 * (fl.length : Int)) hF; simp only at hF hnf hnh hcb; clear hA
 go_enter Tryz.func21, Tryz.ntmps21
 go_wp2_with fail
 refine (LO fl.length fc fa _ 1 (hF1.zL hB0) hnf (by omega) (by omega)).mono ?_; rintro e w1 ⟨rfl, hb1⟩; have N1 := aD hB0 hb1; have A1 := (hb1.block _ (bH A0)).trans A0; have k2 : w1.cell? ⟨w.heap.size, 2, none⟩ = some (.slice ha hl.length hc) := bF A1 rfl; have g1 : decide ((1 : Int) + 3 * (fl.length : Int) < 0) = false := by simp; omega
 clear A0 A1 hb1 hB0; go_wp2_with fail
 refine (MT z hl ha hc _ w1 (hH1.zL N1) (fun x hx => (hT1 x hx).zL N1) hF hnh (by omega) (by omega)).mono ?_; rintro e w2 ⟨rfl, hb2⟩; obtain ⟨q, hq⟩ : ∃ q, q = cH (1 + 3 * (fl.length : Int)) hl := ⟨_, rfl⟩; have HQ : Hid (q = cH (1 + 3 * (fl.length : Int)) hl) := hq; rw [← hq] at hcb ⊢; have g2 : decide (q < 0) = false := by simp; omega
 have N2 := aD N1 hb2; clear hq k2 hb2 N1; go_wp2
 go_ret; exact ⟨by rw [← HQ.out]; rfl, N2⟩
end Go.Proofs.YtiojdbffjdoniaaGreatDoor
