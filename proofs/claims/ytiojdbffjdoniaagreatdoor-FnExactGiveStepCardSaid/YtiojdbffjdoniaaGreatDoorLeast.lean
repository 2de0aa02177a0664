import Derived.Test.YtiojdbffjdoniaaGreatDoorWith
import Derived.Test.YtiojdbffjdoniaaGreatDoorTubes
namespace Go.Proofs.YtiojdbffjdoniaaGreatDoor
set_option maxRecDepth 100000
set_option maxHeartbeats 800000
open Go.RowKit
def cB (t : List Bx) : Sp := ⟨10000 - (kK t (t.length - 1)).o + 1, 300⟩
theorem DN (t : List Bx) (ta : Option Addr) (tc : Nat) (w : World) (ht : iL w ta t) (h1 : 1 <= t.length) (h2 : t.length <= 40) (hok : t.all aG = true) :
 Calls Tryz.prog 244 #[.slice ta t.length tc] w fun e w' => e = .returned (cB t).val /\ Below w.heap.size w w' := by
 rcases ht with h | ⟨bl, off, rfl, hc⟩
 · subst h; simp at h1
 have hbx := hc (t.length - 1) (by omega); obtain ⟨b, hbe⟩ : ∃ b, b = kK t (t.length - 1) := ⟨_, rfl⟩; rw [← fC t (t.length - 1) (by omega), ← hbe] at hbx; have hob : aG b = true := by rw [hbe]; exact qK hok _
 have hoo : 0 <= b.o /\ b.o <= 10000 := by simp only [aG, dte] at hob; omega
 obtain ⟨o1, o2⟩ := hoo; have HB : Hid (b = kK t (t.length - 1)) := hbe; clear hbe hc; obtain ⟨c0, c1, c2, c3, c4, c5⟩ := hbx; have hbz : bl < w.heap.size := aB c0; have e1 : (t.length : Int) - 1 = ((t.length - 1 : Nat) : Int) := by omega
 have hq1 : (0 : Int) <= ((t.length - 1 : Nat) : Int) := by omega
 have hq2 : ((t.length - 1 : Nat) : Int) < (t.length : Int) := by omega
 go_enter Tryz.func244, Tryz.ntmps244
 go_wp2
 refine bpr (v := (cB t).val) ?_ rfl ⟨rfl, aA (aA (br _ _) _) _⟩; rw [cB, ← HB.out]
 simp [results, Tryz.results244, go_sem]
end Go.Proofs.YtiojdbffjdoniaaGreatDoor
namespace Go.Proofs.YtiojdbffjdoniaaGreatDoor
set_option maxRecDepth 100000
set_option maxHeartbeats 4000000
open Go.RowKit Go.Shelf
attribute [local go_sem] Oper.semAt_some
def iE (la lb : List Bx) (m : Nat) : Bx × Bx := (kK la (m / lb.length), kK lb (m % lb.length))
theorem xR {la lb : List Bx} (k s : Nat) (hs : s < lb.length) : iE la lb (k * lb.length + s) = (kK la k, kK lb s) := by
 have e1 : (k * lb.length + s) / lb.length = k := by rw [Nat.add_comm, Nat.add_mul_div_right _ _ (by omega), Nat.div_eq_of_lt hs, Nat.zero_add]
 have e2 : (k * lb.length + s) % lb.length = s := by rw [Nat.add_comm, Nat.add_mul_mod_self_right, Nat.mod_eq_of_lt hs]
 simp only [iE, e1, e2]
theorem sH {X : Nat -> Prop} {w w' : World} {bl o : Nat} {b : Bx} (h : eC w bl o b) (hk : aU X w w') (hx : ¬ X bl) : eC w' bl o b := by
 obtain ⟨h0, h1, h2, h3, h4, h5⟩ := h; exact ⟨hk.cell (p := ⟨bl, _, none⟩) hx h0, hk.cell (p := ⟨bl, _, none⟩) hx h1, hk.cell (p := ⟨bl, _, none⟩) hx h2, hk.cell (p := ⟨bl, _, none⟩) hx h3, hk.cell (p := ⟨bl, _, none⟩) hx h4, hk.cell (p := ⟨bl, _, none⟩) hx h5⟩
theorem KD (n : Nat) (lp B1 B2 n₀ c1 c2 : Nat) (X : Nat -> Prop) (hX0 : ∀ k, X k -> k < n₀) (aa ab : Option Addr) (la lb : List Bx) (hla : la.length <= 1048576) (hlb : lb.length <= 1048576) (hB2X : ¬ X B2)
 (J Jx : List (Bx × Bx) -> World -> Prop) (W : World) (hn₀ : n₀ <= W.heap.size) (hJa : AbidesFrom W.heap.size J)
 (hY : ∀ pre (x : Bx × Bx) W, J pre W -> pre.length < la.length * lb.length -> YieldAt Fence.wide (n - 1) Tryz.prog lp #[x.1.val, x.2.val] W fun e W' =>
  (e = .returned (.bool true) /\ J (pre ++ [x]) W' /\ aU X W W') ∨ (e = .returned (.bool false) /\ Jx (pre ++ [x]) W'))
 (hB1 : W.cell? ⟨B1, 0, none⟩ = some (.slice aa la.length c1)) (hB2 : W.cell? ⟨B2, 0, none⟩ = some (.slice ab lb.length c2))
 (hA : la = [] ∨ ∃ bl off, aa = some ⟨bl, off, none⟩ /\ ¬ X bl /\ ∀ j (h : j < la.length), eC W bl (off + j * 6) la[j])
 (hBb : lb = [] ∨ ∃ bl off, ab = some ⟨bl, off, none⟩ /\ ¬ X bl /\ ∀ j (h : j < lb.length), eC W bl (off + j * 6) lb[j]) (h0 : J [] W) :
 CallsIn Fence.wide n Tryz.prog 250 #[.func (.yield lp) #[] #[], .pointer (some ⟨B1, 0, none⟩), .pointer (some ⟨B2, 0, none⟩)] W fun e W' => (∃ v, e = .returned v) /\
  ((∃ ys, ys = bJ (iE la lb) (la.length * lb.length) /\ J ys W') ∨ (∃ pre, (∃ k, k <= la.length * lb.length /\ pre = bJ (iE la lb) k) /\ Jx pre W')) := by
 refine callsIn_of_wp Tryz.func250 rfl trivial ?_ rfl; simp only [Tryz.ntmps250, lsz, llc, lln, Nat.reduceAdd, Nat.reduceSub, ars, arz, lpt, lap, lna, lca]; gi_wp2
 gi_loopw [10] (fun i wr => ∃ k : Nat, k <= la.length /\ i = .int .i64 k /\ J (bJ (iE la lb) (k * lb.length)) wr /\ aU X W wr) (fun i _ => la.length - (intOf i).toNat)
 case atStart => exact ⟨0, nz _, rfl, by rw [Nat.zero_mul]; exact h0, aU.refl _ _⟩
 case round =>
  obtain ⟨k, hk, rfl, hJs, hnx⟩ := hrel
  by_cases hlt : k < la.length
  · obtain ⟨bl, off, rfl, hbl, hc⟩ := hA.resolve_left (fun e => by rw [e] at hlt; simp at hlt)
    have hcb := hnx.cell (p := ⟨B2, 0, none⟩) hB2X hB2; have hcx := sH (hc k hlt) hnx hbl; obtain ⟨a, hae⟩ : ∃ a, a = kK la k := ⟨_, rfl⟩; rw [← fC la k hlt, ← hae] at hcx; have HA : Hid (a = kK la k) := hae; clear hae; obtain ⟨q0, q1, q2, q3, q4, q5⟩ := hcx; have hz : B2 < wr.heap.size := aB hcb; have hgr : n₀ <= wr.heap.size := Nat.le_trans hn₀ hnx.size; have hnew : (wr.alloc a.obj).heap[wr.heap.size]? = some a.obj := wnq wr _; have hJn : J (bJ (iE la lb) (k * lb.length)) (wr.alloc a.obj) := hJa _ _ _ none hJs (eJ ((br _ _).alloc (nlq _) _)) (fun r e => by cases e); have hBn : aU X W (wr.alloc a.obj) := hnx.trans (aU.of_below ((br _ _).alloc (nlq _) _)); gi_wp2; obtain ⟨z, hze⟩ : ∃ z, z = wr.heap.size := ⟨_, rfl⟩; have hzX : ¬ X z := fun e => by have := hX0 _ e; omega
    rw [← hze] at hnew ⊢; clear hcb q0 q1 q2 q3 q4 q5 hz hJs hnx hze
    gi_loopw [16] (fun i wr' => ∃ s : Nat, s <= lb.length /\ i = .int .i64 s /\ J (bJ (iE la lb) (k * lb.length + s)) wr' /\ aU X W wr' /\ wr'.heap[z]? = some a.obj) (fun i _ => lb.length - (intOf i).toNat)
    case atStart => exact ⟨0, nz _, rfl, hJn, hBn, hnew⟩
    case round =>
     clear hnew hJn hBn hgr; obtain ⟨s, hs, rfl, hJ2, hnx2, hzo⟩ := hrel
     by_cases hlt2 : s < lb.length
     · obtain ⟨bl2, off2, rfl, hbl2, hc2⟩ := hBb.resolve_left (fun e => by rw [e] at hlt2; simp at hlt2)
       have hcy := sH (hc2 s hlt2) hnx2 hbl2; obtain ⟨b, hbe⟩ : ∃ b, b = kK lb s := ⟨_, rfl⟩; rw [← fC lb s hlt2, ← hbe] at hcy; have HB : Hid (b = kK lb s) := hbe; clear hbe; obtain ⟨p0, p1, p2, p3, p4, p5⟩ := hcy; obtain ⟨q0, q1, q2, q3, q4, q5⟩ := vK hzo; rw [Nat.zero_add] at q1 q2 q3 q4 q5; have hzl : z < wr.heap.size := aB q0; have hJd : J (bJ (iE la lb) (k * lb.length + s)) (wr.alloc b.obj) := hJa _ _ _ none hJ2 (eJ ((br _ _).alloc (nlq _) _)) (fun r e => by cases e)
       have hkl : k * lb.length + s < la.length * lb.length := by
        have : (k + 1) * lb.length <= la.length * lb.length := Nat.mul_le_mul_right _ hlt; rw [Nat.add_mul] at this; omega
       have hxe : iE la lb (k * lb.length + s) = (a, b) := by rw [HA.out, HB.out]; exact xR k s hlt2
       obtain ⟨fn, tmps, assign, body, hy, hR⟩ := hY _ (iE la lb (k * lb.length + s)) (wr.alloc b.obj) hJd (by rw [dD]; exact hkl); rw [hxe] at hy; have HR := hR; have hzn : (wr.alloc b.obj).heap[z]? = some a.obj := (halq wr b.obj z hzl).trans hzo; have hBt : aU X W (wr.alloc b.obj) := hnx2.trans (aU.of_below ((br _ _).alloc (nlq _) _)); clear hR hY hJd; gi_wp2_with fail
       refine ⟨fun h => (by cases h), ?_⟩; refine RoundIn.mono HR ?_; rintro e W3 (⟨rfl, hJ3, hk3⟩ | ⟨rfl, hJx3⟩)
       · clear HR hy p0 p1 p2 p3 p4 p5 q0 q1 q2 q3 q4 q5
         gi_wp2; refine ⟨⟨s + 1, by omega, by go_num, ?_, hBt.trans hk3, hk3.c z _ hzX hzn rfl⟩, by simp [intOf]; omega⟩; rw [show k * lb.length + (s + 1) = k * lb.length + s + 1 by omega, b9]; exact hJ3
       · clear HR hy p0 p1 p2 p3 p4 p5 q0 q1 q2 q3 q4 q5
         gi_wp2; refine bpr (results_none rfl _ _ _) rfl ?_; exact ⟨⟨_, rfl⟩, .inr ⟨_, ⟨k * lb.length + s + 1, by omega, (b9 _ _).symm⟩, hJx3⟩⟩
     · have hse : s = lb.length := by omega
       gi_wp2; refine ⟨⟨k + 1, by omega, by go_num, ?_, hnx2⟩, by simp [intOf]; omega⟩; rw [Nat.add_mul, Nat.one_mul, ← hse]; rw [← hse] at hJ2; exact hJ2
  · have hke : k = la.length := by omega
    gi_wp2
    go_end0
    exact ⟨⟨_, rfl⟩, .inl ⟨_, rfl, by rw [← hke]; exact hJs⟩⟩
theorem BK (n : Nat) (B1 B2 c1 c2 : Nat) (X : Nat -> Prop) (aa ab : Option Addr) (la lb : List Bx) (hla : la.length <= 1048576) (hlb : lb.length <= 1048576) (w : World) (hX0 : ∀ k, X k -> k < w.heap.size) (hB2X : ¬ X B2)
 (hXa : ∀ p, aa = some p -> la ≠ [] -> ¬ X p.block) (hXb : ∀ p, ab = some p -> lb ≠ [] -> ¬ X p.block)
 (hB1 : w.cell? ⟨B1, 0, none⟩ = some (.slice aa la.length c1)) (hB2 : w.cell? ⟨B2, 0, none⟩ = some (.slice ab lb.length c2)) (hA : iL w aa la) (hBb : iL w ab lb) :
 SeqStopsK Fence.wide n Tryz.prog 250 #[.pointer (some ⟨B1, 0, none⟩), .pointer (some ⟨B2, 0, none⟩)] (fun x : Bx × Bx => #[x.1.val, x.2.val]) (aU X) (fun ys => ys = bJ (iE la lb) (la.length * lb.length)) (fun pre => ∃ k, k <= la.length * lb.length /\ pre = bJ (iE la lb) k) (la.length * lb.length) w := fun lp J Jx W hW hJ _ hY h0 => by
 have go : ∀ (ao : Option Addr) (l : List Bx), iL w ao l -> (∀ p, ao = some p -> l ≠ [] -> ¬ X p.block) -> l = [] ∨ ∃ bl off, ao = some ⟨bl, off, none⟩ /\ ¬ X bl /\ ∀ j (h : j < l.length), eC W bl (off + j * 6) l[j] := fun ao l hl hx => by
  rcases l with _ | ⟨x, l⟩
  · exact .inl rfl
  · rcases hl with h | ⟨bl, off, e, hc⟩
    · cases h
    · exact .inr ⟨bl, off, e, hx _ e (by simp), fun j h => (hc j h).zL hW⟩
 exact KD n lp B1 B2 w.heap.size c1 c2 X hX0 aa ab la lb hla hlb hB2X J Jx W hW.size hJ hY ((hW.cell (aB hB1)).trans hB1) ((hW.cell (aB hB2)).trans hB2) (go aa la hA hXa) (go ab lb hBb hXb) h0
theorem MO (n : Nat) (a b : Option Addr) (la ca lb cb : Nat) (w : World) :
 CallsIn Fence.wide n Tryz.prog 246 #[.slice a la ca, .slice b lb cb] w fun e w' => ∃ B1 B2, e = .returned (.func (.func 250) #[] #[.pointer (some ⟨B1, 0, none⟩), .pointer (some ⟨B2, 0, none⟩)]) /\ Below w.heap.size w w' /\
  w'.cell? ⟨B1, 0, none⟩ = some (.slice a la ca) /\ w'.cell? ⟨B2, 0, none⟩ = some (.slice b lb cb) /\ w.heap.size <= B2 := by
 refine callsIn_of_wp Tryz.func246 rfl trivial ?_ rfl; simp only [Tryz.ntmps246, lsz, llc, lln, Nat.reduceAdd, Nat.reduceSub, ars, arz, lpt, lap, lna, lca]; gi_wp2; go_ret; have b1 := (Boxed.new w 34 (.slice a la ca)).alloc (.cells #[.slice b lb cb] 34); have b2 := Boxed.new (w.alloc (.cells #[.slice a la ca] 34)) 34 (.slice b lb cb); simp only [wsa] at b2; exact ⟨w.heap.size, w.heap.size + 1, rfl, aA (aA (br _ _) _) _, b1.cell, b2.cell, by omega⟩
end Go.Proofs.YtiojdbffjdoniaaGreatDoor
