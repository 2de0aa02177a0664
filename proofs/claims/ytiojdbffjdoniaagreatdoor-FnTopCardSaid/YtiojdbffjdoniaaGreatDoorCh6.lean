import Derived.MapKept
import Derived.Laws.StructEq
import Derived.Test.YtiojdbffjdoniaaGreatDoorCh1
namespace Go.Proofs.YtiojdbffjdoniaaGreatDoor
set_option maxRecDepth 100000
open Go.RowKit Go.Shelf
theorem RK (a b c a' b' c' : Int) (w : World) : (Op.equal 74 (gB a b c) (gB a' b' c')).run Tryz.prog w = .ok (a == a' && (b == b' && c == c')) w := by
 have hS : Tryz.prog.underlying 74 = some (.struct (Tryz.prog.fieldsOf 74)) := by kernel_rfl
 have hp : Tryz.prog.stoodInHeld 74 = false := by kernel_rfl
 unfold Op.equal Op.maxDepth;rw [show (10000 : Nat) = 9999 + 1 from rfl, run_equalIn_struct w 9999 74 _ _ hS hp];simp only [Program.fieldsOf, Tryz.underlying74]
 go_simp
 by_cases h1 : a = a' <;> by_cases h2 : b = b' <;> by_cases h3 : c = c' <;> simp [h1, h2, h3]
theorem GU (em : Bool) (a b c : Int) (w : World) : (Instr.checkKey em 10000 74 (gB a b c)).run Tryz.prog w = .ok () w := by
 rw [show (10000 : Nat) = 9998 + 1 + 1 from rfl, Instr.checkKey];simp only [Sem.run_bind, run_underlying Tryz.underlying74, Result.andThen_ok];rw [← Array.forIn_toList];simp only [List.forIn_cons, List.forIn_nil]
 have hk : ∀ (i : Int) (w : World), (Instr.checkKey em (9998 + 1) 3 (.int .i64 i)).run Tryz.prog w = .ok () w := fun i w => by
  rw [Instr.checkKey]
  simp [Sem.run_bind, run_underlying Tryz.underlying3, Result.andThen_ok]
 go_simp
def PX (es : List MapEntry) : Prop := ∀ e ∈ es, ∃ i k : Int, e.key = gB 0 i k
theorem sG (i k : Int) : ∀ (es : List MapEntry) (n : Nat), PX es -> ∃ r, (∀ w, (Instr.findAsking 74 (gB 0 i k) es n).run Tryz.prog w = .ok r w) /\ ∀ j v, r = some (j, v) -> ∃ e ∈ es, e.key = gB 0 i k /\ e.val = v
 | [], n, _ => ⟨none, fun w => by simp [Instr.findAsking], fun _ _ h => by cases h⟩
 | e :: es, n, h => by
  obtain ⟨i', k', he⟩ := h e (List.mem_cons_self ..)
  by_cases hik : i = i' /\ k = k'
  · obtain ⟨rfl, rfl⟩ := hik
    refine ⟨some (n, e.val), fun w => ?_, fun j v hv => ?_⟩
    · rw [Instr.findAsking, he]
      simp [Sem.run_bind, RK, Result.andThen_ok]
    · cases hv
      exact ⟨e, List.mem_cons_self .., he, rfl⟩
  · obtain ⟨r, h1, h2⟩ := sG i k es (n + 1) (fun e' m => h e' (List.mem_cons_of_mem _ m))
    refine ⟨r, fun w => ?_, fun j v hv => ?_⟩
    · have hq : ((0 : Int) == 0 && (i == i' && k == k')) = false := by
       rw [Bool.eq_false_iff];intro g;simp at g;exact hik g
      rw [Instr.findAsking, he];simp only [Sem.run_bind, RK, Result.andThen_ok, hq, Bool.false_eq_true, if_false];exact h1 w
    · obtain ⟨e', m, g⟩ := h2 j v hv
      exact ⟨e', List.mem_cons_of_mem _ m, g⟩
theorem DC (i k : Int) (es : List MapEntry) (h : PX es) : ∃ r, (∀ w, (Instr.findKey 74 (gB 0 i k) es).run Tryz.prog w = .ok r w) /\ ∀ j v, r = some (j, v) -> ∃ e ∈ es, e.key = gB 0 i k /\ e.val = v := by
 cases es with
 | nil => exact ⟨none, fun w => by simp [Instr.findKey, run_underlying Tryz.underlying74, Result.andThen, Instr.findNow], fun _ _ h => by cases h⟩
 | cons e es =>
  obtain ⟨r, h1, h2⟩ := sG i k (e :: es) 0 h;refine ⟨r, fun w => ?_, h2⟩;have hf : ∀ d, Instr.findNow (.struct d) (gB 0 i k) (e :: es) 0 = none := fun d => by simp [Instr.findNow, Instr.sameNow]
  unfold Instr.findKey;simp only [Sem.run_bind, run_underlying Tryz.underlying74, Result.andThen_ok, hf];exact h1 w
theorem L2 (i k : Int) (r : Nat) (es : Array MapEntry) (clock : Nat) (h : PX es.toList) :
 ∃ o : Option Value, (∀ v, o = some v -> ∃ e ∈ es.toList, e.key = gB 0 i k /\ e.val = v) /\
  (∀ w, w.heap[r]? = some (.map es clock) -> (Instr.lookup 305 (.map (some r)) (gB 0 i k) true).run Tryz.prog w = .ok (.tuple #[o.getD (.slice none 0 0), .bool o.isSome]) w) /\
  (o = none -> ∀ w val, w.heap[r]? = some (.map es clock) -> (Instr.mapUpdate 305 (.map (some r)) (gB 0 i k) val).run Tryz.prog w = .ok () { w with heap := w.heap.setIfInBounds r (.map (es.push ⟨gB 0 i k, val, clock⟩) (clock + 1)) }) := by
 obtain ⟨f, h1, h2⟩ := DC i k es.toList h;have hz : ∀ w, (zeroValue 307).run Tryz.prog w = .ok (.slice none 0 0) w := fun w => by go_simp
 refine ⟨f.map Prod.snd, ?_, ?_, ?_⟩
 · intro v hv
   obtain ⟨⟨j, v'⟩, rfl, rfl⟩ := Option.map_eq_some_iff.1 hv;exact h2 j v' rfl
 · intro w hw
   have hg : (getObj r).run Tryz.prog w = .ok (.map es clock) w := by simp [getObj, Sem.run, hw]
   unfold Instr.lookup;simp only [Sem.run_bind, run_underlying Tryz.underlying305, Result.andThen_ok, hg, Sem.run_pure, GU, h1]
   cases f with
   | none => simp [hz]
   | some q => simp
 · intro ho w val hw
   cases f with
   | some q => cases ho
   | none =>
    have hg : (getObj r).run Tryz.prog w = .ok (.map es clock) w := by simp [getObj, Sem.run, hw]
    unfold Instr.mapUpdate;simp only [Sem.run_bind, run_underlying Tryz.underlying305, Result.andThen_ok, hg, GU, h1]
    simp [setObj, Sem.run, hw]
end Go.Proofs.YtiojdbffjdoniaaGreatDoor
namespace Go.Proofs.YtiojdbffjdoniaaGreatDoor
open Go.RowKit Go.Shelf
attribute [local go_sem] Oper.semAt_some
structure i8 (m : Nat) (w w' : World) : Prop where
 os : w'.os = w.os
 tape : w'.tape = w.tape
 output : w'.output = w.output
 size : w.heap.size <= w'.heap.size
 block : ∀ k, k < w.heap.size -> k ≠ m -> w'.heap[k]? = w.heap[k]?
theorem i8.of_below {m : Nat} {w w' : World} (h : Below w.heap.size w w') : i8 m w w' := ⟨h.os, h.tape, h.output, h.size, fun k hk _ => h.block k hk⟩
theorem i8.trans {m : Nat} {a b c : World} (h : i8 m a b) (g : i8 m b c) : i8 m a c :=
 ⟨g.os.trans h.os, g.tape.trans h.tape, g.output.trans h.output, Nat.le_trans h.size g.size, fun k hk hm => (g.block k (Nat.lt_of_lt_of_le hk h.size) hm).trans (h.block k hk hm)⟩
theorem i8.set {m : Nat} (w : World) (o : Obj) : i8 m w { w with heap := w.heap.setIfInBounds m o } :=
 ⟨rfl, rfl, rfl, by simp, fun k _ hm => by simp [Ne.symm hm]⟩
theorem i8.cell {m : Nat} {w w' : World} {es : Array MapEntry} {c : Nat} (h : i8 m w w') (hm : w.heap[m]? = some (.map es c)) {p : Addr} {v : Value} (hv : w.cell? p = some v) : w'.cell? p = some v := by
 have hne : p.block ≠ m := fun e => by subst e;simp [World.cell?, hm] at hv
 have hb := h.block p.block (aA hv) hne;unfold World.cell? at hv ⊢;rw [hb];exact hv
theorem i8.spsF {m : Nat} {w w' : World} {es : Array MapEntry} {c : Nat} (h : i8 m w w') (hm : w.heap[m]? = some (.map es c)) {most : Int} {P : Int -> Prop} {v : Value} (hs : lQ most P v w) : lQ most P v w' := by
 obtain ⟨ao, cap, l, h1, h2, h3, h4⟩ := hs;refine ⟨ao, cap, l, h1, ⟨?_, ?_⟩, h3, h4⟩
 · rcases h2.1 with h2 | ⟨bl, off, e, hc⟩
   · exact .inl h2
   · exact .inr ⟨bl, off, e, fun k hk j u hj => h.cell hm (hc k hk j u hj)⟩
 · rcases h2.2 with h2 | ⟨bl, off, cs, e, ho⟩
   · exact .inl h2
   · exact .inr ⟨bl, off, cs, e, (h.block bl (bP ho) (fun g => by rw [g, hm] at ho;cases ho)).trans ho⟩
structure mJ (z : Nat) (b : Bk) (x : Wx) (w : World) : Prop where
 hb : w.heap[z]? = some b.obj
 hx : w.heap[z + 1]? = some x.obj
 hc : w.heap[z + 3]? = some (.cells #[.map (some (z + 2))] 305)
 hm : ∃ es clock, w.heap[z + 2]? = some (.map es clock) /\ ∀ e ∈ es.toList, ∃ i k : Int, e.key = gB 0 i k /\ lQ x.l (fun d => pK b x d i k = false) e.val w
theorem mJ.zL {z : Nat} {b : Bk} {x : Wx} {w w' : World} (h : mJ z b x w) (hb : Below w.heap.size w w') : mJ z b x w' := by
 obtain ⟨h1, h2, h3, es, c, h4, h5⟩ := h;have go : ∀ {k : Nat} {o : Obj}, w.heap[k]? = some o -> w'.heap[k]? = some o := fun e => (hb.block _ (bP e)).trans e;exact ⟨go h1, go h2, go h3, es, c, go h4, fun e m => by obtain ⟨i, k, g1, g2⟩ := h5 e m;exact ⟨i, k, g1, g2.zL hb⟩⟩
theorem mJ.put {z : Nat} {b : Bk} {x : Wx} {w : World} {es : Array MapEntry} {c : Nat} (h : mJ z b x w) (hes : w.heap[z + 2]? = some (.map es c)) (h5 : ∀ e ∈ es.toList, ∃ i k : Int, e.key = gB 0 i k /\ lQ x.l (fun d => pK b x d i k = false) e.val w) {i k : Int} {v : Value} (hv : lQ x.l (fun d => pK b x d i k = false) v w) (c1 c2 : Nat) :
 mJ z b x { w with heap := w.heap.setIfInBounds (z + 2) (.map (es.push ⟨gB 0 i k, v, c1⟩) c2) } := by
 have hB := i8.set (m := z + 2) w (.map (es.push ⟨gB 0 i k, v, c1⟩) c2);have hlt := (bP hes);have go : ∀ {q : Nat} {o : Obj}, q ≠ z + 2 -> w.heap[q]? = some o -> (World.heap { w with heap := w.heap.setIfInBounds (z + 2) (.map (es.push ⟨gB 0 i k, v, c1⟩) c2) })[q]? = some o := fun hq e => (hB.block _ (bP e) hq).trans e;refine ⟨go (by omega) h.hb, go (by omega) h.hx, go (by omega) h.hc, _, _, by simp [hlt];exact ⟨rfl, rfl⟩, fun e m => ?_⟩;rw [Array.toList_push, lma, List.mem_singleton] at m
 rcases m with m | rfl
 · obtain ⟨i', k', g1, g2⟩ := h5 e m
   exact ⟨i', k', g1, hB.spsF hes g2⟩
 · exact ⟨i, k, rfl, hB.spsF hes hv⟩
set_option maxRecDepth 100000
set_option maxHeartbeats 8000000
theorem HU (l : List Sp) (d : Int) : fS l ⟨d, d⟩ = true ↔ jY l d := by
 unfold fS jY;rw [List.any_eq_true]
 constructor
 · rintro ⟨s, hs, h⟩
   simp only [iS, bat, dte] at h;exact ⟨s, hs, by omega, by omega⟩
 · rintro ⟨s, hs, h1, h2⟩
   exact ⟨s, hs, by simp only [iS, bat, dte];omega⟩
theorem lQ.covers {most : Int} {P : Int -> Bool} {v : Value} {w : World} {d : Int} (h : lQ most (fun d => P d = false) v w) (h0 : 0 <= d) (h1 : d <= most) : ∃ ao cap l, v = .slice ao (List.length l) cap /\ Xs 2 Sp.cells w ao l /\ l.length <= 1048576 /\ fS l ⟨d, d⟩ = !P d := by
 obtain ⟨ao, cap, l, e, hX, hl, hm⟩ := h;refine ⟨ao, cap, l, e, hX.1, by omega, ?_⟩;rw [Bool.eq_iff_iff, HU, hm d h0 h1]
 simp
theorem EI (n : Nat) (hn : 5 <= n) (z : Nat) (b : Bk) (x : Wx) (d i k : Int) (w : World) (hF : mJ z b x w) (hb : dY w b) (hx : iA w x) (hok : aO b = true) (hnow0 : 0 <= b.now) (hnow1 : b.now <= 10000) (hl0 : 0 <= x.l) (hl1 : x.l <= 300) (hxf : 0 <= x.f) (hxq : 0 <= x.q) (hd0 : 0 <= d) (hd1 : d <= x.l) :
 CallsIn Fence.wide n Tryz.prog 233 #[gB d i k, .pointer (some ⟨z + 3, 0, none⟩), .pointer (some ⟨z, 0, none⟩), .pointer (some ⟨z + 1, 0, none⟩)] w fun e w' => e = .returned (.bool (pK b x d i k)) /\ i8 (z + 2) w w' /\ mJ z b x w' := by
 have h1n : 1 <= n := by omega
 have hB0 : Below w.heap.size w ((w.alloc (gU d i k)).alloc (gU 0 i k)) := aB (aB (br _ _) _) _;have C0 := (halq (w.alloc (gU d i k)) (gU 0 i k) w.heap.size (by simp)).trans (wnq w (gU d i k));have D0 := wnq (w.alloc (gU d i k)) (gU 0 i k);rw [wsa] at D0;have hF0 := hF.zL hB0;obtain ⟨W0, hW0⟩ : ∃ W0, (w.alloc (gU d i k)).alloc (gU 0 i k) = W0 := ⟨_, rfl⟩;rw [hW0] at hB0 C0 D0 hF0;obtain ⟨es, ck, hes, hen⟩ := hF0.hm;obtain ⟨o, ho1, ho2, ho3⟩ := L2 i k (z + 2) es ck (fun e m => by obtain ⟨i', k', g, _⟩ := hen e m;exact ⟨i', k', g⟩);have p0 : W0.cell? ⟨z + 3, 0, none⟩ = some (.map (some (z + 2))) := aH hF0.hc rfl;obtain ⟨d0, d1, d2⟩ := aJ D0;have hlk := ho2 W0 hes;refine callsIn_of_wp Tryz.func233 rfl trivial ?_ rfl;simp only [Tryz.ntmps233, lsz, llc, lln, Nat.reduceAdd, Nat.reduceSub, ars, arz, lpt, lap, lna, lca];have HW0 : Hid ((w.alloc (gU d i k)).alloc (gU 0 i k) = W0) := hW0;have HC0 : Hid (W0.heap[w.heap.size]? = some (gU d i k)) := C0;have HD0 : Hid (W0.heap[w.heap.size + 1]? = some (gU 0 i k)) := D0;clear C0 D0 ho2;obtain ⟨V, hV⟩ : ∃ V, V = pK b x d i k := ⟨_, rfl⟩;rw [← hV];have HV : Hid _ := hV;clear hV
 cases o with
 | some v =>
  obtain ⟨e, hem, hek, rfl⟩ := ho1 v rfl;obtain ⟨i', k', g1, g2⟩ := hen e hem;rw [g1] at hek;obtain ⟨rfl, rfl⟩ : i' = i /\ k' = k := by simpa using hek
  obtain ⟨ao, cap, l, hev, hX, hl, hcov⟩ := g2.covers hd0 hd1;rw [hev] at hlk;obtain ⟨c0, c1, c2⟩ := aJ HC0.out;have HR : Hid (i8 (z + 2) w W0) := i8.of_below hB0;have HCV : Hid (fS l ⟨d, d⟩ = !V) := by rw [Hid, hcov, HV.out]
  have HF0 : Hid _ := hF0;clear ho1 ho3 hen hem hek g1 g2 hcov hF0 hev hes;simp only [Option.getD_some, Option.isSome_some] at hlk;gi_wp2_with fail
  refine ⟨trivial, ?_⟩;refine (cw.2 (oF l ⟨d, d⟩ ao cap W0 hX hl)).mono ?_;rintro e w1 ⟨rfl, hb1⟩;rw [HCV.out];have HE : Hid (i8 (z + 2) w w1 /\ mJ z b x w1) := ⟨HR.out.trans (i8.of_below hb1), HF0.out.zL hb1⟩
  cases V <;>
  · gi_wp2
    go_ret;exact ⟨rfl, HE.out⟩
 | none =>
  have ho3' := ho3 rfl;have hNo : Hid _ := ho3';clear ho1 ho3 ho3';simp only [Option.getD_none, Option.isSome_none] at hlk;obtain ⟨c0, c1, c2⟩ := aJ HC0.out;obtain ⟨m0, m1, m2⟩ := aJ hF0.hb;obtain ⟨q0, q1, q2, q3, q4, q5, q6, q7⟩ := fQ hF0.hx;have HF0 : Hid _ := hF0;have HES : Hid _ := hes;have HEN : Hid _ := hen;clear hF0 hes hen;gi_wp2_with fail
  refine ⟨trivial, ?_⟩;refine (JH (n - 1) (by omega) b x i k W0 (hb.zL hB0) (hx.zL hB0) hok hnow0 hnow1 hl0 hl1 hxf hxq).mono ?_;rintro e w1 ⟨⟨v, rfl, hv⟩, hb1⟩;have hF1 := HF0.out.zL hb1;have hes1 := (hb1.block _ (bP HES.out)).trans HES.out;have hen1 : ∀ e ∈ es.toList, ∃ i k : Int, e.key = gB 0 i k /\ lQ x.l (fun d => pK b x d i k = false) e.val w1 := fun e m => by obtain ⟨i', k', g1, g2⟩ := HEN.out e m;exact ⟨i', k', g1, g2.zL hb1⟩
  have hup := hNo.out w1 v hes1;have hF2 := hF1.put hes1 hen1 hv ck (ck + 1);have hB1 := (i8.of_below (m := z + 2) (aD hB0 hb1)).trans (i8.set (m := z + 2) w1 (.map (es.push ⟨gB 0 i k, v, ck⟩) (ck + 1)));have hv2 := (i8.set (m := z + 2) w1 (.map (es.push ⟨gB 0 i k, v, ck⟩) (ck + 1))).spsF hes1 hv;have C1 := (hb1.block _ (bP HC0.out)).trans HC0.out;have D1 := (hb1.block _ (bP HD0.out)).trans HD0.out;have p0 : w1.cell? ⟨z + 3, 0, none⟩ = some (.map (some (z + 2))) := aH hF1.hc rfl;obtain ⟨d0, d1, d2⟩ := aJ D1;obtain ⟨w2, hw2⟩ : ∃ w2, ({ w1 with heap := w1.heap.setIfInBounds (z + 2) (.map (es.push ⟨gB 0 i k, v, ck⟩) (ck + 1)) } : World) = w2 := ⟨_, rfl⟩;have c0 : w2.cell? ⟨w.heap.size, 0, none⟩ = some (.int .i64 d) := by rw [← hw2];exact (i8.set (m := z + 2) w1 _).cell hes1 (aH C1 rfl)
  rw [hw2] at hup hF2 hB1 hv2;obtain ⟨ao, cap, l, rfl, hX, hl, hcov⟩ := hv2.covers hd0 hd1;have HCV : Hid (fS l ⟨d, d⟩ = !V) := by rw [Hid, hcov, HV.out]
  have HF2 : Hid _ := hF2;have HB1 : Hid _ := hB1;clear m0 m1 m2 q0 q1 q2 q3 q4 q5 q6 q7 hF1 hes1 hen1 C1 D1 hcov hF2 hB1 hv2 hv hb1 hw2 hlk;gi_wp2_with fail
  refine ⟨trivial, ?_⟩;refine (cw.2 (oF l ⟨d, d⟩ ao cap w2 hX hl)).mono ?_;rintro e w3 ⟨rfl, hb3⟩;rw [HCV.out];have HE : Hid (i8 (z + 2) w w3 /\ mJ z b x w3) := ⟨HB1.out.trans (i8.of_below hb3), HF2.out.zL hb3⟩
  cases V <;>
  · gi_wp2
    go_ret;exact ⟨rfl, HE.out⟩
end Go.Proofs.YtiojdbffjdoniaaGreatDoor
namespace Go.Proofs.YtiojdbffjdoniaaGreatDoor
set_option maxRecDepth 100000
set_option maxHeartbeats 2000000
open Go.RowKit Go.Shelf
theorem Q9 (t : TypeId) (w : World) : (Instr.makeMap t none).run Tryz.prog w = .ok (.map (some w.heap.size)) (w.alloc (.map #[] 0)) := rfl
attribute [local go_sem] Q9
abbrev QC (r : Nat) : Obj := .cells #[.map (some r)] 305
theorem FG (b : Bk) (x : Wx) (w : World) :
 Calls Tryz.prog 221 #[b.val, x.val] w fun e w' => e = .returned (.func (.func 233) #[] #[.pointer (some ⟨w.heap.size + 3, 0, none⟩), .pointer (some ⟨w.heap.size, 0, none⟩), .pointer (some ⟨w.heap.size + 1, 0, none⟩)]) /\ Below w.heap.size w w' /\ mJ w.heap.size b x w' := by
 have hB0 : Below w.heap.size w ((((w.alloc b.obj).alloc x.obj).alloc (.map #[] 0)).alloc (QC (w.heap.size + 2))) := aB (aB (aB (aB (br _ _) _) _) _) _
 have F0 : mJ w.heap.size b x ((((w.alloc b.obj).alloc x.obj).alloc (.map #[] 0)).alloc (QC (w.heap.size + 2))) := by
  have a1 := wnq w b.obj;have a2 := wnq (w.alloc b.obj) x.obj;have a3 := wnq ((w.alloc b.obj).alloc x.obj) (.map #[] 0);have a4 := wnq (((w.alloc b.obj).alloc x.obj).alloc (.map #[] 0)) (QC (w.heap.size + 2));simp only [wsa] at a2 a3 a4;refine ⟨?_, ?_, a4, #[], 0, ?_, fun e m => by simp at m⟩
  · exact (halq _ _ _ (by simp;omega)).trans ((halq _ _ _ (by simp;omega)).trans ((halq _ _ _ (by simp)).trans a1))
  · exact (halq _ _ _ (by simp)).trans ((halq _ _ _ (by simp)).trans a2)
  · exact (halq _ _ _ (by simp)).trans a3
 have H : Hid _ := And.intro hB0 F0;clear hB0 F0
 go_enter Tryz.func221, Tryz.ntmps221
 go_wp2
 go_ret;exact ⟨rfl, H.out⟩
end Go.Proofs.YtiojdbffjdoniaaGreatDoor
