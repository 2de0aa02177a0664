import Derived.MapKept
import Derived.Laws.StructEq
import Derived.Test.YtiojdbffjdoniaaGreatDoorCh1
namespace Go.Proofs.YtiojdbffjdoniaaGreatDoor
set_option maxRecDepth 100000
open Go.RowKit Go.Shelf
theorem QU (a b c a' b' c' : Int) (w : World) : (Op.equal 74 (fY a b c) (fY a' b' c')).run Tryz.prog w = .ok (a == a' && (b == b' && c == c')) w := by
 have hS : Tryz.prog.underlying 74 = some (.struct (Tryz.prog.fieldsOf 74)) := by kernel_rfl
 have hp : Tryz.prog.stoodInHeld 74 = false := by kernel_rfl
 unfold Op.equal Op.maxDepth; rw [show (10000 : Nat) = 9999 + 1 from rfl, run_equalIn_struct w 9999 74 _ _ hS hp]; simp only [Program.fieldsOf, Tryz.underlying74]
 go_simp
 by_cases h1 : a = a' <;> by_cases h2 : b = b' <;> by_cases h3 : c = c' <;> simp [h1, h2, h3]
theorem GR (em : Bool) (a b c : Int) (w : World) : (Instr.checkKey em 10000 74 (fY a b c)).run Tryz.prog w = .ok () w := by
 rw [show (10000 : Nat) = 9998 + 1 + 1 from rfl, Instr.checkKey]; simp only [Sem.run_bind, run_underlying Tryz.underlying74, Result.andThen_ok]; rw [← Array.forIn_toList]; simp only [List.forIn_cons, List.forIn_nil]
 have hk : ∀ (i : Int) (w : World), (Instr.checkKey em (9998 + 1) 3 (.int .i64 i)).run Tryz.prog w = .ok () w := fun i w => by
  rw [Instr.checkKey]
  simp [Sem.run_bind, run_underlying Tryz.underlying3, Result.andThen_ok]
 go_simp
def PU (es : List MapEntry) : Prop := ∀ e ∈ es, ∃ i k : Int, e.key = fY 0 i k
theorem sW (i k : Int) : ∀ (es : List MapEntry) (n : Nat), PU es -> ∃ r, (∀ w, (Instr.findAsking 74 (fY 0 i k) es n).run Tryz.prog w = .ok r w) /\ ∀ j v, r = some (j, v) -> ∃ e ∈ es, e.key = fY 0 i k /\ e.val = v
 | [], n, _ => ⟨none, fun w => by simp [Instr.findAsking], fun _ _ h => by cases h⟩
 | e :: es, n, h => by
  obtain ⟨i', k', he⟩ := h e (List.mem_cons_self ..)
  by_cases hik : i = i' /\ k = k'
  · obtain ⟨rfl, rfl⟩ := hik
    refine ⟨some (n, e.val), fun w => ?_, fun j v hv => ?_⟩
    · rw [Instr.findAsking, he]
      simp [Sem.run_bind, QU, Result.andThen_ok]
    · cases hv
      exact ⟨e, List.mem_cons_self .., he, rfl⟩
  · obtain ⟨r, h1, h2⟩ := sW i k es (n + 1) (fun e' m => h e' (List.mem_cons_of_mem _ m))
    refine ⟨r, fun w => ?_, fun j v hv => ?_⟩
    · have hq : ((0 : Int) == 0 && (i == i' && k == k')) = false := by
       rw [Bool.eq_false_iff]; intro g; simp at g; exact hik g
      rw [Instr.findAsking, he]; simp only [Sem.run_bind, QU, Result.andThen_ok, hq, Bool.false_eq_true, if_false]; exact h1 w
    · obtain ⟨e', m, g⟩ := h2 j v hv
      exact ⟨e', List.mem_cons_of_mem _ m, g⟩
theorem DJ (i k : Int) (es : List MapEntry) (h : PU es) : ∃ r, (∀ w, (Instr.findKey 74 (fY 0 i k) es).run Tryz.prog w = .ok r w) /\ ∀ j v, r = some (j, v) -> ∃ e ∈ es, e.key = fY 0 i k /\ e.val = v := by
 cases es with
 | nil => exact ⟨none, fun w => by simp [Instr.findKey, run_underlying Tryz.underlying74, Result.andThen, Instr.findNow], fun _ _ h => by cases h⟩
 | cons e es =>
  obtain ⟨r, h1, h2⟩ := sW i k (e :: es) 0 h; refine ⟨r, fun w => ?_, h2⟩; have hf : ∀ d, Instr.findNow (.struct d) (fY 0 i k) (e :: es) 0 = none := fun d => by simp [Instr.findNow, Instr.sameNow]
  unfold Instr.findKey; simp only [Sem.run_bind, run_underlying Tryz.underlying74, Result.andThen_ok, hf]; exact h1 w
theorem MW (i k : Int) (r : Nat) (es : Array MapEntry) (clock : Nat) (h : PU es.toList) :
 ∃ o : Option Value, (∀ v, o = some v -> ∃ e ∈ es.toList, e.key = fY 0 i k /\ e.val = v) /\
  (∀ w, w.heap[r]? = some (.map es clock) -> (Instr.lookup 305 (.map (some r)) (fY 0 i k) true).run Tryz.prog w = .ok (.tuple #[o.getD (.slice none 0 0), .bool o.isSome]) w) /\
  (o = none -> ∀ w val, w.heap[r]? = some (.map es clock) -> (Instr.mapUpdate 305 (.map (some r)) (fY 0 i k) val).run Tryz.prog w = .ok () { w with heap := w.heap.setIfInBounds r (.map (es.push ⟨fY 0 i k, val, clock⟩) (clock + 1)) }) := by
 obtain ⟨f, h1, h2⟩ := DJ i k es.toList h; have hz : ∀ w, (zeroValue 307).run Tryz.prog w = .ok (.slice none 0 0) w := fun w => by go_simp
 refine ⟨f.map Prod.snd, ?_, ?_, ?_⟩
 · intro v hv
   obtain ⟨⟨j, v'⟩, rfl, rfl⟩ := Option.map_eq_some_iff.1 hv; exact h2 j v' rfl
 · intro w hw
   have hg : (getObj r).run Tryz.prog w = .ok (.map es clock) w := by simp [getObj, Sem.run, hw]
   unfold Instr.lookup; simp only [Sem.run_bind, run_underlying Tryz.underlying305, Result.andThen_ok, hg, Sem.run_pure, GR, h1]
   cases f with
   | none => simp [hz]
   | some q => simp
 · intro ho w val hw
   cases f with
   | some q => cases ho
   | none =>
    have hg : (getObj r).run Tryz.prog w = .ok (.map es clock) w := by simp [getObj, Sem.run, hw]
    unfold Instr.mapUpdate; simp only [Sem.run_bind, run_underlying Tryz.underlying305, Result.andThen_ok, hg, GR, h1]
    simp [setObj, Sem.run, hw]
end Go.Proofs.YtiojdbffjdoniaaGreatDoor
namespace Go.Proofs.YtiojdbffjdoniaaGreatDoor
open Go.RowKit Go.Shelf
attribute [local go_sem] Oper.semAt_some
structure i9 (m : Nat) (w w' : World) : Prop where
 os : w'.os = w.os
 tape : w'.tape = w.tape
 output : w'.output = w.output
 size : w.heap.size <= w'.heap.size
 block : ∀ k, k < w.heap.size -> k ≠ m -> w'.heap[k]? = w.heap[k]?
theorem i9.of_below {m : Nat} {w w' : World} (h : Below w.heap.size w w') : i9 m w w' := ⟨h.os, h.tape, h.output, h.size, fun k hk _ => h.block k hk⟩
theorem i9.trans {m : Nat} {a b c : World} (h : i9 m a b) (g : i9 m b c) : i9 m a c :=
 ⟨g.os.trans h.os, g.tape.trans h.tape, g.output.trans h.output, Nat.le_trans h.size g.size, fun k hk hm => (g.block k (Nat.lt_of_lt_of_le hk h.size) hm).trans (h.block k hk hm)⟩
theorem i9.set {m : Nat} (w : World) (o : Obj) : i9 m w { w with heap := w.heap.setIfInBounds m o } :=
 ⟨rfl, rfl, rfl, by simp, fun k _ hm => by simp [Ne.symm hm]⟩
theorem i9.cell {m : Nat} {w w' : World} {es : Array MapEntry} {c : Nat} (h : i9 m w w') (hm : w.heap[m]? = some (.map es c)) {p : Addr} {v : Value} (hv : w.cell? p = some v) : w'.cell? p = some v := by
 have hne : p.block ≠ m := fun e => by subst e; simp [World.cell?, hm] at hv
 have hb := h.block p.block (aB hv) hne; unfold World.cell? at hv ⊢; rw [hb]; exact hv
theorem i9.spsF {m : Nat} {w w' : World} {es : Array MapEntry} {c : Nat} (h : i9 m w w') (hm : w.heap[m]? = some (.map es c)) {most : Int} {P : Int -> Prop} {v : Value} (hs : lZ most P v w) : lZ most P v w' := by
 obtain ⟨ao, cap, l, h1, h2, h3, h4⟩ := hs; refine ⟨ao, cap, l, h1, ⟨?_, ?_⟩, h3, h4⟩
 · rcases h2.1 with h2 | ⟨bl, off, e, hc⟩
   · exact .inl h2
   · exact .inr ⟨bl, off, e, fun k hk j u hj => h.cell hm (hc k hk j u hj)⟩
 · rcases h2.2 with h2 | ⟨bl, off, cs, e, ho⟩
   · exact .inl h2
   · exact .inr ⟨bl, off, cs, e, (h.block bl (bH ho) (fun g => by rw [g, hm] at ho; cases ho)).trans ho⟩
structure l8 (z : Nat) (b : Bk) (x : Wx) (w : World) : Prop where
 hb : w.heap[z]? = some b.obj
 hx : w.heap[z + 1]? = some x.obj
 hc : w.heap[z + 3]? = some (.cells #[.map (some (z + 2))] 305)
 hm : ∃ es clock, w.heap[z + 2]? = some (.map es clock) /\ ∀ e ∈ es.toList, ∃ i k : Int, e.key = fY 0 i k /\ lZ x.l (fun d => oL b x d i k = false) e.val w
theorem l8.zL {z : Nat} {b : Bk} {x : Wx} {w w' : World} (h : l8 z b x w) (hb : Below w.heap.size w w') : l8 z b x w' := by
 obtain ⟨h1, h2, h3, es, c, h4, h5⟩ := h; have go : ∀ {k : Nat} {o : Obj}, w.heap[k]? = some o -> w'.heap[k]? = some o := fun e => (hb.block _ (bH e)).trans e; exact ⟨go h1, go h2, go h3, es, c, go h4, fun e m => by obtain ⟨i, k, g1, g2⟩ := h5 e m; exact ⟨i, k, g1, g2.zL hb⟩⟩
theorem l8.put {z : Nat} {b : Bk} {x : Wx} {w : World} {es : Array MapEntry} {c : Nat} (h : l8 z b x w) (hes : w.heap[z + 2]? = some (.map es c)) (h5 : ∀ e ∈ es.toList, ∃ i k : Int, e.key = fY 0 i k /\ lZ x.l (fun d => oL b x d i k = false) e.val w) {i k : Int} {v : Value} (hv : lZ x.l (fun d => oL b x d i k = false) v w) (c1 c2 : Nat) :
 l8 z b x { w with heap := w.heap.setIfInBounds (z + 2) (.map (es.push ⟨fY 0 i k, v, c1⟩) c2) } := by
 have hB := i9.set (m := z + 2) w (.map (es.push ⟨fY 0 i k, v, c1⟩) c2); have hlt := (bH hes); have go : ∀ {q : Nat} {o : Obj}, q ≠ z + 2 -> w.heap[q]? = some o -> (World.heap { w with heap := w.heap.setIfInBounds (z + 2) (.map (es.push ⟨fY 0 i k, v, c1⟩) c2) })[q]? = some o := fun hq e => (hB.block _ (bH e) hq).trans e; refine ⟨go (by omega) h.hb, go (by omega) h.hx, go (by omega) h.hc, _, _, by simp [hlt]; exact ⟨rfl, rfl⟩, fun e m => ?_⟩; rw [Array.toList_push, lma, List.mem_singleton] at m
 rcases m with m | rfl
 · obtain ⟨i', k', g1, g2⟩ := h5 e m
   exact ⟨i', k', g1, hB.spsF hes g2⟩
 · exact ⟨i, k, rfl, hB.spsF hes hv⟩
set_option maxRecDepth 100000
set_option maxHeartbeats 8000000
theorem IQ (l : List Sp) (d : Int) : fQ l ⟨d, d⟩ = true ↔ j4 l d := by
 unfold fQ j4; rw [List.any_eq_true]
 constructor
 · rintro ⟨s, hs, h⟩
   simp only [iR, bat, dte] at h; exact ⟨s, hs, by omega, by omega⟩
 · rintro ⟨s, hs, h1, h2⟩
   exact ⟨s, hs, by simp only [iR, bat, dte]; omega⟩
theorem lZ.covers {most : Int} {P : Int -> Bool} {v : Value} {w : World} {d : Int} (h : lZ most (fun d => P d = false) v w) (h0 : 0 <= d) (h1 : d <= most) : ∃ ao cap l, v = .slice ao (List.length l) cap /\ Xs 2 Sp.cells w ao l /\ l.length <= 1048576 /\ fQ l ⟨d, d⟩ = !P d := by
 obtain ⟨ao, cap, l, e, hX, hl, hm⟩ := h; refine ⟨ao, cap, l, e, hX.1, by omega, ?_⟩; rw [Bool.eq_iff_iff, IQ, hm d h0 h1]
 simp
theorem F7 (n : Nat) (hn : 5 <= n) (z : Nat) (b : Bk) (x : Wx) (d i k : Int) (w : World) (hF : l8 z b x w) (hb : fP w b) (hx : gW w x) (hok : aS b = true) (hnow0 : 0 <= b.now) (hnow1 : b.now <= 10000) (hl0 : 0 <= x.l) (hl1 : x.l <= 300) (hxf : 0 <= x.f) (hxq : 0 <= x.q) (hd0 : 0 <= d) (hd1 : d <= x.l) :
 CallsIn Fence.wide n Tryz.prog 233 #[fY d i k, .pointer (some ⟨z + 3, 0, none⟩), .pointer (some ⟨z, 0, none⟩), .pointer (some ⟨z + 1, 0, none⟩)] w fun e w' => e = .returned (.bool (oL b x d i k)) /\ i9 (z + 2) w w' /\ l8 z b x w' := by
 have h1n : 1 <= n := by omega
 have hB0 : Below w.heap.size w ((w.alloc (gO d i k)).alloc (gO 0 i k)) := aA (aA (br _ _) _) _; have C0 := (halq (w.alloc (gO d i k)) (gO 0 i k) w.heap.size (by simp)).trans (wnq w (gO d i k)); have D0 := wnq (w.alloc (gO d i k)) (gO 0 i k); rw [wsa] at D0; have hF0 := hF.zL hB0; obtain ⟨W0, hW0⟩ : ∃ W0, (w.alloc (gO d i k)).alloc (gO 0 i k) = W0 := ⟨_, rfl⟩; rw [hW0] at hB0 C0 D0 hF0; obtain ⟨es, ck, hes, hen⟩ := hF0.hm; obtain ⟨o, ho1, ho2, ho3⟩ := MW i k (z + 2) es ck (fun e m => by obtain ⟨i', k', g, _⟩ := hen e m; exact ⟨i', k', g⟩); have p0 : W0.cell? ⟨z + 3, 0, none⟩ = some (.map (some (z + 2))) := aK hF0.hc rfl; obtain ⟨d0, d1, d2⟩ := aJ D0; have hlk := ho2 W0 hes; refine callsIn_of_wp Tryz.func233 rfl trivial ?_ rfl; simp only [Tryz.ntmps233, lsz, llc, lln, Nat.reduceAdd, Nat.reduceSub, ars, arz, lpt, lap, lna, lca]; have HW0 : Hid ((w.alloc (gO d i k)).alloc (gO 0 i k) = W0) := hW0; have HC0 : Hid (W0.heap[w.heap.size]? = some (gO d i k)) := C0; have HD0 : Hid (W0.heap[w.heap.size + 1]? = some (gO 0 i k)) := D0; clear C0 D0 ho2; obtain ⟨V, hV⟩ : ∃ V, V = oL b x d i k := ⟨_, rfl⟩; rw [← hV]; have HV : Hid _ := hV; clear hV
 cases o with
 | some v =>
  obtain ⟨e, hem, hek, rfl⟩ := ho1 v rfl; obtain ⟨i', k', g1, g2⟩ := hen e hem; rw [g1] at hek; obtain ⟨rfl, rfl⟩ : i' = i /\ k' = k := by simpa using hek
  obtain ⟨ao, cap, l, hev, hX, hl, hcov⟩ := g2.covers hd0 hd1; rw [hev] at hlk; obtain ⟨c0, c1, c2⟩ := aJ HC0.out; have HR : Hid (i9 (z + 2) w W0) := i9.of_below hB0; have HCV : Hid (fQ l ⟨d, d⟩ = !V) := by rw [Hid, hcov, HV.out]
  have HF0 : Hid _ := hF0; clear ho1 ho3 hen hem hek g1 g2 hcov hF0 hev hes; simp only [Option.getD_some, Option.isSome_some] at hlk; gi_wp2_with fail
  refine ⟨trivial, ?_⟩; refine (cw.2 (oF l ⟨d, d⟩ ao cap W0 hX hl)).mono ?_; rintro e w1 ⟨rfl, hb1⟩; rw [HCV.out]; have HE : Hid (i9 (z + 2) w w1 /\ l8 z b x w1) := ⟨HR.out.trans (i9.of_below hb1), HF0.out.zL hb1⟩
  cases V <;>
  · gi_wp2
    go_ret; exact ⟨rfl, HE.out⟩
 | none =>
  have ho3' := ho3 rfl; have hNo : Hid _ := ho3'; clear ho1 ho3 ho3'; simp only [Option.getD_none, Option.isSome_none] at hlk; obtain ⟨c0, c1, c2⟩ := aJ HC0.out; obtain ⟨m0, m1, m2⟩ := aJ hF0.hb; obtain ⟨q0, q1, q2, q3, q4, q5, q6, q7⟩ := fS hF0.hx; have HF0 : Hid _ := hF0; have HES : Hid _ := hes; have HEN : Hid _ := hen; clear hF0 hes hen; gi_wp2_with fail
  refine ⟨trivial, ?_⟩; refine (J3 (n - 1) (by omega) b x i k W0 (hb.zL hB0) (hx.zL hB0) hok hnow0 hnow1 hl0 hl1 hxf hxq).mono ?_; rintro e w1 ⟨⟨v, rfl, hv⟩, hb1⟩; have hF1 := HF0.out.zL hb1; have hes1 := (hb1.block _ (bH HES.out)).trans HES.out; have hen1 : ∀ e ∈ es.toList, ∃ i k : Int, e.key = fY 0 i k /\ lZ x.l (fun d => oL b x d i k = false) e.val w1 := fun e m => by obtain ⟨i', k', g1, g2⟩ := HEN.out e m; exact ⟨i', k', g1, g2.zL hb1⟩
  have hup := hNo.out w1 v hes1; have hF2 := hF1.put hes1 hen1 hv ck (ck + 1); have hB1 := (i9.of_below (m := z + 2) (aC hB0 hb1)).trans (i9.set (m := z + 2) w1 (.map (es.push ⟨fY 0 i k, v, ck⟩) (ck + 1))); have hv2 := (i9.set (m := z + 2) w1 (.map (es.push ⟨fY 0 i k, v, ck⟩) (ck + 1))).spsF hes1 hv; have C1 := (hb1.block _ (bH HC0.out)).trans HC0.out; have D1 := (hb1.block _ (bH HD0.out)).trans HD0.out; have p0 : w1.cell? ⟨z + 3, 0, none⟩ = some (.map (some (z + 2))) := aK hF1.hc rfl; obtain ⟨d0, d1, d2⟩ := aJ D1; obtain ⟨w2, hw2⟩ : ∃ w2, ({ w1 with heap := w1.heap.setIfInBounds (z + 2) (.map (es.push ⟨fY 0 i k, v, ck⟩) (ck + 1)) } : World) = w2 := ⟨_, rfl⟩; have c0 : w2.cell? ⟨w.heap.size, 0, none⟩ = some (.int .i64 d) := by rw [← hw2]; exact (i9.set (m := z + 2) w1 _).cell hes1 (aK C1 rfl)
  rw [hw2] at hup hF2 hB1 hv2; obtain ⟨ao, cap, l, rfl, hX, hl, hcov⟩ := hv2.covers hd0 hd1; have HCV : Hid (fQ l ⟨d, d⟩ = !V) := by rw [Hid, hcov, HV.out]
  have HF2 : Hid _ := hF2; have HB1 : Hid _ := hB1; clear m0 m1 m2 q0 q1 q2 q3 q4 q5 q6 q7 hF1 hes1 hen1 C1 D1 hcov hF2 hB1 hv2 hv hb1 hw2 hlk; gi_wp2_with fail
  refine ⟨trivial, ?_⟩; refine (cw.2 (oF l ⟨d, d⟩ ao cap w2 hX hl)).mono ?_; rintro e w3 ⟨rfl, hb3⟩; rw [HCV.out]; have HE : Hid (i9 (z + 2) w w3 /\ l8 z b x w3) := ⟨HB1.out.trans (i9.of_below hb3), HF2.out.zL hb3⟩
  cases V <;>
  · gi_wp2
    go_ret; exact ⟨rfl, HE.out⟩
end Go.Proofs.YtiojdbffjdoniaaGreatDoor
namespace Go.Proofs.YtiojdbffjdoniaaGreatDoor
set_option maxRecDepth 100000
set_option maxHeartbeats 2000000
open Go.RowKit Go.Shelf
attribute [local go_sem] mkMap
abbrev PY (r : Nat) : Obj := .cells #[.map (some r)] 305
theorem FH (b : Bk) (x : Wx) (w : World) :
 Calls Tryz.prog 221 #[b.val, x.val] w fun e w' => e = .returned (.func (.func 233) #[] #[.pointer (some ⟨w.heap.size + 3, 0, none⟩), .pointer (some ⟨w.heap.size, 0, none⟩), .pointer (some ⟨w.heap.size + 1, 0, none⟩)]) /\ Below w.heap.size w w' /\ l8 w.heap.size b x w' := by
 have hB0 : Below w.heap.size w ((((w.alloc b.obj).alloc x.obj).alloc (.map #[] 0)).alloc (PY (w.heap.size + 2))) := aA (aA (aA (aA (br _ _) _) _) _) _
 have F0 : l8 w.heap.size b x ((((w.alloc b.obj).alloc x.obj).alloc (.map #[] 0)).alloc (PY (w.heap.size + 2))) := by
  have a1 := wnq w b.obj; have a2 := wnq (w.alloc b.obj) x.obj; have a3 := wnq ((w.alloc b.obj).alloc x.obj) (.map #[] 0); have a4 := wnq (((w.alloc b.obj).alloc x.obj).alloc (.map #[] 0)) (PY (w.heap.size + 2)); simp only [wsa] at a2 a3 a4; refine ⟨?_, ?_, a4, #[], 0, ?_, fun e m => by simp at m⟩
  · exact (halq _ _ _ (by simp; omega)).trans ((halq _ _ _ (by simp; omega)).trans ((halq _ _ _ (by simp)).trans a1))
  · exact (halq _ _ _ (by simp)).trans ((halq _ _ _ (by simp)).trans a2)
  · exact (halq _ _ _ (by simp)).trans a3
 have H : Hid _ := And.intro hB0 F0; clear hB0 F0
 go_enter Tryz.func221, Tryz.ntmps221
 go_wp2
 go_ret; exact ⟨rfl, H.out⟩
end Go.Proofs.YtiojdbffjdoniaaGreatDoor
namespace Go.Proofs.YtiojdbffjdoniaaGreatDoor
set_option maxRecDepth 100000
set_option maxHeartbeats 4000000
open Go.RowKit Go.Shelf
attribute [local go_sem] Oper.semAt_some
theorem NZ (n cap : Nat) (ao : Option Addr) (w : World) (hn : n <= 1048576) :
 Calls Tryz.prog 229 #[.slice ao n cap] w fun e w' => e = .returned (.bool (uI n)) /\ w' = w := by
 go_enter Tryz.func229, Tryz.ntmps229
 go_wp2
 all_goals go_ret
 all_goals refine ⟨aD ?_, rfl⟩
 all_goals (rw [Bool.eq_iff_iff]; simp only [uI, dte, Bool.false_eq_true, false_iff]; omega)
theorem AP (l : List Cx) (ao : Option Addr) (cap : Nat) (w : World) (hl : Xs 2 Cx.cells w ao l) (hn : l.length <= 1048576) :
 Calls Tryz.prog 230 #[.slice ao l.length cap] w fun e w' => e = .returned (.bool (l.all dY)) /\ Below w.heap.size w w' := by
 go_enter Tryz.func230, Tryz.ntmps230
 go_wp2
 go_loopw [7] (fun i wr => ∃ k : Nat, k <= l.length /\ i = .int .i64 k /\ Below w.heap.size w wr /\ Hid ((l.take k).all dY = true)) (fun i _ => l.length - (intOf i).toNat)
 case atStart => exact ⟨0, nz _, rfl, br _ _, by simp [Hid]⟩
 case round =>
  obtain ⟨k, hk, rfl, hN, hno⟩ := hrel
  by_cases hlt : k < l.length
  · rcases hl with h | ⟨bl, off, rfl, hc⟩
    · subst h; simp at hlt
    · have hbx := (hc k hlt).zL hN
      obtain ⟨b, hbe⟩ : ∃ b, b = l[k] := ⟨_, rfl⟩; rw [← hbe] at hbx; have HB : Hid (b = l[k]) := hbe; clear hbe hc; obtain ⟨c0, c1⟩ := kU hbx; clear hbx; have hN' : Below w.heap.size w _ := jO hN (nlq _) (.cells #[.int .i64 b.x, .int .i64 b.y] 171); obtain ⟨V, hV⟩ : ∃ V, V = fF b.x b.y := ⟨_, rfl⟩; have HV : Hid (V = dY b) := hV; clear hV
      cases V with
      | false =>
       go_wp2_with (go_at_call 134; refine (lV _ _ _).mono ?_; rintro e w1 ⟨rfl, rfl⟩; rw [show fF b.x b.y = false from HV.out.symm])
       go_ret; exact ⟨aD (gB _ l k hlt (by rw [← HB.out]; exact HV.out.symm)).symm, hN'⟩
      | true =>
       go_wp2_with (go_at_call 134; refine (lV _ _ _).mono ?_; rintro e w1 ⟨rfl, rfl⟩; rw [show fF b.x b.y = true from HV.out.symm])
       go_roundw
       case rel => exact ⟨k + 1, by omega, by go_num, hN', by rw [Hid, kM _ l k hlt, hno.out, ← HB.out, ← HV.out]; rfl⟩
       case measure => simp [intOf]; omega
  · go_wp2
    go_ret; refine ⟨aD ?_, hN⟩; rw [ltl (by omega)] at hno; exact hno.out.symm
theorem qL {c : Cx} (h : dY c = true) : 0 <= c.x /\ c.x < 16 /\ 0 <= c.y /\ c.y < 16 := by
 simpa only [dY, fF, dte] using h
theorem EN (n : Nat) (hn : 6 <= n) (bl off cap : Nat) (l : List Cx) (hok : l.all dY = true) (hl1 : 1 <= l.length) (hlen : l.length <= 1048576) (w : World) (hc : ∀ j (h : j < l.length), aM w bl (off + j * 2) l[j].cells) :
 CallsIn Fence.wide n Tryz.prog 231 #[.slice (some ⟨bl, off, none⟩) l.length cap] w fun e W' => e = .returned (.bool (fG l)) /\ Below w.heap.size w W' := by
 have h1 : 1 <= n := by omega
 refine callsIn_of_wp_marks Tryz.func231 rfl trivial ?_ rfl; simp only [Tryz.ntmps231, lsz, llc, lln, Nat.reduceAdd, Nat.reduceSub, ars, arz, lpt, lap, lna, lca]; gi_wp2_with fail
 refine ⟨trivial, ?_⟩; refine (L2 Fence.wide (n - 1) trivial rfl _ _ _ _).mono ?_; rintro e w' ⟨rfl, rfl⟩; gi_wp2_with fail
 have bR := (Boxed.new w 4 (.bool false)).alloc (.cells #[.slice (some ⟨bl, off, none⟩) l.length cap] 168); have bS := Boxed.new (w.alloc (.cells #[.bool false] 4)) 168 (.slice (some ⟨bl, off, none⟩) l.length cap); simp only [wsa] at bS; have hB0 : Below w.heap.size w ((w.alloc (.cells #[.bool false] 4)).alloc (.cells #[.slice (some ⟨bl, off, none⟩) l.length cap] 168)) := ((br _ w).alloc (nlq _) _).alloc (by simp) _; have hsz : ((w.alloc (.cells #[.bool false] 4)).alloc (.cells #[.slice (some ⟨bl, off, none⟩) l.length cap] 168)).heap.size = w.heap.size + 2 := by simp
 obtain ⟨W0, hW0⟩ : ∃ W0, (w.alloc (.cells #[.bool false] 4)).alloc (.cells #[.slice (some ⟨bl, off, none⟩) l.length cap] 168) = W0 := ⟨_, rfl⟩; rw [hW0] at bR bS hB0 hsz ⊢; clear hW0
 refine wpIn_rangeFunc_ownH rfl h1 (gf := 243) (lb := #[.pointer (some ⟨w.heap.size + 1, 0, none⟩)]) rfl trivial (enters_of Tryz.func243 (by kernel_rfl) rfl)
  (AX (n - 1) (w.heap.size + 1) bl off cap l hok hl1 hlen W0 bS.cell (fun j h => (hc j h).zL hB0)) belowK_t (belowK_b (nlq _)) (br _ _) (fun _ => rfl)
  (fun pre W => (∀ x ∈ pre, gI x.1.1 x.1.2 = true) /\ Below W0.heap.size W0 W)
  (fun c pre W => ((c = .ret /\ ∃ x ∈ pre, gI x.1.1 x.1.2 = false) /\ Boxed W w.heap.size 4 (.bool false)) /\ Below w.heap.size w W)
  (OwnFrom.and (ownFrom_pure _ _) (ownFrom_below (nlq _) (nlq _)))
  (fun c => OwnFrom.and (OwnFrom.and (ownFrom_pure _ _) (Own.from (boxed_own _ _ _) _)) (ownFrom_below (nlq _) (by omega)))
  ⟨by simp, br _ _⟩
  (fun x a' W => ∃ B1 B2, tF W B1 x.1.1 /\ tF W B2 x.1.2 /\ a' = { tmps := #[.slice (some ⟨bl, off, none⟩) l.length cap, undef, .pointer (some ⟨w.heap.size, 0, none⟩), .pointer (some ⟨B1, 0, none⟩), .pointer (some ⟨B2, 0, none⟩), .slice (some ⟨bl, off, none⟩) l.length cap, .func (.func 243) #[] #[.pointer (some ⟨w.heap.size + 1, 0, none⟩)], x.1.1.val, x.1.2.val, undef, undef, undef, undef, undef, undef, undef, undef, undef, undef, undef, undef, undef, undef, undef, undef, undef, undef, undef], defers := [] })
  (fun x a' _ X Y row hs hg hr => by obtain ⟨B1, B2, e1, e2, e3⟩ := hs; exact ⟨B1, B2, wS e1 hg (fun r e => (hr r e).2), wS e2 hg (fun r e => (hr r e).2), e3⟩)
  ?assign ?body ?done ?stop
 case assign =>
  rintro lp pre x W K ⟨hp, hB1⟩ hK; gi_wp2
  exact hK _ _ (((KeepsOthers.alloc _ _).trans (KeepsOthers.alloc _ _)).from _) (((br _ W).alloc hB1.size _).alloc (by have := hB1.size; simp; omega) _) ⟨hp, (hB1.alloc hB1.size _).alloc (by have := hB1.size; simp; omega) _⟩
   ⟨W.heap.size, W.heap.size + 1, (DG W _ rfl x.1.1 _).zL ((br _ _).alloc (nlq _) _), DG _ _ (by simp) x.1.2 _, rfl⟩
 case body =>
  rintro lp pre x a' W hl ⟨r, hr⟩ ⟨hp, hB1⟩ ⟨B1, B2, e1, e2, rfl⟩ hlt; have h1' : 1 <= n - 1 - 1 := by omega
  have hxa := qL x.2.1; have hxb := qL x.2.2; have cR : W.cell? ⟨w.heap.size, 0, none⟩ = some (.bool false) := (hB1.cell (p := ⟨w.heap.size, 0, none⟩) (by show w.heap.size < _; omega)).trans bR.cell; have fR : W.frozen? ⟨w.heap.size, 0, none⟩ = false := (hB1.frozen (p := ⟨w.heap.size, 0, none⟩) (by show w.heap.size < _; omega)).trans bR.frozen; have bR2 : Boxed W w.heap.size 4 (.bool false) := (hB1.block w.heap.size (by omega)).trans bR; have hBw : Below w.heap.size w W := hB0.trans (hB1.mono (by omega)); obtain ⟨c0, c1⟩ := e1; obtain ⟨d0, d1⟩ := e2; have hmem : x ∈ pre ++ [x] := lma.2 (.inr (by simp)); have HM : Hid (x ∈ pre ++ [x]) := hmem; clear hmem; obtain ⟨⟨⟨⟨ax, ay⟩, ⟨bx, by_⟩⟩, hxx⟩, hxe⟩ : ∃ y, y = x := ⟨_, rfl⟩; rw [← hxe] at hxa hxb c0 c1 d0 d1; have HX : Hid (gI x.1.1 x.1.2 = gI ⟨ax, ay⟩ ⟨bx, by_⟩) := by rw [← hxe]; rfl
  rw [← hxe]; rw [hxe]; have e7 : x.1.1.val = .agg #[.int .i64 ax, .int .i64 ay] := by rw [← hxe]
  have e8 : x.1.2.val = .agg #[.int .i64 bx, .int .i64 by_] := by rw [← hxe]
  clear hxe; simp only at hxa hxb c0 c1 d0 d1; obtain ⟨ha1, ha2, ha3, ha4⟩ := hxa; obtain ⟨hb1, hb2, hb3, hb4⟩ := hxb
  have HStop : Hid (gI ⟨ax, ay⟩ ⟨bx, by_⟩ = false -> KeepsFrom W0.heap.size W (W.setCell ⟨w.heap.size, 0, none⟩ (.bool false)) /\ (∃ y ∈ pre ++ [x], gI y.1.1 y.1.2 = false) /\ Boxed (W.setCell ⟨w.heap.size, 0, none⟩ (.bool false)) w.heap.size 4 (.bool false) /\ Below w.heap.size w (W.setCell ⟨w.heap.size, 0, none⟩ (.bool false))) := fun hst =>
   ⟨(KeepsOthers.setCell _ _ _).from _, ⟨x, HM.out, by rw [HX.out]; exact hst⟩, bR2.set _, hBw.setCell (p := ⟨w.heap.size, 0, none⟩) (nlq _) _⟩
  have HGo : Hid (gI ⟨ax, ay⟩ ⟨bx, by_⟩ = true -> KeepsFrom W0.heap.size W W /\ Below W0.heap.size W W /\ (∀ y ∈ pre ++ [x], gI y.1.1 y.1.2 = true) /\ Below W0.heap.size W0 W) := fun hst =>
   ⟨(aZ (br _ _)).from _, br _ _, fun y hy => (lma.1 hy).elim (hp y) (fun e => by simp at e; subst e; rw [HX.out]; exact hst), hB1⟩
  clear hp hB1 hBw bR2 HX HM
  by_cases hx : ax = bx /\ ay = by_
  · have HS : Hid _ := HStop.out (by simp only [gI, decide_eq_false_iff_not]; omega)
    have q0 : (ax == bx) = true := by simp [hx.1]
    have q1 : (ay == by_) = true := by simp [hx.2]
    clear hx HStop HGo; gi_wp2_with fail
    refine ⟨trivial, ?_⟩; gi_wp2_with fail
    refine ⟨trivial, ?_⟩; gi_wp2; exact ⟨HS.out.1, ⟨⟨rfl, HS.out.2.1⟩, HS.out.2.2.1⟩, HS.out.2.2.2⟩
  · have hq : (ax == bx) = false ∨ ((ax == bx) = true /\ (ay == by_) = false) := by
     by_cases h : ax = bx
     · exact .inr ⟨by simp [h], by simp; exact fun h2 => hx ⟨h, h2⟩⟩
     · exact .inl (by simp [h])
    have HXY : Hid (¬ (ax = bx /\ ay = by_)) := hx; clear hx
    by_cases h1 : max (ax - bx) (bx - ax) > 1
    · have HS : Hid _ := HStop.out (by simp only [gI, decide_eq_false_iff_not]; omega)
      clear HStop HGo
      rcases hq with q0 | ⟨q0, q1⟩
      all_goals
       gi_wp2_with fail
       refine ⟨trivial, ?_⟩; refine (CallsIn.inRound lp (cw.2 (jK ax bx W ha1 ha2 hb1 hb2))).mono ?_; rintro e w1 ⟨rfl, rfl⟩; gi_wp2_with fail
       refine ⟨trivial, ?_⟩; gi_wp2; exact ⟨HS.out.1, ⟨⟨rfl, HS.out.2.1⟩, HS.out.2.2.1⟩, HS.out.2.2.2⟩
    · by_cases h2 : max (ay - by_) (by_ - ay) > 1
      · have HS : Hid _ := HStop.out (by simp only [gI, decide_eq_false_iff_not]; omega)
        clear HStop HGo
        rcases hq with q0 | ⟨q0, q1⟩
        all_goals
         gi_wp2_with fail
         refine ⟨trivial, ?_⟩; refine (CallsIn.inRound lp (cw.2 (jK ax bx W ha1 ha2 hb1 hb2))).mono ?_; rintro e w1 ⟨rfl, rfl⟩; gi_wp2_with fail
         refine ⟨trivial, ?_⟩; refine (CallsIn.inRound lp (cw.2 (jK ay by_ _ ha3 ha4 hb3 hb4))).mono ?_; rintro e w1 ⟨rfl, rfl⟩; gi_wp2; exact ⟨HS.out.1, ⟨⟨rfl, HS.out.2.1⟩, HS.out.2.2.1⟩, HS.out.2.2.2⟩
      · have HS : Hid _ := HGo.out (by have := HXY.out; simp only [gI, dte]; omega)
        clear HStop HGo
        rcases hq with q0 | ⟨q0, q1⟩
        all_goals
         gi_wp2_with fail
         refine ⟨trivial, ?_⟩; refine (CallsIn.inRound lp (cw.2 (jK ax bx W ha1 ha2 hb1 hb2))).mono ?_; rintro e w1 ⟨rfl, rfl⟩; gi_wp2_with fail
         refine ⟨trivial, ?_⟩; refine (CallsIn.inRound lp (cw.2 (jK ay by_ _ ha3 ha4 hb3 hb4))).mono ?_; rintro e w1 ⟨rfl, rfl⟩; gi_wp2; exact ⟨HS.out.1, HS.out.2.1, HS.out.2.2.1, HS.out.2.2.2⟩
 case done =>
  rintro D zs W hD rfl ⟨hp, hB1⟩ hK; have bR1 : Boxed W w.heap.size 4 (.bool false) := (hB1.block w.heap.size (by omega)).trans bR; have cR := bR1.cell; have fR := bR1.frozen; gi_wp2; have hK' := (KeepsOthers.setCell W ⟨w.heap.size, 0, none⟩ (.bool true)).same D _ hK rfl; refine ⟨by simp, .inl ⟨_, _, rfl, run_takeDeferred hK', ?_⟩⟩; have hc5 := cell_kept (bR1.set (.bool true)).cell (grownBy_putObj' _ D (.deferred none)) (fun r e => by cases e; exact ⟨_, hK', rfl⟩); refine ⟨.bool true, ?_, by rw [EF hp], (((hB0.trans (hB1.mono (by omega))).setCell (p := ⟨w.heap.size, 0, none⟩) (nlq _) _).trans (belowK_b (w := w) (nlq _) _ D _ _ (by omega) hK' rfl rfl))⟩
  simp [results, Tryz.f231, go_sem, hc5]
 case stop =>
  rintro D c pre W hD ⟨k, hk, rfl⟩ ⟨⟨⟨rfl, x, hx, hy⟩, bR1⟩, hB1⟩ hK; gi_wp2; refine ⟨by simp, .inl ⟨_, _, rfl, run_takeDeferred hK, ?_⟩⟩; have hc5 := cell_kept bR1.cell (grownBy_putObj' _ D (.deferred none)) (fun r e => by cases e; exact ⟨_, hK, rfl⟩); refine ⟨.bool false, ?_, by rw [DT hk hx hy], hB1.trans (belowK_b (w := w) (nlq _) W D _ _ (by omega) hK rfl rfl)⟩
  simp [results, Tryz.f231, go_sem, hc5]
def BA (s : Value) (bl off len z : Nat) (c0 cl : Cx) (j : Nat) (vs : Nat -> Value) (w : World) : Prop :=
 match j with
 | 0 => vs 0 = s
 | 1 => vs 1 = .pointer (some ⟨bl, off, none⟩)
 | 2 => vs 2 = c0.val
 | 3 => vs 3 = s
 | 4 => vs 4 = s
 | 5 => vs 5 = .int .i64 (len : Int)
 | 6 => vs 6 = .int .i64 ((len : Int) - 1)
 | 7 => vs 7 = .pointer (some ⟨bl, off + (len - 1) * 2, none⟩)
 | 8 => vs 8 = cl.val
 | 9 => vs 9 ≠ vs 10 /\ ∃ p u v, vs 9 = .pointer (some ⟨p, 0, none⟩) /\ z <= p /\ w.heap[p]? = some (.cells #[u, v] 171)
 | 10 => vs 9 ≠ vs 10 /\ ∃ p u v, vs 10 = .pointer (some ⟨p, 0, none⟩) /\ z <= p /\ w.heap[p]? = some (.cells #[u, v] 171)
 | 11 => ∃ p, vs 9 = .pointer (some ⟨p, 0, none⟩) /\ tF w p c0
 | 12 => ∃ p, vs 10 = .pointer (some ⟨p, 0, none⟩) /\ tF w p cl
 | _ => True
theorem BA.upd {s : Value} {bl off len z : Nat} {c0 cl : Cx} {j i : Nat} {vs : Nat -> Value} {w : World} (h : BA s bl off len z c0 cl j vs w) (hj : j ≠ i) (h9 : i ≠ 9) (h10 : i ≠ 10) (v : Value) : BA s bl off len z c0 cl j (aH vs i v) w := by
 have e9 : Go.Proofs.YtiojdbffjdoniaaGreatDoor.aH vs i v 9 = vs 9 := by unfold Go.Proofs.YtiojdbffjdoniaaGreatDoor.aH; rw [if_neg (Ne.symm h9)]
 have e10 : Go.Proofs.YtiojdbffjdoniaaGreatDoor.aH vs i v 10 = vs 10 := by unfold Go.Proofs.YtiojdbffjdoniaaGreatDoor.aH; rw [if_neg (Ne.symm h10)]
 have ej : Go.Proofs.YtiojdbffjdoniaaGreatDoor.aH vs i v j = vs j := by unfold Go.Proofs.YtiojdbffjdoniaaGreatDoor.aH; rw [if_neg hj]
 unfold BA at h ⊢
 split <;> simp_all
theorem BA.zL {s : Value} {bl off len z : Nat} {c0 cl : Cx} {j : Nat} {vs : Nat -> Value} {w w' : World} (h : BA s bl off len z c0 cl j vs w) (hb : Below w.heap.size w w') : BA s bl off len z c0 cl j vs w' := by
 have lt : ∀ {p : Nat} {o : Obj}, w.heap[p]? = some o -> w'.heap[p]? = some o := fun h => (hb.block _ (bH h)).trans h; unfold BA at h ⊢
 split
 all_goals first
  | exact h
  | exact ⟨h.1, by obtain ⟨p, u, v, e, hz, ho⟩ := h.2; exact ⟨p, u, v, e, hz, lt ho⟩⟩
  | (obtain ⟨p, e, hc⟩ := h; exact ⟨p, e, hc.zL hb⟩)
  | trivial
theorem BA.turn {s : Value} {bl off len z : Nat} {c0 cl : Cx} {j : Nat} {vs : Nat -> Value} {w w' : World} {q : Nat} (h : BA s bl off len z c0 cl j vs w) (hq : ∃ u v, w'.heap[q]? = some (.cells #[u, v] 171)) (ho : ∀ p, p ≠ q -> w'.heap[p]? = w.heap[p]?)
 (h11 : j = 11 -> vs 9 ≠ .pointer (some ⟨q, 0, none⟩)) (h12 : j = 12 -> vs 10 ≠ .pointer (some ⟨q, 0, none⟩)) : BA s bl off len z c0 cl j vs w' := by
 have cx : ∀ {p : Nat} {c : Cx}, p ≠ q -> tF w p c -> tF w' p c := fun hp hc => ⟨by have := hc.1; simp only [World.cell?, ho _ hp] at this ⊢; exact this, by have := hc.2; simp only [World.cell?, ho _ hp] at this ⊢; exact this⟩; unfold BA at h ⊢
 split
 all_goals first
  | exact h
  | (obtain ⟨h0, p, u, v, e, hz, hob⟩ := h
     refine ⟨h0, p, ?_⟩
     by_cases hp : p = q
     · subst hp; obtain ⟨u', v', hq'⟩ := hq; exact ⟨u', v', e, hz, hq'⟩
     · exact ⟨u, v, e, hz, by rw [ho _ hp]; exact hob⟩)
  | (obtain ⟨p, e, hc⟩ := h
     refine ⟨p, e, cx ?_ hc⟩; intro hp; subst hp
     first | exact h11 rfl e | exact h12 rfl e)
  | trivial
theorem IE {w : World} {z j : Nat} {cs : Array Value} {t : TypeId} {v : Value} (h : w.heap[z]? = some (.cells cs t)) (hj : cs[j]? = some v) : w.cell? ⟨z, j, none⟩ = some v := by simp [World.cell?, h, hj]
theorem NA {w : World} {z : Nat} {t : TypeId} {u v : Value} (h : w.heap[z]? = some (.cells #[u, v] t)) : w.rowIs z t 2 (fun i => if i = 0 then u else v) :=
 ⟨#[u, v], h, rfl, fun i hi => by match i, hi with | 0, _ => rfl | 1, _ => rfl⟩
theorem GM {w : World} {z : Nat} {t : TypeId} {f : Nat -> Value} (h : w.rowIs z t 2 f) : ∃ u v, w.heap[z]? = some (.cells #[u, v] t) := by
 obtain ⟨cs, ho, hs, _⟩ := h; refine ⟨cs[0], cs[1], ?_⟩; rw [ho]
 congr 2
 apply Array.ext
 · simp [hs]
 · intro i h1 h2
   have : i = 0 ∨ i = 1 := by simp at h2; omega
   rcases this with rfl | rfl <;> rfl
theorem OZ (n : Nat) (hn : 3 <= n) (fl : List Fx) (l : List Cx) (af : Option Addr) (cf bl off cap B : Nat) (w : World) (hcell : w.cell? ⟨B, 0, none⟩ = some (.slice af fl.length cf)) (hfl : Xs 3 Fx.cells w af fl) (hc : ∀ j (h : j < l.length), aM w bl (off + j * 2) l[j].cells) (hnf : fl.length <= 1048576) (hnl : l.length <= 1048576) (hl1 : 1 <= l.length) :
 CallsIn Fence.wide n Tryz.prog 232 #[.slice (some ⟨bl, off, none⟩) l.length cap, .pointer (some ⟨B, 0, none⟩)] w fun e w' => e = .returned (.bool (s5 fl l)) /\ Below w.heap.size w w' := by
 have h1 : 1 <= n := by omega
 have b0 := hc 0 (by omega); have bn := hc (l.length - 1) (by omega); have E0 : l[0]'(by omega) = i6 l 0 := (gN l 0 (by omega)).symm; have E1 : l[l.length - 1]'(by omega) = i6 l (l.length - 1) := (gN l (l.length - 1) (by omega)).symm; rw [E0, Nat.zero_mul, Nat.add_zero] at b0; rw [E1] at bn; unfold s5; generalize i6 l 0 = c0 at b0; generalize i6 l (l.length - 1) = cl at bn; obtain ⟨v1, g1⟩ : ∃ v, sX fl c0.x c0.y = v := ⟨_, rfl⟩; obtain ⟨v2, g2⟩ : ∃ v, sX fl cl.x cl.y = v := ⟨_, rfl⟩; rw [g1, g2]; have hlen : (1 : Int) <= (l.length : Int) := by omega
 clear hc E0 E1; refine callsIn_of_wp Tryz.func232 rfl trivial ?_ rfl; simp only [Tryz.ntmps232, lsz, llc, lln, Nat.reduceAdd, Nat.reduceSub, ars, arz, lpt, lap, lna, lca]; gi_wp2_with fail
 refine kZ (by kernel_rfl) (fun vs => { tmps := #[.slice (some ⟨bl, off, none⟩) l.length cap, .pointer (some ⟨B, 0, none⟩), undef, .bool false, vs 9, vs 10, vs 0, vs 1, vs 2, vs 3, vs 4, vs 5, vs 6, vs 7, vs 8, undef, undef, undef, undef, undef, undef, undef, undef, undef, undef, undef, undef, undef, undef], defers := [] }) (fun _ => undef)
  (BA (.slice (some ⟨bl, off, none⟩) l.length cap) bl off l.length w.heap.size c0 cl) (mC (by kernel_rfl)) ?step ?fin
 case step =>
  intro D i o vs w' hDi hun hclo ho hde hB hpr; have hi : i < 13 := (lgs.1 ho).1
  match i, hi with
  | 0, _ =>
   simp at ho; subst ho; gi_wp2; refine bX.mk' (.slice (some ⟨bl, off, none⟩) l.length cap) (by simp [aH]) hB rfl (fun a ha => (hpr a ha).upd (i := 0) (fun e => hDi (by rw [← e]; exact ha)) (by omega) (by omega) _)
  | 1, _ =>
   simp at ho; subst ho; have d0 : vs 0 = _ := hpr 0 (Zq hde 0); rw [d0]; gi_wp2; refine bX.mk' (.pointer (some ⟨bl, off, none⟩)) (by simp [aH, d0]) hB rfl (fun a ha => (hpr a ha).upd (i := 1) (fun e => hDi (by rw [← e]; exact ha)) (by omega) (by omega) _)
  | 2, _ =>
   simp at ho; subst ho; have d1 : vs 1 = _ := hpr 1 (Zq hde 1); rw [d1]; obtain ⟨k0, k1⟩ := kU (b0.zL hB); gi_wp2; refine bX.mk' (c0.val) (by simp [aH, d1]) hB rfl (fun a ha => (hpr a ha).upd (i := 2) (fun e => hDi (by rw [← e]; exact ha)) (by omega) (by omega) _)
  | 3, _ =>
   simp at ho; subst ho; gi_wp2; refine bX.mk' (.slice (some ⟨bl, off, none⟩) l.length cap) (by simp [aH]) hB rfl (fun a ha => (hpr a ha).upd (i := 3) (fun e => hDi (by rw [← e]; exact ha)) (by omega) (by omega) _)
  | 4, _ =>
   simp at ho; subst ho; gi_wp2; refine bX.mk' (.slice (some ⟨bl, off, none⟩) l.length cap) (by simp [aH]) hB rfl (fun a ha => (hpr a ha).upd (i := 4) (fun e => hDi (by rw [← e]; exact ha)) (by omega) (by omega) _)
  | 5, _ =>
   simp at ho; subst ho; have d4 : vs 4 = _ := hpr 4 (Zq hde 4); rw [d4]; gi_wp2; refine bX.mk' (.int .i64 (l.length : Int)) (by simp [aH, d4]) hB rfl (fun a ha => (hpr a ha).upd (i := 5) (fun e => hDi (by rw [← e]; exact ha)) (by omega) (by omega) _)
  | 6, _ =>
   simp at ho; subst ho; have d5 : vs 5 = _ := hpr 5 (Zq hde 5); rw [d5]; gi_wp2; refine bX.mk' (.int .i64 ((l.length : Int) - 1)) (by simp [aH, d5]) hB rfl (fun a ha => (hpr a ha).upd (i := 6) (fun e => hDi (by rw [← e]; exact ha)) (by omega) (by omega) _)
  | 7, _ =>
   simp at ho; subst ho; have d3 : vs 3 = _ := hpr 3 (Zq hde 3); have d6 : vs 6 = _ := hpr 6 (Zq hde 6); rw [d3, d6]; gi_wp2; refine bX.mk' (.pointer (some ⟨bl, off + (l.length - 1) * 2, none⟩)) (by simp [aH, d3, d6]) hB rfl (fun a ha => (hpr a ha).upd (i := 7) (fun e => hDi (by rw [← e]; exact ha)) (by omega) (by omega) _)
  | 8, _ =>
   simp at ho; subst ho; have d7 : vs 7 = _ := hpr 7 (Zq hde 7); rw [d7]; obtain ⟨k0, k1⟩ := kU (bn.zL hB); gi_wp2; refine bX.mk' (cl.val) (by simp [aH, d7]) hB rfl (fun a ha => (hpr a ha).upd (i := 8) (fun e => hDi (by rw [← e]; exact ha)) (by omega) (by omega) _)
  | 9, _ =>
   simp at ho; subst ho; gi_wp2; have hal : Below w'.heap.size w' (w'.alloc (.cells #[.int .i64 0, .int .i64 0] 171)) := aA (br _ _) _; have hnew : (w'.alloc (.cells #[.int .i64 0, .int .i64 0] 171)).heap[w'.heap.size]? = some (.cells #[.int .i64 0, .int .i64 0] 171) := wnq w' _; have hsz := hB.size
   have hne : D 10 -> vs 10 ≠ .pointer (some ⟨w'.heap.size, 0, none⟩) := fun hD e => by
    obtain ⟨_, p, u, v, e2, _, ho2⟩ := hpr 10 hD; rw [e] at e2; simp at e2; have := (bH ho2); omega
   have hu : ¬ D 10 -> vs 10 = undef := hun 10
   have hnn : vs 10 ≠ .pointer (some ⟨w'.heap.size, 0, none⟩) := by
    by_cases hD : D 10
    · exact hne hD
    · rw [hu hD]; intro e; cases e
   refine bX.mk' (.pointer (some ⟨w'.heap.size, 0, none⟩)) (by simp [aH]) (hB.trans (hal.mono hsz)) ?_ (fun a ha => ?_)
   · exact ⟨by simp only [aH]; simp; exact fun e => hnn e.symm, w'.heap.size, _, _, by simp [aH], hsz, hnew⟩
   · have h0 := (hpr a ha).zL hal
     have ha9 : a ≠ 9 := fun e => hDi (by rw [← e]; exact ha); have hno : ¬ D 11 := fun hD => hDi (hclo 11 _ hD rfl (eD 9) (by simp) rfl); unfold BA at h0 ⊢
     split
     all_goals first
      | (simp only [aH]; simp; exact h0)
      | exact absurd rfl ha9
      | exact absurd ha hno
      | (obtain ⟨_, p, u, v, e, hz, hob⟩ := h0
         exact ⟨by simp only [aH]; simp; exact fun e => hnn e.symm, p, u, v, by simp only [aH]; simp; exact e, hz, hob⟩)
      | trivial
  | 10, _ =>
   simp at ho; subst ho; gi_wp2; have hal : Below w'.heap.size w' (w'.alloc (.cells #[.int .i64 0, .int .i64 0] 171)) := aA (br _ _) _; have hnew : (w'.alloc (.cells #[.int .i64 0, .int .i64 0] 171)).heap[w'.heap.size]? = some (.cells #[.int .i64 0, .int .i64 0] 171) := wnq w' _; have hsz := hB.size
   have hne : D 9 -> vs 9 ≠ .pointer (some ⟨w'.heap.size, 0, none⟩) := fun hD e => by
    obtain ⟨_, p, u, v, e2, _, ho2⟩ := hpr 9 hD; rw [e] at e2; simp at e2; have := (bH ho2); omega
   have hu : ¬ D 9 -> vs 9 = undef := hun 9
   have hnn : vs 9 ≠ .pointer (some ⟨w'.heap.size, 0, none⟩) := by
    by_cases hD : D 9
    · exact hne hD
    · rw [hu hD]; intro e; cases e
   refine bX.mk' (.pointer (some ⟨w'.heap.size, 0, none⟩)) (by simp [aH]) (hB.trans (hal.mono hsz)) ?_ (fun a ha => ?_)
   · exact ⟨by simp only [aH]; simp; exact hnn, w'.heap.size, _, _, by simp [aH], hsz, hnew⟩
   · have h0 := (hpr a ha).zL hal
     have ha10 : a ≠ 10 := fun e => hDi (by rw [← e]; exact ha); have hno : ¬ D 12 := fun hD => hDi (hclo 12 _ hD rfl (eD 10) (by simp) rfl); unfold BA at h0 ⊢
     split
     all_goals first
      | (simp only [aH]; simp; exact h0)
      | exact absurd rfl ha10
      | exact absurd ha hno
      | (obtain ⟨_, p, u, v, e, hz, hob⟩ := h0
         exact ⟨by simp only [aH]; simp; exact hnn, p, u, v, by simp only [aH]; simp; exact e, hz, hob⟩)
      | trivial
  | 11, _ =>
   simp at ho; subst ho; have dv : vs 2 = _ := hpr 2 (Zq hde 2); obtain ⟨hne, p, u, v, e9, hz, hob⟩ := hpr 9 (Zq hde 9); have HNE : Hid (vs 9 ≠ vs 10) := hne; have HE9 : Hid (vs 9 = .pointer (some ⟨p, 0, none⟩)) := e9; rw [dv, e9]; have k0 : w'.cell? ⟨p, 0, none⟩ = some u := IE hob rfl; have k1 : w'.cell? ⟨p, 1, none⟩ = some v := IE hob rfl; have hrow := NA hob; have fz := fun i => hrow.frozen i; clear hne; gi_wp2; have r2 := (hrow.set 0 (.int .i64 c0.x)).set 1 (.int .i64 c0.y); refine bX.mk' undef (by simp [aH, dv, e9]) ((hB.setCell hz _).setCell hz _) ?_ (fun a ha => ?_)
   · exact ⟨p, by simp only [aH]; simp; exact HE9.out, r2.cell (i := 0) (by omega), r2.cell (i := 1) (by omega)⟩
   · refine (BA.turn (hpr a ha) (q := p) (GM r2) (fun p' hp' => ?_) (fun e => ?_) (fun e => ?_)).upd (i := 11) (fun e => hDi (by rw [← e]; exact ha)) (by omega) (by omega) _
     · rw [Below.heap_setCell _ _ _ _ hp', Below.heap_setCell _ _ _ _ hp']
     · exact absurd (by rw [← e]; exact ha) hDi
     · intro e2; exact HNE.out (HE9.out.trans e2.symm)
  | 12, _ =>
   simp at ho; subst ho; have dv : vs 8 = _ := hpr 8 (Zq hde 8); obtain ⟨hne, p, u, v, e9, hz, hob⟩ := hpr 10 (Zq hde 10); have HNE : Hid (vs 9 ≠ vs 10) := hne; have HE9 : Hid (vs 10 = .pointer (some ⟨p, 0, none⟩)) := e9; rw [dv, e9]; have k0 : w'.cell? ⟨p, 0, none⟩ = some u := IE hob rfl; have k1 : w'.cell? ⟨p, 1, none⟩ = some v := IE hob rfl; have hrow := NA hob; have fz := fun i => hrow.frozen i; clear hne; gi_wp2; have r2 := (hrow.set 0 (.int .i64 cl.x)).set 1 (.int .i64 cl.y); refine bX.mk' undef (by simp [aH, dv, e9]) ((hB.setCell hz _).setCell hz _) ?_ (fun a ha => ?_)
   · exact ⟨p, by simp only [aH]; simp; exact HE9.out, r2.cell (i := 0) (by omega), r2.cell (i := 1) (by omega)⟩
   · refine (BA.turn (hpr a ha) (q := p) (GM r2) (fun p' hp' => ?_) (fun e => ?_) (fun e => ?_)).upd (i := 12) (fun e => hDi (by rw [← e]; exact ha)) (by omega) (by omega) _
     · rw [Below.heap_setCell _ _ _ _ hp', Below.heap_setCell _ _ _ _ hp']
     · intro e2; exact HNE.out (e2.trans HE9.out.symm)
     · exact absurd (by rw [← e]; exact ha) hDi
 case fin =>
  intro vs w' hB hpr; obtain ⟨p, e9, q0, q1⟩ := hpr 11 (by decide); obtain ⟨q, e10, r0, r1⟩ := hpr 12 (by decide); have e0 : vs 0 = _ := hpr 0 (by decide); have e1 : vs 1 = _ := hpr 1 (by decide); have e2 : vs 2 = _ := hpr 2 (by decide); have e3 : vs 3 = _ := hpr 3 (by decide); have e4 : vs 4 = _ := hpr 4 (by decide); have e5 : vs 5 = _ := hpr 5 (by decide); have e6 : vs 6 = _ := hpr 6 (by decide); have e7 : vs 7 = _ := hpr 7 (by decide); have e8 : vs 8 = _ := hpr 8 (by decide); rw [e0, e1, e2, e3, e4, e5, e6, e7, e8, e9, e10]; have kB := (hB.cell (p := ⟨B, 0, none⟩) (aB hcell)).trans hcell; clear hpr e0 e1 e2 e3 e4 e5 e6 e7 e8 e9 e10 b0 bn hcell; gi_wp2_with fail
  refine ⟨trivial, ?_⟩; refine (cw.2 (lC fl _ _ _ _ _ (hfl.zL hB) hnf)).mono ?_; rintro e w1 ⟨rfl, hb1⟩; rw [g1]; have kB1 := (hb1.cell (p := ⟨B, 0, none⟩) (aB kB)).trans kB; have r01 := (hb1.cell (p := ⟨q, 0, none⟩) (aB r0)).trans r0; have r11 := (hb1.cell (p := ⟨q, 1, none⟩) (aB r1)).trans r1; have hB1 := aC hB hb1; clear kB r0 r1 q0 q1 hb1
  cases v1 with
  | false =>
   gi_wp2_with fail
   refine ⟨trivial, ?_⟩; gi_wp2; go_ret; exact ⟨rfl, hB1⟩
  | true =>
   gi_wp2_with fail
   refine ⟨trivial, ?_⟩; refine (cw.2 (lC fl _ _ _ _ _ (hfl.zL hB1) hnf)).mono ?_; rintro e w2 ⟨rfl, hb2⟩; rw [g2]; gi_wp2; go_ret; exact ⟨rfl, aC hB1 hb2⟩
theorem L4 (fl : List Fx) (l : List Cx) (af ao : Option Addr) (cf cap B : Nat) (w : World) (hcell : w.cell? ⟨B, 0, none⟩ = some (.slice af fl.length cf)) (hfl : Xs 3 Fx.cells w af fl) (hl : Xs 2 Cx.cells w ao l) (hnf : fl.length <= 1048576) (hnl : l.length <= 1048576) (hl1 : 1 <= l.length) :
 Calls Tryz.prog 232 #[.slice ao l.length cap, .pointer (some ⟨B, 0, none⟩)] w fun e w' => e = .returned (.bool (s5 fl l)) /\ Below w.heap.size w w' := by
 rcases hl with h | ⟨bl, off, rfl, hc⟩
 · subst h; simp at hl1
 · exact cw.1 (OZ 3 (by omega) fl l af cf bl off cap B w hcell hfl hc hnf hnl hl1)
theorem CD (ao : Option Addr) (cap : Nat) (l : List Cx) (hok : l.all dY = true) (hl1 : 1 <= l.length) (hlen : l.length <= 1048576) (w : World) (hl : Xs 2 Cx.cells w ao l) :
 Calls Tryz.prog 231 #[.slice ao l.length cap] w fun e W' => e = .returned (.bool (fG l)) /\ Below w.heap.size w W' := by
 rcases hl with h | ⟨bl, off, rfl, hc⟩
 · subst h; simp at hl1
 · exact cw.1 (EN 6 (by omega) bl off cap l hok hl1 hlen w hc)
end Go.Proofs.YtiojdbffjdoniaaGreatDoor
