import Derived.Test.YtiojdbffjdoniaaGreatDoorRv
import Derived.Test.YtiojdbffjdoniaaGreatDoorHd
import Derived.Test.YtiojdbffjdoniaaGreatDoorSa
namespace Go.Proofs.YtiojdbffjdoniaaGreatDoor
open Go.RowKit Go.Shelf Go.BigFrame
theorem bC.but {R : Nat} {w w' : World} (h : bC R w w') : cA (fun k => k = R) w w' := ⟨h.os, h.tape, h.output, h.size, fun k hk e => h.block k hk e⟩
theorem CY {s : ByteArray} (h : bL s = true) : s.size <= 8 := by
 simp only [bL, bat, uA, dte] at h;exact h.1.2
theorem tS {fl : List Fx} {l : List Bx} (h : aK fl l = true) : l.length <= 40 := by
 simp only [aK, bat, kT, dte] at h;exact h.1.2
theorem wP {b : Bk} (h : aO b = true) : ∀ x ∈ b.hl, x.n.size <= 8 /\ x.tl.length <= 40 /\ x.nl.length <= 40 := by
 obtain ⟨_, _, _, h4⟩ := dM h;simp only [cH, bat, a9, lat] at h4;intro x hx;have ht := h4.2.1 x hx;simp only [bV, bat, Bool.or_eq_true, List.isEmpty_iff] at ht;refine ⟨CY (h4.1.1 x hx), tS ht.1, ?_⟩
 rcases ht.2.2 with e | e
 · rw [e];exact nz _
 · exact tS e.1
theorem KJ {b : Bk} (h : aO b = true) : b.fl.length <= 4 /\ ∀ f ∈ b.fl, f.n.size <= 8 := by
 obtain ⟨_, h2, _, _⟩ := dM h;simp only [aW, bat, a9, lat, dte] at h2;exact ⟨h2.1, fun f hf => CY (h2.2.1.1 f hf)⟩
theorem J8 {b : Bk} (h : aO b = true) : 0 <= b.now /\ b.now <= 10000 := by
 obtain ⟨h1, _, _, _⟩ := dM h
 simpa only [mD, dte] using h1
theorem rZ {b : Bk} (h : aO b = true) : b.hl.length <= 16 := by
 obtain ⟨_, _, h3, _⟩ := dM h
 simpa only [cI, dte] using h3
theorem dB.butR {z R : Nat} {w w' : World} {b : Bk} (h : dB z w b) (hb : bC R w w') (hR : R < z) : dB z w' b := h.but hb.but (fun k e => by rw [e];exact hR)
theorem dB.asks {z : Nat} {w : World} {b : Bk} (h : dB z w b) (hb : aO b = true) : dY w b := by
 have hf := KJ hb;have hh := wP hb;have hs := rZ hb;refine ⟨bJ.xs Fx.cells_length h.f, by omega, ?_, h.c _ _ _ rfl, fun f m => by have := hf.2 f m;omega, bJ.xs Hx.cells_length h.h, by omega, fun x m => ⟨h.inn x m, ?_⟩⟩
 · rcases h.f with ⟨_, e⟩ | ⟨g, cap, e, _, h3, _⟩
   · rw [e];exact nz _
   · simp only [Value.slice.injEq] at e;rw [e.2.2];exact h3
 · obtain ⟨h1, h2, h3⟩ := hh x m
   exact ⟨by omega, by omega, by omega⟩
theorem wX.asksW {w : World} {base : Nat} {v : Ev} (h : wX w base v) : iA w v.x := by
 rcases h.x with h | h
 · refine ⟨h.in, ⟨by have := h.w3;omega, fun y hy => by have := (h.yn y hy).l2;omega, by have := h.l3;omega, by have := h.n3;omega⟩, fun y hy => ?_⟩
   have hy := (h.yn y hy).own;obtain ⟨ao, cp, e, _, hle⟩ := y8 Cx.cells_length hy
   cases e
   exact ⟨hle, jH hy _ _ _ rfl⟩
 · rw [h]
   exact ⟨⟨.inl rfl, fun y hy => by simp [zR] at hy, .inl rfl⟩, ⟨by simp [zR], fun y hy => by simp [zR] at hy, by simp [zR], by show (0 : Nat) <= _;omega⟩, fun y hy => by simp [zR] at hy⟩
theorem D8 {b b' : Bk} {v : Ev} (h : aO b = true) (hn : b'.now = eB b v) (hf : b'.fl = b.fl) (hl : aL (dL b v) b'.hl) : aO b' = true := by
 obtain ⟨p1, p2, p3, p4⟩ := dM h
 by_cases e4 : v.k = 4
 · have q := NQ 1 h
   have e1 : eB b v = gA b 1 := by simp [eB, e4]
   have e2 : dL b v = eY b 1 := by simp [dL, e4]
   rw [e1] at hn;rw [e2] at hl;exact xO hn hf hl q.1 p2 q.2.1 q.2.2
 · have e1 : eB b v = b.now := by simp [eB, e4]
   rw [e1] at hn
   have q : cI (dL b v).length = true /\ cH b.fl b.now (dL b v) = true := by
    unfold dL
    split
    · exact OD v.x h
    · split
      · exact KQ v.n v.tl h
      · split
        · exact OL v.n v.t h
        · exact ⟨p3, p4⟩
   exact xO hn hf hl p1 p2 q.1 q.2
def IP (t : Nat) : Prop := t = 82 ∨ t = 42 ∨ t = 89 ∨ t = 174 ∨ t = 171 ∨ t = 3
instance (t : Nat) : Decidable (IP t) := by unfold IP;infer_instance
structure nI (w w' : World) : Prop where
 os : w'.os = w.os
 tape : w'.tape = w.tape
 output : w'.output = w.output
 size : w.heap.size <= w'.heap.size
 block : ∀ (k : Nat) (cs : Array Value) (t : Nat), w.heap[k]? = some (Obj.cells cs t) -> IP t -> w'.heap[k]? = w.heap[k]?
theorem nI.trans {a b c : World} (h : nI a b) (g : nI b c) : nI a c :=
 ⟨g.os.trans h.os, g.tape.trans h.tape, g.output.trans h.output, Nat.le_trans h.size g.size, fun k cs t e ht => (g.block k cs t ((h.block k cs t e ht).trans e) ht).trans (h.block k cs t e ht)⟩
theorem lC {w : World} {k : Nat} {o : Obj} (h : w.heap[k]? = some o) : k < w.heap.size := (bP h)
theorem nI.below {w w' : World} (h : Below w.heap.size w w') : nI w w' := ⟨h.os, h.tape, h.output, h.size, fun k _ _ e _ => h.block k (lC e)⟩
theorem nI.rd {R n cap : Nat} {ao : Option Addr} {p : Int} {w w' : World} (h : bC R w w') (hr : Rd w R ao n cap p) : nI w w' :=
 ⟨h.os, h.tape, h.output, h.size, fun k cs t e ht => h.block k (lC e) (fun e2 => by
  subst e2;obtain ⟨f, ⟨cs', e', _⟩, _⟩ := hr.row;rw [e] at e'
  cases e'
  exact absurd ht (by decide))⟩
theorem nI.set {w : World} {q t : Nat} {cs : Array Value} (hq : w.heap[q]? = some (.cells cs t)) (ht : ¬ IP t) (o : Nat) (u : Value) : nI w (w.setCell ⟨q, o, none⟩ u) :=
 ⟨rfl, rfl, rfl, by show w.heap.size <= (w.heap.modify _ _).size;rw [Array.size_modify];exact nlq _, fun k cs' t' e h' => Below.heap_setCell w ⟨q, o, none⟩ u k (fun e2 => by
  have e3 : k = q := e2;subst e3;rw [hq] at e
  cases e
  exact ht h')⟩
theorem nI.grown {w w' : World} {row : Option Nat} (hg : w.grownBy w' row) (hr : ∀ k, row = some k -> ∃ (cs : Array Value) (t : Nat), w.heap[k]? = some (Obj.cells cs t) /\ ¬ IP t) : nI w w' :=
 ⟨hg.os, hg.tape, hg.output, hg.size, fun k cs t e ht => hg.block k (lC e) (fun e2 => by
  obtain ⟨cs', t', e', h'⟩ := hr k e2.symm;rw [e] at e'
  cases e'
  exact h' ht)⟩
theorem nI.at {w w' : World} (h : nI w w') {k t n : Nat} {f : Nat -> Value} (hr : w.rowIs k t n f) (ht : IP t) : w'.heap[k]? = w.heap[k]? := by
 obtain ⟨cs, e, _⟩ := hr;exact h.block k cs t e ht
theorem dB.oth {z : Nat} {w w' : World} {b : Bk} (h : dB z w b) (ho : nI w w') : dB z w' b := by
 have hb : cA (fun k => ¬ w'.heap[k]? = w.heap[k]?) w w' := ⟨ho.os, ho.tape, ho.output, ho.size, fun k _ e => Classical.not_not.1 e⟩
 exact ⟨h.f.butRow hb (fun k _ _ _ hr e => e (ho.at hr (.inl rfl))), h.h.butRow hb (fun k _ _ _ hr e => e (ho.at hr (.inr (.inl rfl)))), fun x hx => (h.t x hx).but hb (fun q hq e => by
  obtain ⟨_, _, r⟩ := (h.t x hx).bs_row q hq
  exact e (ho.at r (.inr (.inr (.inl rfl))))), h.c⟩
theorem wX.oth {base : Nat} {w w' : World} {v : Ev} (h : wX w base v) (ho : nI w w') : wX w' base v := by
 refine ⟨h.x.imp (fun h => ?_) id, ?_, h.tn, h.n⟩
 · exact ⟨cP h.ws (fun k _ _ cs e => ho.block k cs _ e (by decide)), fun y hy => (h.yn y hy).same (fun k _ _ cs e => ho.block k cs _ e (by decide)), cP h.ls (fun k _ _ cs e => ho.block k cs _ e (by decide)), h.w1, h.w3, h.l1, h.l3, h.n3⟩
 · rcases h.t with h | ⟨g, cap, h1, h2, h3, f, hr, hv⟩
   · exact .inl h
   · refine .inr ⟨g, cap, h1, h2, h3, f, ?_, hv⟩
     obtain ⟨c, e, r⟩ := hr;exact ⟨c, (ho.block g c _ e (by decide)).trans e, r⟩
theorem wX.weak {base base' : Nat} {w : World} {v : Ev} (h : wX w base v) (hb : base' <= base) : wX w base' v :=
 ⟨h.x.imp (fun h => ⟨eZ h.ws hb, fun y hy => ⟨eZ (h.yn y hy).own hb, (h.yn y hy).l1, (h.yn y hy).l2, (h.yn y hy).near⟩, eZ h.ls hb, h.w1, h.w3, h.l1, h.l3, h.n3⟩) id, h.t.weak hb, h.tn, h.n⟩
def Ev.cells (v : Ev) : List Value := [.int .i64 v.k, .string v.n, .bool v.t, .string v.x.n, .int .i64 v.x.q, .int .i64 v.x.s, .int .i64 v.x.f, .int .i64 v.x.b, .int .i64 v.x.l, .slice v.x.wa v.x.wl.length v.x.wc, .slice v.x.la v.x.ll.length v.x.lc, .slice v.ta v.tl.length v.tc]
theorem Ev.cells_length (v : Ev) : v.cells.length = 12 := rfl
theorem O9 {w : World} {p : Nat} {v : Ev} (h : w.heap[p]? = some v.obj) : w.cell? ⟨p, 0, none⟩ = some (.int .i64 v.k) /\ w.cell? ⟨p, 1, none⟩ = some (.string v.n) /\ w.cell? ⟨p, 2, none⟩ = some (.bool v.t) /\ w.cell? ⟨p, 3, none⟩ = some (.string v.x.n) /\ w.cell? ⟨p, 4, none⟩ = some (.int .i64 v.x.q) /\ w.cell? ⟨p, 5, none⟩ = some (.int .i64 v.x.s) /\ w.cell? ⟨p, 6, none⟩ = some (.int .i64 v.x.f) /\ w.cell? ⟨p, 7, none⟩ = some (.int .i64 v.x.b) /\ w.cell? ⟨p, 8, none⟩ = some (.int .i64 v.x.l) /\ w.cell? ⟨p, 9, none⟩ = some (.slice v.x.wa v.x.wl.length v.x.wc) /\ w.cell? ⟨p, 10, none⟩ = some (.slice v.x.la v.x.ll.length v.x.lc) /\ w.cell? ⟨p, 11, none⟩ = some (.slice v.ta v.tl.length v.tc) :=
 ⟨aH h rfl, aH h rfl, aH h rfl, aH h rfl, aH h rfl, aH h rfl, aH h rfl, aH h rfl, aH h rfl, aH h rfl, aH h rfl, aH h rfl⟩
theorem kO {w : World} {p : Nat} {b : Bk} (h : w.heap[p]? = some b.obj) : w.cell? ⟨p, 0, none⟩ = some (.int .i64 b.now) /\ w.cell? ⟨p, 1, none⟩ = some (.slice b.fa b.fl.length b.fc) /\ w.cell? ⟨p, 2, none⟩ = some (.slice b.ha b.hl.length b.hc) := ⟨aH h rfl, aH h rfl, aH h rfl⟩
theorem IA {w : World} {base e sz : Nat} {v : Value} {m : Nat} {xs : List Value} (h : w.ownsRow base e sz v m xs) : ∀ k, v.ownBlock = some k -> ∃ cs : Array Value, w.heap[k]? = some (Obj.cells cs e) := fun k hk => by
 obtain ⟨_, ⟨hv, _⟩ | ⟨g, cap, cur, hv, _, hg, _⟩⟩ := h
 · rw [hv] at hk;simp [Value.ownBlock] at hk
 · rw [hv] at hk;simp [Value.ownBlock] at hk;subst hk;exact ⟨cur, hg⟩
structure FV (w1 : World) (R n cap : Nat) (ao : Option Addr) (q : Int) (P : Nat) (fl : List Fx) (b : Bk) (evs : List Ev) (ve : Value) (w : World) : Prop where
 rd : ∃ p, p <= q /\ Rd w R ao n cap p
 but : bC R w1 w
 bk : w.heap[P]? = some b.obj
 sp : dB (R + 1) w b
 ok : aO b = true
 fl : b.fl = fl
 ev : w.ownsRow (P + 1) 36 12 ve evs.length (aN Ev.cells evs)
 each : ∀ v ∈ evs, wX w (P + 1) v
theorem bC.setAbove {R : Nat} {a w : World} (h : bC R a w) {q : Nat} (hq : a.heap.size <= q) (o : Nat) (u : Value) : bC R a (w.setCell ⟨q, o, none⟩ u) :=
 ⟨h.os, h.tape, h.output, Nat.le_trans h.size (by show w.heap.size <= (w.heap.modify _ _).size;rw [Array.size_modify];exact nlq _), fun k hk hs => (Below.heap_setCell w ⟨q, o, none⟩ u k (fun e => by have e' : k = q := e;omega)).trans (h.block k hk hs)⟩
theorem FV.read {w1 w w' : World} {R n cap : Nat} {ao : Option Addr} {q q' p' : Int} {P : Nat} {fl : List Fx} {b : Bk} {evs : List Ev} {ve : Value} (h : FV w1 R n cap ao q P fl b evs ve w) (hb : bC R w w') (hr : Rd w' R ao n cap p') (hp : p' <= q') (hP : R < P) : FV w1 R n cap ao q' P fl b evs ve w' := by
 obtain ⟨p, _, hr0⟩ := h.rd;have ho := nI.rd hb hr0;exact ⟨⟨p', hp, hr⟩, h.but.trans hb, (hb.block P (lC h.bk) (by omega)).trans h.bk, h.sp.oth ho, h.ok, h.fl, oB h.ev hb (by omega), fun v hv => (h.each v hv).oth ho⟩
theorem FV.below {w1 w w' : World} {R n cap : Nat} {ao : Option Addr} {q : Int} {P : Nat} {fl : List Fx} {b : Bk} {evs : List Ev} {ve : Value} (h : FV w1 R n cap ao q P fl b evs ve w) (hb : Below w.heap.size w w') (hP : R < P) : FV w1 R n cap ao q P fl b evs ve w' := by
 obtain ⟨p, hp, hr0⟩ := h.rd;exact h.read (bC.below hb) (hr0.zL (hb.mono hr0.lt)) hp hP
theorem FV.put {w1 w : World} {R n cap : Nat} {ao : Option Addr} {q : Int} {P : Nat} {fl : List Fx} {b b' : Bk} {evs : List Ev} {ve : Value} (h : FV w1 R n cap ao q P fl b evs ve w) (hP : R < P) (hz : w1.heap.size <= P) (hs : dB (R + 1) w b') (hok : aO b' = true) (hf : b'.fl = fl) :
 FV w1 R n cap ao q P fl b' evs ve (((w.setCell ⟨P, 0, none⟩ (.int .i64 b'.now)).setCell ⟨P, 1, none⟩ (.slice b'.fa b'.fl.length b'.fc)).setCell ⟨P, 2, none⟩ (.slice b'.ha b'.hl.length b'.hc)) := by
 have k1 := cB h.bk 0 (.int .i64 b'.now);have k2 := cB k1 1 (.slice b'.fa b'.fl.length b'.fc);have k3 := cB k2 2 (.slice b'.ha b'.hl.length b'.hc);have ho := ((nI.set h.bk (by decide) 0 (.int .i64 b'.now)).trans (nI.set k1 (by decide) 1 (.slice b'.fa b'.fl.length b'.fc))).trans (nI.set k2 (by decide) 2 (.slice b'.ha b'.hl.length b'.hc));obtain ⟨p, hp, hr⟩ := h.rd;have hB : Below P w (((w.setCell ⟨P, 0, none⟩ (.int .i64 b'.now)).setCell ⟨P, 1, none⟩ (.slice b'.fa b'.fl.length b'.fc)).setCell ⟨P, 2, none⟩ (.slice b'.ha b'.hl.length b'.hc)) := (((br P w).setCell (p := ⟨P, 0, none⟩) (nlq _) _).setCell (p := ⟨P, 1, none⟩) (nlq _) _).setCell (p := ⟨P, 2, none⟩) (nlq _) _;refine ⟨⟨p, hp, hr.zL (hB.mono (by omega))⟩, ((h.but.setAbove hz 0 _).setAbove hz 1 _).setAbove hz 2 _, k3, hs.oth ho, hok, hf, ?_, fun v hv => (h.each v hv).oth ho⟩;exact cP (cP (cP h.ev (fun k hk _ _ _ => Below.heap_setCell _ _ _ _ (fun e => by have e' : k = P := e;omega))) (fun k hk _ _ _ => Below.heap_setCell _ _ _ _ (fun e => by have e' : k = P := e;omega))) (fun k hk _ _ _ => Below.heap_setCell _ _ _ _ (fun e => by have e' : k = P := e;omega))
theorem FV.app {w1 w w' : World} {R n cap : Nat} {ao : Option Addr} {q : Int} {P : Nat} {fl : List Fx} {b : Bk} {evs : List Ev} {ve ve' : Value} {v : Ev} (h : FV w1 R n cap ao q P fl b evs ve w) (hP : R < P) (hz : w1.heap.size <= P) (hg : w.grownBy w' ve.ownBlock) (hown : w'.ownsRow (P + 1) 36 12 ve' (evs.length + 1) (aN Ev.cells evs ++ v.cells)) (hv : wX w (P + 1) v) :
 FV w1 R n cap ao q P fl b (evs ++ [v]) ve' w' := by
 have hge : ∀ k, ve.ownBlock = some k -> P + 1 <= k := fun k hk => gV h.ev hk
 have ho : nI w w' := nI.grown hg (fun k hk => by
  obtain ⟨cs, e⟩ := IA h.ev k hk
  exact ⟨cs, _, e, by decide⟩)
 obtain ⟨p, hp, hr⟩ := h.rd;refine ⟨⟨p, hp, hr.zL ((br (R + 1) w).grown hg hr.lt (fun k hk => by have := hge k hk;omega))⟩, h.but.grown hg (fun k hk => by have := hge k hk;omega), (hg.block P (lC h.bk) (fun e => by have := hge P e.symm;omega)).trans h.bk, h.sp.oth ho, h.ok, h.fl, ?_, fun x hx => ?_⟩
 · rw [eS, List.length_append]
   simpa [aN] using hown
 · rcases lma.1 hx with hx | hx
   · exact (h.each x hx).oth ho
   · rw [List.mem_singleton.1 hx];exact hv.oth ho
set_option maxRecDepth 100000
set_option maxHeartbeats 4000000
theorem Tryz.info36 : (Tryz.prog.info? 36).map (fun i => (i.zero, i.size, i.bytes)) = some (some (.agg #[.int .i64 0, .string ByteArray.empty, .bool false, .string ByteArray.empty, .int .i64 0, .int .i64 0, .int .i64 0, .int .i64 0, .int .i64 0, .slice none 0 0, .slice none 0 0, .slice none 0 0]), 12, 160) := by kernel_rfl
theorem xP : ∀ l : List Fx, xU l = aN Fx.cells l
 | [] => rfl
 | f :: l => by rw [show xU (f :: l) = [.string f.n, .int .i64 f.x, .int .i64 f.y] ++ xU l from rfl, xP l];rfl
theorem tU {fa : Option Addr} {fl : List Fx} {fc : Nat} (h : aW fl = true) : aO ⟨0, fa, fl, fc, none, [], 0⟩ = true := by
 simp [aO, h, mD, cI, cH, a9, iO, eM]
theorem J9 (n cap : Nat) (ao : Option Addr) (w : World) (h : qF w ao n) (hn : n <= 1048576) (hc : n <= cap) (hc2 : cap <= 9223372036854775807) :
 Calls Tryz.prog 5 #[.slice ao n cap] w fun e w' => (∃ fa fl fc ve, e = .returned (.tuple #[.slice fa fl.length fc, ve]) /\ bJ 82 3 Fx.cells w' w.heap.size (.slice fa fl.length fc) fl /\ i9 (.slice fa fl.length fc) /\ aW fl = true /\ ∃ evs, w'.ownsRow w.heap.size 36 12 ve evs.length (aN Ev.cells evs) /\ evs.length <= 24 /\ ∀ v ∈ evs, wX w' w.heap.size v) /\ Below w.heap.size w w' := by
 obtain ⟨i0, hi, hz0, hz1, hz2⟩ := info_parts Tryz.info36
 go_enter Tryz.func5, Tryz.ntmps5
 go_wp2_with fail
 refine (ML n cap ao w h hn hc hc2).mono ?_;rintro e w1 ⟨rfl, hb1, m, hr1⟩;obtain ⟨R, hR⟩ : ∃ R, R = w.heap.size := ⟨_, rfl⟩;rw [← hR] at hr1 ⊢;have hR1 := hr1.lt;have HFin : Hid (∀ W, bC R w1 W -> Below R w W) := fun W hW => hW.under (by rw [hR];exact hb1) (by omega) (nlq _);have HR0 : Hid (R = w.heap.size) := hR;clear hb1 hR h hn hc hc2;go_wp2_with fail
 refine (DG R m cap ao 0 w1 hr1 (by omega)).mono ?_;rintro e w2 ⟨⟨v, fl, rfl, ho, h2, h3, hf, hB⟩, ⟨p2, hp2, hr2⟩, T2⟩;rw [xP] at ho;obtain ⟨fa, fc, rfl⟩ := kI ho;have hcp := jH ho;have hOX : bJ 82 3 Fx.cells w2 w1.heap.size (.slice fa fl.length fc) fl := iB Fx.cells_length ho;have hs2 := T2.size;obtain ⟨b0, hb0⟩ : ∃ b0 : Bk, b0 = ⟨0, fa, fl, fc, none, [], 0⟩ := ⟨_, rfl⟩;have hb4 : Below w2.heap.size w2 ((w2.alloc (.cells #[.int .i64 0, .slice fa fl.length fc, .slice none 0 0] 29)).alloc (.cells #[] 36)) := aB (aB (br _ _) _) _;have hr4 := hr2.zL (hb4.mono (by omega))
 have hN : ∀ f ∈ fl, mN ⟨f.x, f.y⟩ := fun f m => by
  obtain ⟨_, a, b, c, d⟩ := hf f m
  show -100 <= f.x /\ f.x <= 100 /\ -100 <= f.y /\ f.y <= 100
  omega
 have HN : Hid (∀ f ∈ fl, mN ⟨f.x, f.y⟩) := hN
 have hS4 : FV w1 R m cap ao 100 w2.heap.size fl b0 [] (.slice (some ⟨w2.heap.size + 1, 0, none⟩) 0 0) ((w2.alloc (.cells #[.int .i64 0, .slice fa fl.length fc, .slice none 0 0] 29)).alloc (.cells #[] 36)) := by
  refine ⟨⟨p2, by omega, hr4⟩, T2.trans (bC.below hb4), ?_, ?_, ?_, ?_, ?_, fun v hv => by simp at hv⟩
  · rw [hb0];exact (halq _ _ _ (by simp)).trans (wnq w2 _)
  · rw [hb0];exact ⟨(bJ.zL hOX hb4).weak (by omega), .inl ⟨rfl, rfl⟩, fun x hx => by simp at hx, hcp⟩
  · rw [hb0];exact tU hB
  · rw [hb0]
  · refine ⟨rfl, Or.inr ⟨w2.heap.size + 1, 0, #[], rfl, nlq _, ?_, nlq _, by unfold maxLen;omega, rfl, rfl⟩⟩
    have := wnq (w2.alloc (.cells #[.int .i64 0, .slice fa fl.length fc, .slice none 0 0] 29)) (.cells #[] 36)
    rwa [wsa] at this
 have HS4 : Hid _ := hS4;clear hS4 hb0 hr2 T2 ho hOX hcp hb4 hf hN;go_wp2_with fail
 refine (bG R m cap ao p2 24 _ hr4 (by omega) (by omega)).mono ?_;rintro e w5 ⟨⟨r, rfl, r0, r1, -⟩, hr5, T5⟩
 replace r1 := r1 (by omega)
 have hRP : R < w2.heap.size := by omega
 obtain ⟨P, hPe⟩ : ∃ P, P = w2.heap.size := ⟨_, rfl⟩;have HS5 : Hid (FV w1 R m cap ao 200 w2.heap.size fl b0 [] (.slice (some ⟨w2.heap.size + 1, 0, none⟩) 0 0) w5) := HS4.out.read T5 hr5 (by omega) hRP;rw [← hPe] at HS5 hs2 hRP ⊢;clear HS4 T5 hr4 hr5 hPe;go_wp2_with fail
 go_loopw [6, 7] (fun ve i wr => ∃ (b : Bk) (evs : List Ev) (k : Int), i = .int .i64 k /\ 0 <= k /\ evs.length + k <= 24 /\ FV w1 R m cap ao (200 + 5000 * evs.length) P fl b evs ve wr) (fun _ i _ => (intOf i).toNat)
 case atStart => exact ⟨b0, [], r, rfl, r0, by simp;omega, HS5.out⟩
 case round =>
  clear HS5;obtain ⟨b, evs, k, rfl, hk0, hk, hS⟩ := hrel;have HS : Hid _ := hS;obtain ⟨p, hp, hrd⟩ := hS.rd;obtain ⟨c0, c1, c2⟩ := kO hS.bk;have hnw := J8 hS.ok;have HFl : Hid (b.fl = fl) := hS.fl;have hl2 : 2 <= b.fl.length := by rw [hS.fl];exact h2
  have hl3 : b.fl.length <= 3 := by rw [hS.fl];exact h3
  have hsm := rZ hS.ok;have hhd := wP hS.ok;clear hS
  by_cases hlt : 0 < k
  · have hdk : decide (0 < k) = true := by simp [hlt]
    go_wp2_with fail
    refine (I0 R m cap ao p b wr hrd (by omega) (by omega) (by omega) (fun W hW => (HS.out.sp.butR hW (Nat.lt_succ_self R)).asks HS.out.ok |>.hf) (by omega) (by omega) (fun f hf => HN.out f (by rw [← HFl.out];exact hf)) (fun W hW => ⟨((HS.out.sp.butR hW (Nat.lt_succ_self R)).asks HS.out.ok).hh, fun x hx => ((HS.out.sp.butR hW (Nat.lt_succ_self R)).inn x hx).1⟩) (by omega) (fun x hx => by have := (hhd x hx).2.1;omega) (fun x hx => by have := (hhd x hx).1;omega)).mono ?_
    rintro e w6 ⟨⟨v, rfl, hv⟩, ⟨p6, hp6, hr6⟩, T6⟩;have HS6 := HS.out.read (q' := 200 + 5000 * evs.length + 5000) T6 hr6 (by omega) hRP;have hPw : P < wr.heap.size := lC HS.out.bk;have hs6 := T6.size;have hv6 := hv.weak (base' := P + 1) hPw;have hb7 : Below w6.heap.size w6 (w6.alloc v.obj) := aB (br _ _) _;have HS7 : Hid _ := HS6.below hb7 hRP;have HV7 : Hid _ := hv6.oth (nI.below hb7);have E7 := wnq w6 v.obj;clear c0 c1 c2 hv hv6 HS6 hb7 hr6 T6 hrd HS;obtain ⟨c0, c1, c2⟩ := kO HS7.out.bk;go_wp2_with fail
    have hq := HS7.out.sp.asks HS7.out.ok;refine (qN b v _ (fun W hW => oY (hq.zL hW) _ rfl) hq HV7.out.asksW HV7.out.t.xs (by have := HV7.out.tn;omega)).mono ?_;rintro e w7 ⟨hT, hb7⟩
    rcases hT with ⟨hbad, _⟩ | ⟨_, b', rfl, hn', hf', hl', hS'⟩
    · rw [HS7.out.ok] at hbad;cases hbad
    have hwz : R + 1 <= (w6.alloc v.obj).heap.size := by
     have := lC HS7.out.bk;omega
    have hs7 := hb7.size;rw [wsa] at hs7;have hok' := D8 HS7.out.ok hn' hf' hl';have HS8 : Hid _ := (HS7.out.below hb7 hRP).put hRP hs2 (hS'.weak hwz) hok' (hf'.trans HFl.out);have HB7 : Hid _ := HS7.out.below hb7 hRP;have HV8 : Hid _ := HV7.out.oth (nI.below hb7);have E8 := (hb7.block _ (by simp)).trans E7;clear hq hS' hn' hf' hl' hok' c0 c1 c2 E7;obtain ⟨d0, d1, d2⟩ := kO HB7.out.bk;have df : ∀ i, w7.frozen? ⟨P, i, none⟩ = false := fun i => by simp [World.frozen?, HB7.out.bk]
    have hPE : w6.heap.size ≠ P := by omega
    have A8 := aZ (aZ (aZ E8 (p := ⟨P, 0, none⟩) hPE (.int .i64 b'.now)) (p := ⟨P, 1, none⟩) hPE (.slice b'.fa b'.fl.length b'.fc)) (p := ⟨P, 2, none⟩) hPE (.slice b'.ha b'.hl.length b'.hc);obtain ⟨e0, e1, e2, e3, e4, e5, e6, e7, e8, e9, e10, e11⟩ := O9 A8
    have HA9 : Hid (((((w7.setCell ⟨P, 0, none⟩ (.int .i64 b'.now)).setCell ⟨P, 1, none⟩ (.slice b'.fa b'.fl.length b'.fc)).setCell ⟨P, 2, none⟩ (.slice b'.ha b'.hl.length b'.hc)).alloc (.cells #[.int .i64 v.k, .string v.n, .bool v.t, .string v.x.n, .int .i64 v.x.q, .int .i64 v.x.s, .int .i64 v.x.f, .int .i64 v.x.b, .int .i64 v.x.l, .slice v.x.wa v.x.wl.length v.x.wc, .slice v.x.la v.x.ll.length v.x.lc, .slice v.ta v.tl.length v.tc] 36)).heap[w7.heap.size]? = some (.cells #[.int .i64 v.k, .string v.n, .bool v.t, .string v.x.n, .int .i64 v.x.q, .int .i64 v.x.s, .int .i64 v.x.f, .int .i64 v.x.b, .int .i64 v.x.l, .slice v.x.wa v.x.wl.length v.x.wc, .slice v.x.la v.x.ll.length v.x.lc, .slice v.ta v.tl.length v.tc] 36)) := by
     have := wnq (((w7.setCell ⟨P, 0, none⟩ (.int .i64 b'.now)).setCell ⟨P, 1, none⟩ (.slice b'.fa b'.fl.length b'.fc)).setCell ⟨P, 2, none⟩ (.slice b'.ha b'.hl.length b'.hc)) (.cells #[.int .i64 v.k, .string v.n, .bool v.t, .string v.x.n, .int .i64 v.x.q, .int .i64 v.x.s, .int .i64 v.x.f, .int .i64 v.x.b, .int .i64 v.x.l, .slice v.x.wa v.x.wl.length v.x.wc, .slice v.x.la v.x.ll.length v.x.lc, .slice v.ta v.tl.length v.tc] 36)
     rwa [show (((w7.setCell ⟨P, 0, none⟩ (.int .i64 b'.now)).setCell ⟨P, 1, none⟩ (.slice b'.fa b'.fl.length b'.fc)).setCell ⟨P, 2, none⟩ (.slice b'.ha b'.hl.length b'.hc)).heap.size = w7.heap.size from by simp] at this
    go_wp2_with (at_builtin;refine wpList_append_own_at _ rfl (.tmp 30) (.tmp 32) 24 rfl (P + 1) 36 i0 _ 12 160 Tryz.underlying24 hi hz0 hz1 hz2 rfl (by decide) _ _ _ rfl (HS8.out.ev.alloc _) ⟨w7.heap.size, 0, none⟩ 1 1 v.cells rfl rfl ?qc1 ?qc2 ?qc3 ?qc4 ?qc5 ?_)
    case qc1 =>
     intro j u hj
     match j, hj with
     | 0, hj => simp [Ev.cells] at hj;subst hj;exact aH HA9.out rfl
     | 1, hj => simp [Ev.cells] at hj;subst hj;exact aH HA9.out rfl
     | 2, hj => simp [Ev.cells] at hj;subst hj;exact aH HA9.out rfl
     | 3, hj => simp [Ev.cells] at hj;subst hj;exact aH HA9.out rfl
     | 4, hj => simp [Ev.cells] at hj;subst hj;exact aH HA9.out rfl
     | 5, hj => simp [Ev.cells] at hj;subst hj;exact aH HA9.out rfl
     | 6, hj => simp [Ev.cells] at hj;subst hj;exact aH HA9.out rfl
     | 7, hj => simp [Ev.cells] at hj;subst hj;exact aH HA9.out rfl
     | 8, hj => simp [Ev.cells] at hj;subst hj;exact aH HA9.out rfl
     | 9, hj => simp [Ev.cells] at hj;subst hj;exact aH HA9.out rfl
     | 10, hj => simp [Ev.cells] at hj;subst hj;exact aH HA9.out rfl
     | 11, hj => simp [Ev.cells] at hj;subst hj;exact aH HA9.out rfl
     | n + 12, hj => simp [Ev.cells] at hj
    case qc2 => intro u hu;simp [Ev.cells] at hu;rcases hu with rfl | rfl | rfl | rfl | rfl | rfl | rfl | rfl | rfl | rfl | rfl | rfl <;> rfl
    case qc3 => unfold maxLen;omega
    case qc4 => omega
    case qc5 => (try simp);omega
    intro v' w9 hown hgrow _ _;have hb9 := aB (br (((w7.setCell ⟨P, 0, none⟩ (.int .i64 b'.now)).setCell ⟨P, 1, none⟩ (.slice b'.fa b'.fl.length b'.fc)).setCell ⟨P, 2, none⟩ (.slice b'.ha b'.hl.length b'.hc)).heap.size (((w7.setCell ⟨P, 0, none⟩ (.int .i64 b'.now)).setCell ⟨P, 1, none⟩ (.slice b'.fa b'.fl.length b'.fc)).setCell ⟨P, 2, none⟩ (.slice b'.ha b'.hl.length b'.hc))) (.cells #[.int .i64 v.k, .string v.n, .bool v.t, .string v.x.n, .int .i64 v.x.q, .int .i64 v.x.s, .int .i64 v.x.f, .int .i64 v.x.b, .int .i64 v.x.l, .slice v.x.wa v.x.wl.length v.x.wc, .slice v.x.la v.x.ll.length v.x.lc, .slice v.ta v.tl.length v.tc] 36);have k1 := cB HB7.out.bk 0 (.int .i64 b'.now);have k2 := cB k1 1 (.slice b'.fa b'.fl.length b'.fc);have HV9 := ((HV8.out.oth (nI.set HB7.out.bk (by decide) 0 (.int .i64 b'.now))).oth (nI.set k1 (by decide) 1 (.slice b'.fa b'.fl.length b'.fc))).oth (nI.set k2 (by decide) 2 (.slice b'.ha b'.hl.length b'.hc));have HS9 : Hid _ := (HS8.out.below hb9 hRP).app hRP hs2 hgrow hown (HV9.oth (nI.below hb9));clear hown hgrow hb9 k1 k2 HV9 HS8 HB7 HV8 HV7 HS7 E8 A8 d0 d1 d2 df e0 e1 e2 e3 e4 e5 e6 e7 e8 e9 e10 e11;go_wp2
    go_roundw
    case rel => exact ⟨b', evs ++ [v], k - 1, by go_num, by omega, by simp;omega, by
     have := HS9.out;rw [show (200 + 5000 * ((evs ++ [v]).length : Int)) = 200 + 5000 * (evs.length : Int) + 5000 from by simp;omega]
     exact this⟩
    case measure => simp [intOf];omega
  · have hdk : decide (0 < k) = false := by simp;omega
    go_wp2
    have hz := HR0.out;exact bpr (v := .tuple #[.slice b.fa b.fl.length b.fc, u6]) (by simp [results, Tryz.results5, go_sem]) rfl ⟨⟨b.fa, b.fl, b.fc, u6, rfl, HS.out.sp.f.weak (by omega), HS.out.sp.c, (dM HS.out.ok).2.1, evs, eZ HS.out.ev (by omega), by omega, fun v hv => (HS.out.each v hv).weak (by omega)⟩, by rw [← hz];exact HFin.out _ HS.out.but⟩
end Go.Proofs.YtiojdbffjdoniaaGreatDoor
namespace Go.Proofs.YtiojdbffjdoniaaGreatDoor
open Go.RowKit
theorem LN {b : Bk} {v : Ev} (h : dO b v ≠ 0) : eB b v = b.now /\ dL b v = b.hl := by
 unfold dO at h;unfold eB dL
 by_cases e1 : v.k = 1
 · rw [if_pos e1] at h
   simp only [e1, if_true];refine ⟨by simp, ?_⟩
   show jJ _ _ _ _ _ = _
   exact if_neg h
 · rw [if_neg e1] at h
   by_cases e2 : v.k = 2
   · rw [if_pos e2] at h
     rw [if_neg e1, if_pos e2, if_neg (by omega)];refine ⟨rfl, ?_⟩
     show iN _ _ _ _ _ = _
     exact if_neg h
   · rw [if_neg e2] at h
     by_cases e3 : v.k = 3
     · rw [if_pos e3] at h
       rw [if_neg e1, if_neg e2, if_pos e3, if_neg (by omega)];exact ⟨rfl, if_neg h⟩
     · rw [if_neg e3] at h
       by_cases e4 : v.k = 4
       · rw [if_pos e4] at h
         rw [if_neg e1, if_neg e2, if_neg e3, if_pos e4, if_pos e4];exact ⟨if_neg h, if_neg h⟩
       · rw [if_neg e1, if_neg e2, if_neg e3, if_neg e4, if_neg e4]
         exact ⟨rfl, rfl⟩
theorem rE {l m : List Hx} (h : aL l m) {y : Hx} (hy : y ∈ l) : ∃ z ∈ m, y.Like z := by
 obtain ⟨k, hk, e⟩ := lgo hy;exact ⟨m[k]'(by have := h.len;omega), lgm _, e ▸ h.like k hk⟩
theorem LJ {l : List Hx} (ha : l.Pairwise (fun a b => eU a.n b.n = true)) {a b : Hx} (h1 : a ∈ l) (h2 : b ∈ l) (e : (a.n.toList == b.n.toList) = true) : a = b := by
 obtain ⟨i, hi, rfl⟩ := lgo h1;obtain ⟨j, hj, rfl⟩ := lgo h2
 rcases Nat.lt_trichotomy i j with h | h | h
 · have := sF (List.pairwise_iff_getElem.1 ha i j hi hj h)
   rw [this] at e;cases e
 · subst h;rfl
 · have := sF (List.pairwise_iff_getElem.1 ha j i hj hi h)
   rw [show (l[j].n.toList == l[i].n.toList) = (l[i].n.toList == l[j].n.toList) from by rw [Bool.beq_comm], e] at this
   cases this
theorem OT {l : List Hx} {h y : Hx} (ha : l.Pairwise (fun a b => eU a.n b.n = true)) (hy : y ∈ l) (hn : y.n = h.n) (he : (y.tl = h.tl /\ y.nl = h.nl) ∨ (h.tl = [] /\ y.tl = h.nl /\ y.tl ≠ [])) : PQ l h := by
 obtain ⟨k, hk, e⟩ := lgo hy;refine .inl ⟨k, hk, by rw [e, hn];simp, fun j hj hjk => ?_, by rw [e];exact he⟩;have := sF (List.pairwise_iff_getElem.1 ha j k hj hk hjk);rw [e, hn] at this;exact this
theorem zP {b : Bk} (h : aO b = true) : b.hl.Pairwise (fun a b => eU a.n b.n = true) := (kH (dM h).2.2.2).2.1
theorem GL {l : List Hx} {h x y : Hx} {i : Nat} {nm : ByteArray} (hm : h ∈ l) (hx : l[i]? = some x) (hi : (x.n.toList == nm.toList) = true) (hn : (h.n.toList == nm.toList) = false) : h ∈ l.set i y := by
 obtain ⟨j, hj, e⟩ := lgo hm
 have hne : i ≠ j := by
  intro e2;subst e2;rw [lge hj, e] at hx
  cases hx
  rw [hi] at hn
  cases hn
 have : (l.set i y)[j]'(by simpa using hj) = h := by rw [List.getElem_set_ne hne];exact e
 exact this ▸ lgm _
theorem K3 {l : List Hx} {nm : ByteArray} {x : Hx} (h0 : 0 <= jN l nm) (hx : l[(jN l nm).toNat]? = some x) : (x.n.toList == nm.toList) = true := by
 obtain ⟨hi, e⟩ := lgs.1 hx;have := AP (nm := nm) hi (by omega);rw [e] at this;exact this
theorem OB {b : Bk} {v : Ev} {h : Hx} (hm : h ∈ b.hl) (ht : ¬ (v.k = 4 /\ dO b v = 0)) (hn : (h.n.toList == v.n.toList) = false) : h ∈ dL b v := by
 by_cases hc : dO b v = 0
 · unfold dO at hc
   unfold dL
   by_cases e1 : v.k = 1
   · rw [if_pos e1] at hc ⊢
     unfold gY jJ
     split
     · split
       · exact hm
       · rw [← List.take_append_drop (kJ b.hl v.x.n) b.hl] at hm
         rcases lma.1 hm with h | h
         · exact List.mem_append_left _ h
         · exact List.mem_append_right _ (List.mem_cons_of_mem _ h)
     · exact hm
   · rw [if_neg e1] at hc ⊢
     by_cases e2 : v.k = 2
     · rw [if_pos e2] at hc ⊢
       unfold fX iN
       split
       · rename_i h0
         split
         · rename_i x hx
           refine GL hm hx (K3 ?_ hx) hn;unfold gP at h0
           by_cases hp : 0 <= jN b.hl v.n
           · exact hp
           · simp only [hp, decide_false] at h0
             split at h0 <;> simp at h0
         · exact hm
       · exact hm
     · rw [if_neg e2] at hc ⊢
       by_cases e3 : v.k = 3
       · rw [if_pos e3] at hc ⊢
         unfold eX;rw [if_pos hc];unfold dI at hc
         by_cases hp : 0 <= jN b.hl v.n
         · split
           · rename_i x hx
             exact GL hm hx (K3 hp hx) hn
           · exact hm
         · rw [if_pos (by omega)] at hc
           cases hc
       · rw [if_neg e3] at hc ⊢
         by_cases e4 : v.k = 4
         · exact absurd ⟨e4, by unfold dO;rw [if_neg e1, if_neg e2, if_neg e3];exact hc⟩ ht
         · rw [if_neg e4];exact hm
 · rw [(LN hc).2];exact hm
theorem JM {b x : Bk} {v : Ev} {h : Hx} (hx : aO x = true) (hl : aL (dL b v) x.hl) (hm : h ∈ b.hl) (ht : ¬ (v.k = 4 /\ dO b v = 0)) (hn : (h.n.toList == v.n.toList) = false) : PQ x.hl h := by
 obtain ⟨z, hz, g⟩ := rE hl (OB hm ht hn);exact OT (zP hx) hz g.n.symm (.inl ⟨g.t.symm, g.x.symm⟩)
theorem MN {b x : Bk} {v : Ev} {h h' : Hx} (hb : aO b = true) (hx : aO x = true) (hl : aL (dL b v) x.hl) (hm : h ∈ b.hl) (h4 : v.k = 4) (hc : dO b v = 0) (en : h'.n = h.n) (et : h'.tl = aQ (eB b v) h.tl) (ex : h'.nl = aQ (eB b v) h.nl) : PQ x.hl h' := by
 have c0 : cQ b 1 = 0 := by simpa [dO, h4] using hc
 have n0 : eB b v = b.now + 1 := by simp [eB, h4, gA, c0]
 have l0 : dL b v = gG (b.now + 1) b.hl := by simp [dL, h4, eY, c0]
 rw [n0] at et ex;rw [l0] at hl
 by_cases e : (eO (b.now + 1) h).tl = []
 · have hcut : aQ (b.now + 1) h.tl = [] /\ aQ (b.now + 1) h.nl = [] := by
    unfold eO at e
    split at e
    · rename_i e1;exact ⟨e1, e⟩
    · rename_i e1;exact absurd e e1
   refine .inr ⟨fun j hj => ?_, by rw [et, hcut.1], by rw [ex, hcut.2]⟩
   cases hq : (x.hl[j].n.toList == h'.n.toList) with
   | false => rfl
   | true =>
    obtain ⟨y, hy, g⟩ := rE hl.symm (lgm hj);unfold gG at hy;obtain ⟨hy1, hy2⟩ := List.mem_filter.1 hy;obtain ⟨z, hz, e2⟩ := List.mem_map.1 hy1
    have : z = h := LJ (zP hb) hz hm (by
     have e3 : (eO (b.now + 1) z).n = z.n := by unfold eO;split <;> rfl
     rw [← e3, e2, ← g.n, ← en];exact hq)
    subst this;rw [← e2, e] at hy2
    cases hy2
 · have hk : eO (b.now + 1) h ∈ gG (b.now + 1) b.hl := List.mem_filter.2 ⟨List.mem_map.2 ⟨h, hm, rfl⟩, by cases hq : (eO (b.now + 1) h).tl with | nil => exact absurd hq e | cons _ _ => rfl⟩
   obtain ⟨z, hz, g⟩ := rE hl hk;have e3 : (eO (b.now + 1) h).n = h.n := by unfold eO;split <;> rfl
   refine OT (zP hx) hz (by rw [← g.n, e3, en]) ?_;unfold eO at g e
   split at g
   · rename_i e1
     rw [if_pos e1] at e;exact .inr ⟨by rw [et, e1], by rw [← g.t, ex], by rw [← g.t];exact e⟩
   · exact .inl ⟨by rw [← g.t, et], by rw [← g.x, ex]⟩
set_option maxRecDepth 100000
set_option maxHeartbeats 8000000
open Go.Shelf Go.BigFrame
theorem RL {w : World} {bl o : Nat} {v : Ev} (h : aM w bl o v.cells) : w.cell? ⟨bl, o, none⟩ = some (.int .i64 v.k) /\ w.cell? ⟨bl, o + 1, none⟩ = some (.string v.n) /\ w.cell? ⟨bl, o + 2, none⟩ = some (.bool v.t) /\ w.cell? ⟨bl, o + 3, none⟩ = some (.string v.x.n) /\ w.cell? ⟨bl, o + 4, none⟩ = some (.int .i64 v.x.q) /\ w.cell? ⟨bl, o + 5, none⟩ = some (.int .i64 v.x.s) /\ w.cell? ⟨bl, o + 6, none⟩ = some (.int .i64 v.x.f) /\ w.cell? ⟨bl, o + 7, none⟩ = some (.int .i64 v.x.b) /\ w.cell? ⟨bl, o + 8, none⟩ = some (.int .i64 v.x.l) /\ w.cell? ⟨bl, o + 9, none⟩ = some (.slice v.x.wa v.x.wl.length v.x.wc) /\ w.cell? ⟨bl, o + 10, none⟩ = some (.slice v.x.la v.x.ll.length v.x.lc) /\ w.cell? ⟨bl, o + 11, none⟩ = some (.slice v.ta v.tl.length v.tc) :=
 ⟨h 0 _ rfl, h 1 _ rfl, h 2 _ rfl, h 3 _ rfl, h 4 _ rfl, h 5 _ rfl, h 6 _ rfl, h 7 _ rfl, h 8 _ rfl, h 9 _ rfl, h 10 _ rfl, h 11 _ rfl⟩
theorem fM.sp {z : Nat} {w : World} {b : Bk} (h : fM z w b) : dB z w b := ⟨h.f, h.h, h.t, fun a n c e => by cases e;exact h.cf⟩
structure OV (w1 : World) (P : Nat) (b : Bk) (w : World) : Prop where
 bk : w.heap[P]? = some b.obj
 sp : dB 0 w b
 ok : aO b = true
 bel : Below P w1 w
theorem OV.zL {w1 w w' : World} {P : Nat} {b : Bk} (h : OV w1 P b w) (hb : Below w.heap.size w w') : OV w1 P b w' :=
 ⟨bD h.bk hb, h.sp.zL hb, h.ok, h.bel.trans (hb.mono (Nat.le_of_lt (lC h.bk)))⟩
theorem OV.put {w1 w : World} {P : Nat} {b x : Bk} (h : OV w1 P b w) (hs : dB 0 w x) (hok : aO x = true) :
 OV w1 P x (((w.setCell ⟨P, 0, none⟩ (.int .i64 x.now)).setCell ⟨P, 1, none⟩ (.slice x.fa x.fl.length x.fc)).setCell ⟨P, 2, none⟩ (.slice x.ha x.hl.length x.hc)) := by
 have k1 := cB h.bk 0 (.int .i64 x.now);have k2 := cB k1 1 (.slice x.fa x.fl.length x.fc);have k3 := cB k2 2 (.slice x.ha x.hl.length x.hc);have ho := ((nI.set h.bk (by decide) 0 (.int .i64 x.now)).trans (nI.set k1 (by decide) 1 (.slice x.fa x.fl.length x.fc))).trans (nI.set k2 (by decide) 2 (.slice x.ha x.hl.length x.hc));exact ⟨k3, hs.oth ho, hok, ((h.bel.setCell (p := ⟨P, 0, none⟩) (nlq _) _).setCell (p := ⟨P, 1, none⟩) (nlq _) _).setCell (p := ⟨P, 2, none⟩) (nlq _) _⟩
def TK (X H : Nat) (x : Bk) (h : Hx) (Z : Nat) (j : Nat) (v : Value) (w : World) : Prop :=
 match j with
 | 0 => v = x.val
 | 1 => v = .pointer (some ⟨H, 0, none⟩)
 | 2 => v = .string h.n
 | 3 => v = .pointer (some ⟨H, 1, none⟩)
 | 4 => v = .slice h.ta h.tl.length h.tc
 | 5 | 10 => v = .pointer (some ⟨X, 0, none⟩)
 | 6 | 11 => v = .int .i64 x.now
 | 7 => aG w Z v (aQ x.now h.tl)
 | 8 => v = .pointer (some ⟨H, 2, none⟩)
 | 9 => v = .slice h.na h.nl.length h.nc
 | 12 => aG w Z v (aQ x.now h.nl)
 | 13 => ∃ g : Hx, v = g.val /\ g.n = h.n /\ g.tl = aQ x.now h.tl /\ g.nl = aQ x.now h.nl /\ g.In w
 | 14 => v = .bool true
 | _ => True
theorem TK.zL {X H : Nat} {x : Bk} {h : Hx} {Z : Nat} (j : Nat) (v : Value) (w w' : World) (hk : TK X H x h Z j v w) (hb : Below w.heap.size w w') : TK X H x h Z j v w' := by
 unfold TK at *
 split at hk
 all_goals first
  | exact hk
  | exact aG.zL hk hb
  | (obtain ⟨g, h1, h2, h3, h4, h5⟩ := hk;exact ⟨g, h1, h2, h3, h4, h5.zL hb⟩)
theorem ED (n cap : Nat) (ao : Option Addr) (w : World) (hL : mW w) (hby : qF w ao n) (hc : n <= cap) (hm : cap <= 9223372036854775807) :
 Calls Tryz.prog 3 #[.slice ao n cap] w fun e w' => e = .returned (.bool true) /\ Below w.heap.size w w' := by
 by_cases h1 : 1048576 < n
 · have h1' : (1048576 : Int) < (n : Int) := by omega
   go_enter Tryz.func3, Tryz.ntmps3
   go_wp2
   go_ret;exact ⟨rfl, br _ _⟩
 have h1' : ¬ (1048576 : Int) < (n : Int) := by omega
 go_enter Tryz.func3, Tryz.ntmps3
 go_wp2_with fail
 refine (J9 n cap ao w hby (by omega) hc hm).mono ?_;rintro e w1 ⟨⟨fa, fl, fc, ve, rfl, hX, hC, hF, evs, hO, h24, hE⟩, N1⟩;obtain ⟨ea, ec, rfl, hEx, hec⟩ := y8 Ev.cells_length hO;have HL1 : Hid (mW w1) := hL.zL N1;have HN1 : Hid (Below w.heap.size w w1) := N1;have HE : Hid (∀ v ∈ evs, wX w1 w.heap.size v) := hE;have HEx : Hid (Xs 12 Ev.cells w1 ea evs) := hEx
 have HA : Hid (OV w1 w1.heap.size ⟨0, fa, fl, fc, none, [], 0⟩ (w1.alloc (.cells #[.int .i64 0, .slice fa fl.length fc, .slice none 0 0] 29))) := by
  have hb : Below w1.heap.size w1 (w1.alloc (.cells #[.int .i64 0, .slice fa fl.length fc, .slice none 0 0] 29)) := aB (br _ _) _;exact ⟨wnq w1 _, ⟨(bJ.zL hX hb).weak (nz _), .inl ⟨rfl, rfl⟩, fun x hx => by simp at hx, hC⟩, tU hF, hb⟩
 obtain ⟨P, hP⟩ : ∃ P, P = w1.heap.size := ⟨_, rfl⟩;have HPe : Hid (P = w1.heap.size) := hP;clear hO hec hE hEx hX hC hF N1 hL hby h1 hP;go_wp2_with fail
 rw [← HPe.out] at HA ⊢
 go_loopw [6] (fun i wr => ∃ (k : Nat) (b : Bk), k <= evs.length /\ i = .int .i64 k /\ OV w1 P b wr) (fun i _ => evs.length - (intOf i).toNat)
 case atStart => exact ⟨0, _, nz _, rfl, HA.out⟩
 case round =>
  clear HA;obtain ⟨k, b, hk, rfl, hS⟩ := hrel;have hbl : Below w1.heap.size w1 wr := by rw [← HPe.out];exact hS.bel
  obtain ⟨c0, c1, c2⟩ := kO hS.bk
  by_cases hlt : k < evs.length
  · obtain ⟨v, hv⟩ : ∃ v, v = evs[k] := ⟨_, rfl⟩
    have HV : Hid (wX wr w.heap.size v) := (HE.out v (by rw [hv];exact lgm hlt)).oth (nI.below hbl);have HL2 : Hid (mW wr) := HL1.out.zL hbl
    obtain ⟨eb, eo, hae, hcs⟩ : ∃ eb eo, ea = some ⟨eb, eo, none⟩ /\ aM wr eb (eo + k * 12) v.cells := by
     rcases HEx.out.zL hbl with h | ⟨eb, eo, e, h⟩
     · rw [h] at hlt;simp at hlt
     · exact ⟨eb, eo, e, by rw [hv];exact h k hlt⟩
    subst hae;obtain ⟨e0, e1, e2, e3, e4, e5, e6, e7, e8, e9, e10, e11⟩ := RL hcs;have hbA : Below wr.heap.size wr (wr.alloc v.obj) := aB (br _ _) _;have E1 := wnq wr v.obj;have HS2 : Hid _ := hS.zL hbA;obtain ⟨E, hEe⟩ : ∃ E, E = wr.heap.size := ⟨_, rfl⟩;rw [← hEe] at E1;have HE1 : Hid _ := E1;have HV2 : Hid (wX (wr.alloc v.obj) w.heap.size v) := HV.out.oth (nI.below hbA);have HL3 : Hid (mW (wr.alloc v.obj)) := HL2.out.zL hbA;have HEe : Hid (E = wr.heap.size) := hEe;have HlB : Hid (Below w1.heap.size w1 wr) := hbl;clear hv hcs hbl hS hEe hbA HV HL2 E1;obtain ⟨f0, f1, f2⟩ := kO HS2.out.bk;go_wp2_with fail
    clear c0 c1 c2 f0 f1 f2 e0 e1 e2 e3 e4 e5 e6 e7 e8 e9 e10 e11;rw [← HEe.out];refine (xY b v (wr.alloc v.obj) HL3.out (HS2.out.sp.asks HS2.out.ok) HV2.out.asksW HV2.out.t.xs (by have := HV2.out.tn;omega)).mono ?_;rintro e w2 ⟨⟨u, rfl, hT⟩, B2⟩
    rcases hT with ⟨hbad, _⟩ | ⟨_, x, rfl, hxn, hxf, hxl, hxP⟩
    · rw [HS2.out.ok] at hbad;cases hbad
    have hxok : aO x = true := D8 HS2.out.ok hxn hxf hxl;obtain ⟨C, hCe⟩ : ∃ C, C = dO b v := ⟨_, rfl⟩;rw [← hCe];have HC : Hid (C = dO b v) := hCe;have hbB : Below w2.heap.size w2 (w2.alloc x.obj) := aB (br _ _) _;have HS3 : Hid _ := (HS2.out.zL B2).zL hbB;have HE3 : Hid _ := bD (bD HE1.out B2) hbB;have HX3 : Hid _ := wnq w2 x.obj;have HSX : Hid (dB 0 (w2.alloc x.obj) x) := (hxP.sp.weak (nz _)).zL hbB;have HV3 : Hid (wX (w2.alloc x.obj) w.heap.size v) := HV2.out.oth ((nI.below B2).trans (nI.below hbB));have HXn : Hid _ := hxn;have HXf : Hid _ := hxf;have HXl : Hid _ := hxl;have HXok : Hid (aO x = true) := hxok;obtain ⟨X, hXe⟩ : ∃ X, X = w2.heap.size := ⟨_, rfl⟩;have HXe : Hid (X = w2.heap.size) := hXe;rw [← hXe] at HX3;clear hCe hbB B2 HS2 HE1 HV2 HL3 hxn hxf hxl hxok hxP hXe;obtain ⟨c0, c1, c2⟩ := kO HS3.out.bk;obtain ⟨e0, e1, e2, e3, e4, e5, e6, e7, e8, e9, e10, e11⟩ := O9 HE3.out;go_wp2_with fail
    clear c0 c1 c2 e0 e1 e2 e3 e4 e5 e6 e7 e8 e9 e10 e11;rw [← HXe.out];have hq := HS3.out.sp.asks HS3.out.ok;refine (qN b v (w2.alloc x.obj) (fun W hW => oY (hq.zL hW) _ rfl) hq HV3.out.asksW HV3.out.t.xs (by have := HV3.out.tn;omega)).mono ?_;rintro e w3 ⟨hT, B3⟩;clear hq
    rcases hT with ⟨hbad, _⟩ | ⟨_, y, rfl, hyn, hyf, hyl, hyS⟩
    · rw [HS3.out.ok] at hbad;cases hbad
    rw [← HC.out];have hbB : Below w3.heap.size w3 (w3.alloc y.obj) := aB (br _ _) _;have HS4 : Hid _ := (HS3.out.zL B3).zL hbB;have HE4 : Hid _ := bD (bD HE3.out B3) hbB;have HX4 : Hid _ := bD (bD HX3.out B3) hbB;have HSX4 : Hid _ := (HSX.out.zL B3).zL hbB;have HY4 : Hid _ := wnq w3 y.obj;have hay : dY (w3.alloc y.obj) y := (hyS.zL hbB).asks (D8 HS3.out.ok hyn hyf hyl);have hax : dY (w3.alloc y.obj) x := HSX4.out.asks HXok.out;have hab : dY (w3.alloc y.obj) b := HS4.out.sp.asks HS4.out.ok;obtain ⟨W4, hW4⟩ : ∃ W, w3.alloc y.obj = W := ⟨_, rfl⟩;obtain ⟨Y, hYe⟩ : ∃ Y, Y = w3.heap.size := ⟨_, rfl⟩;rw [hW4] at HS4 HE4 HX4 HSX4 HY4 hay hax hab;rw [← hYe] at HY4;have HYn : Hid (y.now = x.now) := hyn.trans HXn.out.symm;have HYf : Hid (y.fl = x.fl) := hyf.trans HXf.out.symm;have HYl : Hid (aL x.hl y.hl) := HXl.out.symm.trans hyl;have HYe : Hid (Y = w3.heap.size) := hYe;clear hbB B3 HS3 HE3 HX3 HSX HV3 hyn hyf hyl hyS hYe
    go_upto_region 11 with fail
    rw [← HYe.out];clear hW4 HYe
    go_cut [74] (fun g wx => g = .bool false /\ Below W4.heap.size W4 wx)
    case first =>
     obtain ⟨x0, x1, x2⟩ := kO HX4.out;obtain ⟨y0, y1, y2⟩ := kO HY4.out;have hCC : (C != C) = false := by simp
     go_wp2_with fail
     clear x0 x1 x2 y0 y1 y2;refine (uQ x y W4 hax hay HYn.out HYf.out HYl.out).mono ?_;rintro e w5 ⟨rfl, B5⟩;obtain ⟨x0, x1, x2⟩ := kO (bD HX4.out B5);go_wp2_with fail
     clear x0 x1 x2;refine (oW (hax.zL B5) true HXok.out).mono ?_;rintro e w6 ⟨rfl, B6⟩;have M6 := aD B5 B6;clear B5 B6;obtain ⟨x0, x1, x2⟩ := kO (bD HX4.out M6);go_wp2_with fail
     clear x0 x1 x2;refine (LK x w6 (hax.zL M6) HXok.out).mono ?_;rintro e w7 ⟨rfl, B7⟩;have M7 := aD M6 B7;clear M6 B7
     by_cases hC0 : C = 0
     · have hd0 : (C != 0) = false := by simp [hC0]
       clear hC0;go_wp2
       go_meet
       exact ⟨rfl, M7⟩
     · have hd0 : (C != 0) = true := by simp [hC0]
       have hno : dO b v ≠ 0 := by rw [← HC.out];exact hC0
       have HNo : Hid _ := LN hno;clear hC0 hno;obtain ⟨x0, x1, x2⟩ := kO (bD HX4.out M7);obtain ⟨c0, c1, c2⟩ := kO (bD HS4.out.bk M7);go_wp2_with fail
       clear x0 x1 x2 c0 c1 c2;refine (uQ x b w7 (hax.zL M7) (hab.zL M7) (by rw [HXn.out, HNo.out.1]) HXf.out.symm (by have := HXl.out;rw [HNo.out.2] at this;exact this.symm)).mono ?_;rintro e w8 ⟨rfl, B8⟩;have M8 := aD M7 B8;clear B8;go_wp2
       go_meet
       exact ⟨rfl, M8⟩
    case rest =>
    obtain ⟨rfl, B5⟩ := hcut;have HS5 : Hid _ := HS4.out.zL B5;have HE5 : Hid _ := bD HE4.out B5;have HX5 : Hid _ := bD HX4.out B5;have HSX5 : Hid _ := HSX4.out.zL B5;have hax := hax.zL B5;have hb16 := rZ HS5.out.ok;clear hab hay B5 HS4 HE4 HX4 HSX4 HY4 HYn HYf HYl;go_wp2_with fail
    go_loopw [12] (fun i ws => ∃ m : Nat, m <= b.hl.length /\ i = .int .i64 m /\ Below wc.heap.size wc ws) (fun i _ => b.hl.length - (intOf i).toNat)
    case atStart => exact ⟨0, nz _, rfl, br _ _⟩
    case round =>
     obtain ⟨m, hm0, rfl, hN⟩ := hrel
     by_cases hml : m < b.hl.length
     · obtain ⟨h, hh⟩ : ∃ h, h = b.hl[m] := ⟨_, rfl⟩
       have hhm : h ∈ b.hl := by rw [hh];exact lgm hml
       have hab := (HS5.out.zL hN).sp.asks HS5.out.ok
       obtain ⟨hb, ho, hae, hcs⟩ : ∃ hb ho, b.ha = some ⟨hb, ho, none⟩ /\ aM wr hb (ho + m * 3) h.cells := by
        rcases hab.hh with e | ⟨hb, ho, e, hc⟩
        · rw [e] at hml;simp at hml
        · exact ⟨hb, ho, e, by rw [hh];exact hc m hml⟩
       obtain ⟨g0, g1, g2⟩ := eC hcs;obtain ⟨hhi, hhf⟩ := hab.hgood h hhm;have c2 : wr.cell? ⟨P, 2, none⟩ = some (.slice (some ⟨hb, ho, none⟩) b.hl.length b.hc) := by rw [← hae];exact aH (bD HS5.out.bk hN) rfl
       have hbA : Below wr.heap.size wr (wr.alloc (.cells #[.string h.n, .slice h.ta h.tl.length h.tc, .slice h.na h.nl.length h.nc] 42)) := aB (br _ _) _;have H1 := wnq wr (.cells #[.string h.n, .slice h.ta h.tl.length h.tc, .slice h.na h.nl.length h.nc] 42);obtain ⟨W1, hW1⟩ : ∃ W, wr.alloc (.cells #[.string h.n, .slice h.ta h.tl.length h.tc, .slice h.na h.nl.length h.nc] 42) = W := ⟨_, rfl⟩;rw [hW1] at hbA H1;have hhi := hhi.zL hbA;have HN1 : Hid (Below wc.heap.size wc W1) := aD hN hbA;have hax := hax.zL HN1.out;have e0 : W1.cell? ⟨E, 0, none⟩ = some (.int .i64 v.k) := aH (bD HE5.out HN1.out) rfl;have e1 : W1.cell? ⟨E, 1, none⟩ = some (.string v.n) := aH (bD HE5.out HN1.out) rfl;obtain ⟨x0, x1, x2⟩ := kO (bD HX5.out HN1.out);obtain ⟨h0, h1, h2⟩ := aJ H1;have hfn := hhf.tn;have hfx := hhf.nn;have hml' : (m : Int) < (b.hl.length : Int) := by omega
       clear hh hcs hN hbA H1 hab hae
       by_cases ht : v.k = 4 /\ C = 0
       · have HKc : Hid (∀ g : Hx, g.n = h.n -> g.tl = aQ x.now h.tl -> g.nl = aQ x.now h.nl -> PQ x.hl g) := fun g p q r => by
          rw [HXn.out] at q r;exact MN HS5.out.ok HXok.out HXl.out hhm ht.1 (by rw [← HC.out];exact ht.2) p q r
         have t4 : (v.k == 4) = true := by simp [ht.1]
         have t0 : (C == 0) = true := by simp [ht.2]
         obtain ⟨Z, hZ⟩ : ∃ Z, Z <= W1.heap.size := ⟨0, nz _⟩;clear ht
         go_upto_region 18 with fail
         clear hW1 g0 g1 g2 c2 e0 e1 t4 t0;refine wpIn_wide.1 (aT (F := Fence.wide) (n := 0) (by kernel_rfl) 15 [some 94, some 95, some 96, some 97, some 98, some 99, some 100, some 101, some 102, some 103, some 104, some 105, some 106, some 107, some 108] (by decide) (TK X wr.heap.size x h Z) TK.zL (by kernel_rfl) (by kernel_rfl) (by kernel_rfl) ?step ?fin)
         case step =>
          intro ii o vs w' hi' ho hB hd;have z0z := (hB.cell (aA h0)).trans h0;have z1z := (hB.cell (aA h1)).trans h1;have z2z := (hB.cell (aA x0)).trans x0;have z3z := (hB.cell (aA h2)).trans h2
          match ii, hi' with
          | 0, _ =>
           simp at ho;subst ho;have z0 := (hB.cell (aA x0)).trans x0;have z1 := (hB.cell (aA x1)).trans x1;have z2 := (hB.cell (aA x2)).trans x2;simp only [aE, Act.put];gi_wp2;exact ⟨_, by simp [aI], rfl, br _ _⟩
          | 1, _ =>
           simp at ho;subst ho;simp only [aE, Act.put];gi_wp2;exact ⟨_, by simp [aI], rfl, br _ _⟩
          | 2, _ | 4, _ | 6, _ | 9, _ | 11, _ =>
           simp at ho;subst ho
           simp [Region.binds, TK] at hd
           simp only [aE, Act.put, hd];gi_wp2;exact ⟨_, by simp [aI, hd], rfl, br _ _⟩
          | 3, _ | 5, _ | 8, _ | 10, _ =>
           simp at ho;subst ho;simp only [aE, Act.put];gi_wp2;exact ⟨_, by simp [aI], rfl, br _ _⟩
          | 7, _ =>
           simp at ho;subst ho;have d4 : vs 4 = _ := Zq hd 4;have d6 : vs 6 = _ := Zq hd 6;simp only [aE, Act.put];rw [d4, d6];gi_wp2_with fail
           refine ⟨trivial, rfl, ?_⟩;refine (cw.2 (kZ h.tl h.ta h.tc x.now w' (hhi.1.zL hB) (by omega))).mono ?_;rintro e w5 ⟨u, rfl, hO, hb5⟩;have HO : Hid _ := hO.weak (base' := Z) (by have := hB.size;omega);clear hO;gi_wp2;exact ⟨_, by simp [aI, d4, d6], HO.out, hb5⟩
          | 12, _ =>
           simp at ho;subst ho;have d9 : vs 9 = _ := Zq hd 9;have d11 : vs 11 = _ := Zq hd 11;simp only [aE, Act.put];rw [d9, d11];gi_wp2_with fail
           refine ⟨trivial, rfl, ?_⟩;refine (cw.2 (kZ h.nl h.na h.nc x.now w' (hhi.2.zL hB) (by omega))).mono ?_;rintro e w5 ⟨u, rfl, hO, hb5⟩;have HO : Hid _ := hO.weak (base' := Z) (by have := hB.size;omega);clear hO;gi_wp2;exact ⟨_, by simp [aI, d9, d11], HO.out, hb5⟩
          | 13, _ =>
           simp at ho;subst ho;have d2 : vs 2 = _ := Zq hd 2;have k7 : aG _ _ (vs 7) _ := Zq hd 7;have k12 : aG _ _ (vs 12) _ := Zq hd 12;obtain ⟨a7, c7, d7, b7⟩ := pO k7;obtain ⟨a12, c12, d12, b12⟩ := pO k12;have HB7 : Hid _ := b7;have HB12 : Hid _ := b12;clear hd k7 k12 b7 b12;simp only [aE, Act.put];rw [d2, d7, d12];gi_wp2;exact ⟨_, by simp [aI, d2, d7, d12], ⟨⟨h.n, a7, aQ x.now h.tl, c7, a12, aQ x.now h.nl, c12⟩, rfl, rfl, rfl, rfl, HB7.out, HB12.out⟩, br _ _⟩
          | 14, _ =>
           simp at ho;subst ho;have d0 : vs 0 = _ := Zq hd 0;have k13 : ∃ g : Hx, vs 13 = g.val /\ _ := Zq hd 13;obtain ⟨g, d13, g1, g2, g3, g4⟩ := k13;have hgf : g.Fit := ⟨by rw [g2];have := c6 x.now h.tl;omega, by rw [g3];have := c6 x.now h.nl;omega, by rw [g1];exact hhf.sn⟩;have HKp : Hid (PQ x.hl g) := HKc.out g g1 g2 g3;have HG : Hid _ := g4;clear hd g1 g2 g3 g4;simp only [aE, Act.put];rw [d0, d13];gi_wp2_with fail
           refine ⟨trivial, rfl, ?_⟩;refine (cw.2 (uR x g w' (hax.zL hB) HG.out hgf HKp.out)).mono ?_;rintro e w5 ⟨rfl, hb5⟩;gi_wp2;exact ⟨_, by simp [aI, d0, d13], rfl, hb5⟩
          | q + 15, h => exact absurd h (by omega)
         case fin =>
          intro vs w8 hB hp;have e14 : vs 14 = .bool true := hp 14 (by decide);have HB8 : Hid (Below W1.heap.size W1 w8) := hB;clear hp hB;simp only [lds, List.drop_zero, aE, Act.put];rw [e14];clear e14;generalize vs = vs;gi_wp2_with fail
          go_wp2_with fail
          go_roundw
          case rel => exact ⟨m + 1, by omega, by go_num, aD HN1.out HB8.out⟩
          case measure => simp [intOf];omega
       · have HKp : Hid ((h.n.toList == v.n.toList) = false -> PQ x.hl h) := fun hn => JM HXok.out HXl.out hhm (by rw [← HC.out];exact ht) hn
         have ht2 : ¬ (v.k = 4 /\ C = 0) := ht;clear ht
         go_upto_region 17 with fail
         clear g0 g1 g2 c2 hW1
         go_cut [93] (fun g wx => g = .bool false /\ wx = W1)
         case first =>
          by_cases h4 : v.k = 4
          · have t4 : (v.k == 4) = true := by simp [h4]
            have t0 : (C == 0) = false := by simp;exact fun e => ht2 ⟨h4, e⟩
            clear ht2 h4;go_wp2
            go_meet
            exact ⟨rfl, rfl⟩
          · have t4 : (v.k == 4) = false := by simp [h4]
            clear ht2 h4;go_wp2
            go_meet
            exact ⟨rfl, rfl⟩
         case rest =>
         obtain ⟨rfl, rfl⟩ := hcut;clear ht2
         cases hn : (h.n.toList == v.n.toList) with
         | true =>
          go_wp2_with fail
          go_roundw
          case rel => exact ⟨m + 1, by omega, by go_num, HN1.out⟩
          case measure => simp [intOf];omega
         | false =>
          have HKq : Hid _ := HKp.out hn;clear HKp;go_wp2_with fail
          refine (uR x h _ hax hhi hhf HKq.out).mono ?_;rintro e w6 ⟨rfl, B6⟩;have M6 : Hid _ := aD HN1.out B6;clear B6 x0 x1 x2 h0 h1 h2 e0 e1;go_wp2_with fail
          go_roundw
          case rel => exact ⟨m + 1, by omega, by go_num, M6.out⟩
          case measure => simp [intOf];omega
     · have hml' : ¬ (m : Int) < (b.hl.length : Int) := by omega
       have HS6 : Hid _ := HS5.out.zL hN;have HSX6 : Hid _ := HSX5.out.zL hN;obtain ⟨x0, x1, x2⟩ := kO (bD HX5.out hN);obtain ⟨c0, c1, c2⟩ := kO HS6.out.bk;have cf : ∀ i, wr.frozen? ⟨P, i, none⟩ = false := fun i => by simp [World.frozen?, HS6.out.bk]
       have HP6 : Hid _ := HS6.out.put HSX6.out HXok.out;clear hN HSX6 HS6;go_wp2_with fail
       go_roundw
       case rel => exact ⟨k + 1, x, by omega, by go_num, HP6.out⟩
       case measure => simp [intOf];omega
  · have hlt' : ¬ (k : Int) < (evs.length : Int) := by omega
    have HS6 : Hid _ := hS;have hfin := hS.sp.asks hS.ok;have HNf : Hid (Below w.heap.size w wr) := HN1.out.trans (hbl.mono HN1.out.size);clear hS hbl;go_wp2_with fail
    refine (oW hfin true HS6.out.ok).mono ?_;rintro e w5 ⟨rfl, B5⟩;have M5 : Hid _ := aD HNf.out B5;clear B5 c0 c1 c2;go_wp2_with fail
    go_ret;exact ⟨rfl, M5.out⟩
end Go.Proofs.YtiojdbffjdoniaaGreatDoor
