import Derived.Test.YtiojdbffjdoniaaGreatDoorDn
import Derived.Test.YtiojdbffjdoniaaGreatDoorAs
namespace Go.Proofs.YtiojdbffjdoniaaGreatDoor
set_option maxRecDepth 100000
set_option maxHeartbeats 4000000
open Go.RowKit Go.Shelf
attribute [local go_sem] Oper.semAt_some
abbrev SD (b : Bk) (nm : ByteArray) (i : Nat) (f : Bool) : Value := .agg #[.int .i64 b.now, .slice b.fa b.fl.length b.fc, .slice b.ha b.hl.length b.hc, .string nm, .int .i64 (i : Int), .bool f]
abbrev OY (b : Bk) (nm : ByteArray) (i : Nat) (f : Bool) : Obj := .cells #[.int .i64 b.now, .slice b.fa b.fl.length b.fc, .slice b.ha b.hl.length b.hc, .string nm, .int .i64 (i : Int), .bool f] 178
structure lD (b : Bk) (nm : ByteArray) (b' : Bk) (i : Nat) (f : Bool) : Prop where
 now : b'.now = b.now
 fl : b'.fl = b.fl
 lk : aL b.hl b'.hl
 at' : yX b.hl nm i
 hd : f = true ↔ ∃ h : i < b.hl.length, b.hl[i].n.toList = nm.toList
theorem EL (b : Bk) (nm : ByteArray) (w : World) (hf : Xs 3 Fx.cells w b.fa b.fl) (hnf : b.fl.length <= 1048576) (hh : Xs 3 Hx.cells w b.ha b.hl) (hnh : b.hl.length <= 64) (hg : ∀ h ∈ b.hl, h.In w /\ h.Fit) (ha : iO Hx.n b.hl = true) :
 Calls Tryz.prog 116 #[b.val, .string nm] w fun e w' => (∃ (b' : Bk) (i : Nat) (f : Bool), e = .returned (SD b' nm i f) /\ lD b nm b' i f /\ fM w.heap.size w' b') /\ Below w.heap.size w w' := by
 have hB0 : Below w.heap.size w ((w.alloc b.obj).alloc (.cells #[.int .i64 0, .slice none 0 0, .slice none 0 0, .string ⟨#[]⟩, .int .i64 0, .bool false] 178)) := aB (aB (br _ _) _) _;have A0 := (halq (w.alloc b.obj) (.cells #[.int .i64 0, .slice none 0 0, .slice none 0 0, .string ⟨#[]⟩, .int .i64 0, .bool false] 178) w.heap.size (by simp)).trans (wnq w b.obj);have R0 := wnq (w.alloc b.obj) (.cells #[.int .i64 0, .slice none 0 0, .slice none 0 0, .string ⟨#[]⟩, .int .i64 0, .bool false] 178);rw [wsa] at R0
 go_enter Tryz.func116, Tryz.ntmps116
 go_wp2_with fail
 obtain ⟨W0, hW0⟩ : ∃ W0, (w.alloc b.obj).alloc (.cells #[.int .i64 0, .slice none 0 0, .slice none 0 0, .string ⟨#[]⟩, .int .i64 0, .bool false] 178) = W0 := ⟨_, rfl⟩;rw [hW0] at hB0 A0 R0 ⊢;have hz1 : w.heap.size + 1 < W0.heap.size := (bP R0);clear hW0;refine (FU b.hl b.ha b.hc nm W0 (hh.zL hB0) hnh ha).mono ?_;rintro e w1 ⟨⟨i, f, rfl, hp, hfd⟩, hb1⟩;have N1 := aD hB0 hb1;have A1 := bD A0 hb1;have HR1 : Hid _ := bD R0 hb1;have HP : Hid _ := hp;have HD : Hid _ := hfd;obtain ⟨k0, k1, k2⟩ := aJ A1;have hs1 := hb1.size;clear A0 R0 A1 hb1 hB0 hp hfd ha;go_wp2_with fail
 refine (FR b w1 (hf.zL N1) hnf (hh.zL N1) hnh (fun h m => ⟨(hg h m).1.zL N1, (hg h m).2⟩)).mono ?_;rintro e w2 ⟨⟨b', rfl, e1, e2, hlk, hA⟩, hb2⟩;have HPg : Hid (lD b nm b' i f) := ⟨e1, e2, hlk, HP.out, HD.out⟩;have N2 := aD N1 hb2;have R2 := bD HR1.out hb2;obtain ⟨r0, r1, r2, r3, r4, r5⟩ := nN R2;have rf : ∀ i, w2.frozen? ⟨w.heap.size + 1, i, none⟩ = false := fun i => by simp [World.frozen?, R2]
 have HA : Hid (fM w1.heap.size w2 b') := hA;clear k0 k1 k2 e1 e2 hlk hA HP HD HR1 R2 hb2 N1;go_wp2_with fail
 have hS : cA (fun k => k = w.heap.size + 1) w2 ((((((w2.setCell ⟨w.heap.size + 1, 0, none⟩ (.int .i64 b'.now)).setCell ⟨w.heap.size + 1, 1, none⟩ (.slice b'.fa b'.fl.length b'.fc)).setCell ⟨w.heap.size + 1, 2, none⟩ (.slice b'.ha b'.hl.length b'.hc)).setCell ⟨w.heap.size + 1, 3, none⟩ (.string nm)).setCell ⟨w.heap.size + 1, 4, none⟩ (.int .i64 (i : Int))).setCell ⟨w.heap.size + 1, 5, none⟩ (.bool f)) := ((((((cA.refl (fun k => k = w.heap.size + 1) w2).set (g := w.heap.size + 1) rfl _ _).set (g := w.heap.size + 1) rfl _ _).set (g := w.heap.size + 1) rfl _ _).set (g := w.heap.size + 1) rfl _ _).set (g := w.heap.size + 1) rfl _ _).set (g := w.heap.size + 1) rfl _ _;have hA2 := (HA.out.but hS (fun k hk => by rw [hk];omega)).weak (z' := w.heap.size) (by omega);have hN2 := hS.under N2 (nlq _) (fun k hk => by rw [hk];omega);exact bpr (v := SD b' nm i f) (by simp [results, Tryz.results116, go_sem, r0, r1, r2, r3, r4, r5]) rfl ⟨⟨b', i, f, rfl, HPg.out, hA2⟩, hN2⟩
def lF (c : Int) : Value := if c = 0 then .nilIface else .iface 176 (.int .i64 c)
theorem LY (c : Int) (w : World) (hg : mW w) :
 Calls Tryz.prog 115 #[lF c] w fun e w' => e = .returned (.int .i64 c) /\ Below w.heap.size w w' := by
 unfold lF
 split
 · rename_i h;subst h;exact K4 w
 · exact AS c w hg
theorem OF (b : Bk) (nm : ByteArray) (i : Nat) (took : Bool) (P : Nat) (w : World) (hP : w.heap[P]? = some (OY b nm i false)) :
 Calls Tryz.prog 119 #[.pointer (some ⟨P, 0, none⟩), .bool took] w fun e w' => e = .returned (lF 6) /\ w' = w := by
 have p5 : w.cell? ⟨P, 5, none⟩ = some (.bool false) := aH hP rfl;clear hP
 go_enter Tryz.func119, Tryz.ntmps119
 go_wp2
 go_ret;exact ⟨rfl, rfl⟩
theorem kN (w : World) (n : Nat) : Below w.heap.size w (w.drewN n) := ⟨rfl, rfl, rfl, nlq _, fun _ _ => rfl⟩
theorem qQ : ∀ (l : List Hx) (i : Nat) (x' : Hx) (h : i < l.length), x'.bs.Sublist l[i].bs -> ((l.set i x').flatMap Hx.bs).Sublist (l.flatMap Hx.bs)
 | [], _, _, h, _ => by simp at h
 | a :: r, 0, x', _, hs => by
  simp only [List.set_cons_zero, List.flatMap_cons];exact List.Sublist.append hs (List.Sublist.refl _)
 | a :: r, i + 1, x', h, hs => by
  simp only [List.set_cons_succ, List.flatMap_cons];exact List.Sublist.append (List.Sublist.refl _) (qQ r i x' (by simpa using h) (by simpa using hs))
theorem fM.held {z : Nat} {w : World} {b : Bk} {i : Nat} (h : fM z w b) (hi : i < b.hl.length) : ∃ g, b.ha = some ⟨g, 0, none⟩ /\ z <= g /\ b.hl.length <= b.hc /\ fE 42 3 Hx.cells w g b.hc b.hl b.hl.length := by
 rcases h.h with ⟨_, e⟩ | ⟨g, cap, e, h1, h2, h3⟩
 · rw [e] at hi;simp at hi
 · simp only [Value.slice.injEq] at e
   obtain ⟨e1, _, rfl⟩ := e;exact ⟨g, e1, h1, h2, h3⟩
structure iV (z P : Nat) (w : World) (b : Bk) (nm : ByteArray) (i : Nat) (f : Bool) : Prop where
 p : w.heap[P]? = some (OY b nm i f)
 a : fM z w b
 zp : z <= P
theorem iV.zL {z P : Nat} {w w' : World} {b : Bk} {nm : ByteArray} {i : Nat} {f : Bool} (h : iV z P w b nm i f) (hb : Below w.heap.size w w') : iV z P w' b nm i f := ⟨bD h.p hb, h.a.zL hb, h.zp⟩
def iL (took : Bool) (x : Hx) : Hx := if took then ⟨x.n, x.na, x.nl, x.nc, none, [], 0⟩ else ⟨x.n, x.ta, x.tl, x.tc, none, [], 0⟩
def j3 (b : Bk) (i : Nat) (f : Bool) : Int := if f then (match b.hl[i]? with | some x => if x.nl = [] then 8 else 0 | none => 6) else 6
def lH (b : Bk) (i : Nat) (f : Bool) (took : Bool) : Bk := if j3 b i f = 0 then (match b.hl[i]? with | some x => ⟨b.now, b.fa, b.fl, b.fc, b.ha, b.hl.set i (iL took x), b.hc⟩ | none => b) else b
theorem KD {z : Nat} {w : World} {x : Hx} (took : Bool) (h : dC z w x) : dC z w (iL took x) /\ (iL took x).bs.Sublist x.bs := by
 unfold iL
 cases took with
 | true => exact ⟨⟨h.n, .inl ⟨rfl, rfl⟩⟩, by simp [Hx.bs]⟩
 | false => exact ⟨⟨h.t, .inl ⟨rfl, rfl⟩⟩, by simp [Hx.bs]⟩
theorem MT (z P : Nat) (b : Bk) (nm : ByteArray) (i : Nat) (f took : Bool) (w : World) (hI : iV z P w b nm i f) (hfi : f = true -> i < b.hl.length) (hft : ∀ h ∈ b.hl, h.Fit) :
 Calls Tryz.prog 119 #[.pointer (some ⟨P, 0, none⟩), .bool took] w fun e w' => e = .returned (lF (j3 b i f)) /\ iV z P w' (lH b i f took) nm i f /\ cA (fun k => z <= k) w w' := by
 cases f with
 | false =>
  refine (OF b nm i took P w hI.p).mono ?_;rintro e w' ⟨rfl, rfl⟩;exact ⟨rfl, hI, cA.refl _ _⟩
 | true =>
  have hi := hfi rfl;obtain ⟨x, hx⟩ : ∃ x, x = b.hl[i] := ⟨_, rfl⟩;have hxi : b.hl[i]? = some x := by rw [hx];exact lge hi
  have hxf := hft x (by rw [hx];exact lgm hi);obtain ⟨g, ha, hgz, hcap, hR⟩ := hI.a.held hi;have p2 : w.cell? ⟨P, 2, none⟩ = some (.slice (some ⟨g, 0, none⟩) b.hl.length b.hc) := by rw [← ha];exact aH hI.p rfl
  have p4 : w.cell? ⟨P, 4, none⟩ = some (.int .i64 (i : Int)) := aH hI.p rfl;have p5 : w.cell? ⟨P, 5, none⟩ = some (.bool true) := aH hI.p rfl;obtain ⟨f, hrow, hf⟩ := hR;have e1 := hrow.cell (i := i * 3 + 1) (by omega);have e2 := hrow.cell (i := i * 3 + 2) (by omega);rw [show f (i * 3 + 1) = .slice x.ta x.tl.length x.tc from by rw [hx];exact hf i hi hi 1 _ rfl] at e1;rw [show f (i * 3 + 2) = .slice x.na x.nl.length x.nc from by rw [hx];exact hf i hi hi 2 _ rfl] at e2;have cf := fun i => hrow.frozen i
  have hPg : P ≠ g := fun e => by
   subst e;obtain ⟨cs, hcs, _⟩ := hrow;rw [hI.p] at hcs
   cases hcs
  have hnn := hxf.nn;have HI : Hid _ := hI;have HX : Hid (x = b.hl[i]) := hx;have HXi : Hid _ := hxi;have HR : Hid _ := hrow;have HF : Hid _ := hf;have HA : Hid _ := ha;clear hf hI hx hxi hrow ha
  cases hnl : x.nl with
  | nil =>
   have HC : Hid (j3 b i true = 8 /\ lH b i true took = b) := by
    have : j3 b i true = 8 := by unfold j3;rw [HXi.out];simp [hnl]
    refine ⟨this, ?_⟩;unfold lH;rw [this];rfl
   rw [hnl] at e2;clear hnl
   go_enter Tryz.func119, Tryz.ntmps119
   go_wp2
   go_quiet (fail)
   go_wp2
   go_ret;rw [HC.out.1, HC.out.2];exact ⟨rfl, HI.out.zL (kN _ _), cA.below (kN _ _)⟩
  | cons y ys =>
   have hlen : 0 < x.nl.length := by rw [hnl];simp
   have HC : Hid (j3 b i true = 0 /\ lH b i true took = ⟨b.now, b.fa, b.fl, b.fc, b.ha, b.hl.set i (iL took x), b.hc⟩) := by
    have h0 : j3 b i true = 0 := by unfold j3;rw [HXi.out];simp [hnl]
    refine ⟨h0, ?_⟩;unfold lH;rw [h0, HXi.out];rfl
   have hT : dC z w x := HI.out.a.t x (by rw [HX.out];exact lgm hi);have HT : Hid _ := KD took hT
   have HE : Hid (∀ (w' : World), cA (fun k => k = g) w w' -> fE 42 3 Hx.cells w' g b.hc (b.hl.set i (iL took x)) b.hl.length -> iV z P w' ⟨b.now, b.fa, b.fl, b.fc, b.ha, b.hl.set i (iL took x), b.hc⟩ nm i true /\ cA (fun k => z <= k) w w') := fun w' hb hR => by
    refine ⟨⟨?_, HI.out.a.put HA.out hi hb hR (HT.out.1.butHeld HR.out hb) (HI.out.a.d.sublist (qQ b.hl i _ hi (by rw [← HX.out];exact HT.out.2))), HI.out.zp⟩, hb.wide (fun k hk => by rw [hk];exact hgz)⟩;have := dA HI.out.p hb hPg;rw [this]
    simp
   have hz2 : ((x.nl.length : Int) == 0) = false := beq_false_of_ne (by omega);clear hnl hT
   cases took with
   | true =>
    go_enter Tryz.func119, Tryz.ntmps119
    go_wp2
    go_quiet (fail)
    go_wp2
    go_ret;rw [HC.out.1, HC.out.2];refine ⟨rfl, HE.out _ (((cA.below (S := fun k => k = g) (kN _ _)).set (g := g) rfl _ _).set (g := g) rfl _ _) ?_⟩;exact fE.lists (h := x) ((((World.rowIs.of_block HR.out ((kN w _).block _ (World.rowIs.lt HR.out))).set _ _).set _ _)) HF.out HXi.out rfl
   | false =>
    go_enter Tryz.func119, Tryz.ntmps119
    go_wp2
    go_quiet (fail)
    go_wp2
    go_ret;rw [HC.out.1, HC.out.2];refine ⟨rfl, HE.out _ ((cA.below (S := fun k => k = g) (kN _ _)).set (g := g) rfl _ _) ?_⟩;have h1 := (World.rowIs.of_block HR.out ((kN w nq).block _ (World.rowIs.lt HR.out))).set (i * 3 + 2) (.slice none 0 0)
    have h2 : (fun j => if j = i * 3 + 2 then Value.slice none 0 0 else f j) = (fun j => if j = i * 3 + 2 then Value.slice none 0 0 else if j = i * 3 + 1 then .slice x.ta x.tl.length x.tc else f j) := by
     funext j
     by_cases e : j = i * 3 + 1
     · subst e
       rw [if_neg (by omega), if_neg (by omega), if_pos rfl, HX.out];exact HF.out i hi hi 1 _ rfl
     · simp [e]
    rw [h2] at h1;exact fE.lists (h := x) h1 HF.out HXi.out rfl
def mB (k : Nat) (fr : Array Value) (b : Bk) (nm : ByteArray) (R : Bk -> Nat -> Bool -> Bk -> Int -> Prop) (w : World) : Prop :=
 ∀ (b' : Bk) (i : Nat) (f : Bool) (P z : Nat) (W : World), aO b = true -> lD b nm b' i f -> w.heap.size <= z -> z <= W.heap.size -> iV z P W b' nm i f -> Below w.heap.size w W ->
  Calls Tryz.prog k (#[.pointer (some ⟨P, 0, none⟩)] ++ fr) W fun e W' => ∃ b'' c, e = .returned (lF c) /\ R b' i f b'' c /\ iV z P W' b'' nm i f /\ cA (fun q => z <= q) W W'
def GW (b : Bk) (nm : ByteArray) (R : Bk -> Nat -> Bool -> Bk -> Int -> Prop) (z : Nat) (e : Ending) (w' : World) : Prop :=
 (aO b = false /\ e = .returned (.tuple #[Bk.val ⟨0, none, [], 0, none, [], 0⟩, .int .i64 1])) ∨
 (aO b = true /\ ∃ (b' : Bk) (i : Nat) (f : Bool) (b'' : Bk) (c : Int), lD b nm b' i f /\ R b' i f b'' c /\ e = .returned (.tuple #[b''.val, .int .i64 c]) /\ fM z w' b'')
def D5 (B8 : Nat) (b : Bk) (c : Int) (j : Nat) (v : Value) (_w : World) : Prop :=
 match j with
 | 0 => v = .pointer (some ⟨B8, 0, none⟩)
 | 1 => v = b.val
 | 2 => v = lF c
 | 3 => v = .int .i64 c
 | _ => True
theorem D5.zL {B8 : Nat} {b : Bk} {c : Int} (j : Nat) (v : Value) (w w' : World) (h : D5 B8 b c j v w) (_ : Below w.heap.size w w') : D5 B8 b c j v w' := h
set_option maxHeartbeats 8000000
theorem CL (v0 : Value) (b : Bk) (nm : ByteArray) (R : Bk -> Nat -> Bool -> Bk -> Int -> Prop) (w : World) (hC : mB 67 #[v0] b nm R w) (hL : mW w) (hf : Xs 3 Fx.cells w b.fa b.fl) (hnf : b.fl.length <= 1048576) (hcf : b.fl.length <= b.fc) (hcf2 : b.fc <= 9223372036854775807) (hsf : ∀ f ∈ b.fl, f.n.size <= 9223372036854775807) (hh : Xs 3 Hx.cells w b.ha b.hl) (hnh : b.hl.length <= 1048576) (hg : ∀ h ∈ b.hl, h.In w /\ h.Fit) :
 Calls Tryz.prog 65 #[b.val, .string nm, .func (.func 67) #[] #[v0]] w fun e w' => GW b nm R w.heap.size e w' /\ Below w.heap.size w w' := by
 have hB0 : Below w.heap.size w ((w.alloc b.obj).alloc (.cells #[.int .i64 0, .slice none 0 0, .slice none 0 0] 29)) := aB (aB (br _ _) _) _;have A0 := (halq (w.alloc b.obj) (.cells #[.int .i64 0, .slice none 0 0, .slice none 0 0] 29) w.heap.size (by simp)).trans (wnq w b.obj);have R0 := wnq (w.alloc b.obj) (.cells #[.int .i64 0, .slice none 0 0, .slice none 0 0] 29);rw [wsa] at R0
 go_enter Tryz.func65, Tryz.ntmps65
 go_wp2_with fail
 obtain ⟨W0, hW0⟩ : ∃ W0, (w.alloc b.obj).alloc (.cells #[.int .i64 0, .slice none 0 0, .slice none 0 0] 29) = W0 := ⟨_, rfl⟩;rw [hW0] at hB0 A0 R0 ⊢;have hz1 : w.heap.size + 1 < W0.heap.size := (bP R0);clear hW0;refine (qL b W0 (hf.zL hB0) hnf hcf hcf2 hsf (hh.zL hB0) hnh (fun h m => ⟨(hg h m).1.zL hB0, (hg h m).2⟩)).mono ?_;rintro e w1 ⟨rfl, hb1⟩;have N1 := aD hB0 hb1;have A1 := bD A0 hb1;have R1 := bD R0 hb1;have hs1 := hb1.size;clear A0 R0 hb1 hB0
 cases hbk : aO b with
 | false =>
  have HBK : Hid _ := hbk;have HR1 : Hid _ := R1;clear A1 R1 hbk;go_wp2_with fail
  refine (AS 1 w1 (hL.zL N1)).mono ?_;rintro e w2 ⟨rfl, hb2⟩;have N2 := aD N1 hb2;have R2 := bD HR1.out hb2;obtain ⟨r0, r1, r2⟩ := aJ R2;have rf : ∀ i, w2.frozen? ⟨w.heap.size + 1, i, none⟩ = false := fun i => by simp [World.frozen?, R2]
  clear R2 HR1 hb2;go_wp2_with fail
  have hN3 := ((N2.setCell (p := ⟨w.heap.size + 1, 0, none⟩) (by show w.heap.size <= w.heap.size + 1;omega) (.int .i64 0)).setCell (p := ⟨w.heap.size + 1, 1, none⟩) (by show w.heap.size <= w.heap.size + 1;omega) (.slice none 0 0)).setCell (p := ⟨w.heap.size + 1, 2, none⟩) (by show w.heap.size <= w.heap.size + 1;omega) (.slice none 0 0);exact bpr (v := .tuple #[Bk.val ⟨0, none, [], 0, none, [], 0⟩, .int .i64 1]) (by simp [results, Tryz.results65, go_sem, r0, r1, r2]) rfl ⟨.inl ⟨HBK.out, rfl⟩, hN3⟩
 | true =>
  have HBK : Hid _ := hbk;obtain ⟨k0, k1, k2⟩ := aJ A1
  have hh16 : b.hl.length <= 64 := by
   have := hbk;simp only [aO, cI, bat, dte] at this;omega
  have hasc : iO Hx.n b.hl = true := by
   have := hbk;simp only [aO, cH, a9, bat] at this;exact this.2.2.2.1.2
  have HR1 : Hid _ := R1;clear A1 R1 hbk;go_wp2_with fail
  refine (EL b nm w1 (hf.zL N1) hnf (hh.zL N1) hh16 (fun h m => ⟨(hg h m).1.zL N1, (hg h m).2⟩) hasc).mono ?_;rintro e w2 ⟨⟨b', i, f, rfl, hpg, hA⟩, hb2⟩;have hbx : Below w2.heap.size w2 (w2.alloc (OY b' nm i f)) := aB (br _ _) _;have P3 := wnq w2 (OY b' nm i f);have N3 := aD (aD N1 hb2) hbx;have HR3 : Hid _ := bD (bD HR1.out hb2) hbx;have hA3 := hA.zL hbx;have hs2 := hb2.size;obtain ⟨w3, hw3⟩ : ∃ w3, w2.alloc (OY b' nm i f) = w3 := ⟨_, rfl⟩;rw [hw3] at P3 N3 HR3 hA3;have hs3 : w2.heap.size < w3.heap.size := (bP P3);have HI : Hid (iV w1.heap.size w2.heap.size w3 b' nm i f) := ⟨P3, hA3, hs2⟩;have HPg : Hid _ := hpg;clear k0 k1 k2 hA hA3 P3 hbx hb2 N1 HR1 hpg hasc;go_wp2_with fail
  clear hw3;refine (hC b' i f w2.heap.size w1.heap.size w3 HBK.out HPg.out (by omega) (by omega) HI.out N3).mono ?_;rintro e w4 ⟨b'', c, rfl, hR, hI4, hb4⟩;have N4 := hb4.under N3 (nlq _) (fun q hq => by have hq' : w1.heap.size <= q := hq;omega);have HR4 : Hid _ := dA HR3.out hb4 (fun hq => by have hq' : w1.heap.size <= w.heap.size + 1 := hq;omega);have HI4 : Hid _ := hI4;have HRR : Hid _ := hR;clear hC HI HR3 N3 hI4 hb4 hR;go_wp2_with fail
  refine wpIn_wide.1 (aT (F := Fence.wide) (n := 0) (by kernel_rfl) 4 [some 21, some 22, some 23, some 24] (by decide) (D5 w2.heap.size b'' c) D5.zL (by kernel_rfl) (by kernel_rfl) (by kernel_rfl) ?step ?fin)
  case step =>
   intro i o vs w' hi' ho hB hd
   match i, hi' with
   | 0, _ | 2, _ =>
    simp at ho;subst ho;simp only [aE, Act.put];gi_wp2;exact ⟨_, by simp [aI], rfl, br _ _⟩
   | 1, _ =>
    simp at ho;subst ho;have d0 : vs 0 = _ := Zq hd 0;have P5 := bD HI4.out.p hB;have k0 : w'.cell? ⟨w2.heap.size, 0, none⟩ = some (.int .i64 b''.now) := aH P5 rfl;have k1 : w'.cell? ⟨w2.heap.size, 1, none⟩ = some (.slice b''.fa b''.fl.length b''.fc) := aH P5 rfl;have k2 : w'.cell? ⟨w2.heap.size, 2, none⟩ = some (.slice b''.ha b''.hl.length b''.hc) := aH P5 rfl;clear P5;simp only [aE, Act.put];rw [d0];gi_wp2;exact ⟨_, by simp [aI, d0], rfl, br _ _⟩
   | 3, _ =>
    simp at ho;subst ho;have d2 : vs 2 = _ := Zq hd 2;simp only [aE, Act.put];rw [d2];gi_wp2_with fail
    refine ⟨trivial, rfl, ?_⟩;refine (cw.2 (LY c w' (hL.zL (aD N4 hB)))).mono ?_;rintro e w5 ⟨rfl, hb5⟩;gi_wp2;exact ⟨_, by simp [aI, d2], rfl, hb5⟩
   | j + 4, h => exact absurd h (by omega)
  case fin =>
   intro vs w5 hB hp;have d1 : vs 1 = _ := hp 1 (by decide);have d3 : vs 3 = _ := hp 3 (by decide);have N5 := aD N4 hB;have R5 := bD HR4.out hB;have HA5 : Hid _ := HI4.out.a.zL hB;obtain ⟨r0, r1, r2⟩ := aJ R5;have rf : ∀ i, w5.frozen? ⟨w.heap.size + 1, i, none⟩ = false := fun i => by simp [World.frozen?, R5]
   clear hp R5 HR4 hB N4;simp only [lds, List.drop_zero, aE, Act.put];rw [d1, d3];clear d1 d3;generalize vs 0 = v0;generalize vs 2 = v2;gi_wp2_with fail
   go_wp2_with fail
   have hS : cA (fun k => k = w.heap.size + 1) w5 (((w5.setCell ⟨w.heap.size + 1, 0, none⟩ (.int .i64 b''.now)).setCell ⟨w.heap.size + 1, 1, none⟩ (.slice b''.fa b''.fl.length b''.fc)).setCell ⟨w.heap.size + 1, 2, none⟩ (.slice b''.ha b''.hl.length b''.hc)) := (((cA.refl (fun k => k = w.heap.size + 1) w5).set (g := w.heap.size + 1) rfl _ _).set (g := w.heap.size + 1) rfl _ _).set (g := w.heap.size + 1) rfl _ _;have hA6 := (HA5.out.but hS (fun k hk => by rw [hk];omega)).weak (z' := w.heap.size) (by omega);have hN6 := hS.under N5 (nlq _) (fun k hk => by rw [hk];omega);exact bpr (v := .tuple #[b''.val, .int .i64 c]) (by simp [results, Tryz.results65, go_sem, r0, r1, r2]) rfl ⟨.inr ⟨HBK.out, b', i, f, b'', c, HPg.out, HRR.out, rfl, hA6⟩, hN6⟩
def O3 (took : Bool) (b' : Bk) (i : Nat) (f : Bool) (b'' : Bk) (c : Int) : Prop := c = j3 b' i f /\ b'' = lH b' i f took
end Go.Proofs.YtiojdbffjdoniaaGreatDoor
