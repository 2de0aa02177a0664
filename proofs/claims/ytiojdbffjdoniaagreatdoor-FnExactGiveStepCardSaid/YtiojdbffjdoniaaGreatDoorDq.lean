import Derived.Test.YtiojdbffjdoniaaGreatDoorDp
namespace Go.Proofs.YtiojdbffjdoniaaGreatDoor
set_option maxRecDepth 100000
set_option maxHeartbeats 4000000
open Go.RowKit Go.Shelf
attribute [local go_sem] Oper.semAt_some
abbrev RQ (b : Bk) (nm : ByteArray) (i : Nat) (f : Bool) : Value := .agg #[.int .i64 b.now, .slice b.fa b.fl.length b.fc, .slice b.ha b.hl.length b.hc, .string nm, .int .i64 (i : Int), .bool f]
abbrev PG (b : Bk) (nm : ByteArray) (i : Nat) (f : Bool) : Obj := .cells #[.int .i64 b.now, .slice b.fa b.fl.length b.fc, .slice b.ha b.hl.length b.hc, .string nm, .int .i64 (i : Int), .bool f] 178
structure lE (b : Bk) (nm : ByteArray) (b' : Bk) (i : Nat) (f : Bool) : Prop where
 now : b'.now = b.now
 fl : b'.fl = b.fl
 lk : aI b.hl b'.hl
 at' : zE b.hl nm i
 hd : f = true ↔ ∃ h : i < b.hl.length, b.hl[i].n.toList = nm.toList
theorem D7 (b : Bk) (nm : ByteArray) (w : World) (hf : Xs 3 Fx.cells w b.fa b.fl) (hnf : b.fl.length <= 1048576) (hh : Xs 3 Hx.cells w b.ha b.hl) (hnh : b.hl.length <= 64) (hg : ∀ h ∈ b.hl, h.In w /\ h.Fit) (ha : j3 Hx.n b.hl = true) :
 Calls Tryz.prog 116 #[b.val, .string nm] w fun e w' => (∃ (b' : Bk) (i : Nat) (f : Bool), e = .returned (RQ b' nm i f) /\ lE b nm b' i f /\ fT w.heap.size w' b') /\ Below w.heap.size w w' := by
 have hB0 : Below w.heap.size w ((w.alloc b.obj).alloc (.cells #[.int .i64 0, .slice none 0 0, .slice none 0 0, .string ⟨#[]⟩, .int .i64 0, .bool false] 178)) := aA (aA (br _ _) _) _; have A0 := (halq (w.alloc b.obj) (.cells #[.int .i64 0, .slice none 0 0, .slice none 0 0, .string ⟨#[]⟩, .int .i64 0, .bool false] 178) w.heap.size (by simp)).trans (wnq w b.obj); have R0 := wnq (w.alloc b.obj) (.cells #[.int .i64 0, .slice none 0 0, .slice none 0 0, .string ⟨#[]⟩, .int .i64 0, .bool false] 178); rw [wsa] at R0
 go_enter Tryz.func116, Tryz.ntmps116
 go_wp2_with fail
 obtain ⟨W0, hW0⟩ : ∃ W0, (w.alloc b.obj).alloc (.cells #[.int .i64 0, .slice none 0 0, .slice none 0 0, .string ⟨#[]⟩, .int .i64 0, .bool false] 178) = W0 := ⟨_, rfl⟩; rw [hW0] at hB0 A0 R0 ⊢; have hz1 : w.heap.size + 1 < W0.heap.size := (bH R0); clear hW0; refine (ES b.hl b.ha b.hc nm W0 (hh.zL hB0) hnh ha).mono ?_; rintro e w1 ⟨⟨i, f, rfl, hp, hfd⟩, hb1⟩; have N1 := aC hB0 hb1; have A1 := aY A0 hb1; have HR1 : Hid _ := aY R0 hb1; have HP : Hid _ := hp; have HD : Hid _ := hfd; obtain ⟨k0, k1, k2⟩ := aJ A1; have hs1 := hb1.size; clear A0 R0 A1 hb1 hB0 hp hfd ha; go_wp2_with fail
 refine (EX b w1 (hf.zL N1) hnf (hh.zL N1) hnh (fun h m => ⟨(hg h m).1.zL N1, (hg h m).2⟩)).mono ?_; rintro e w2 ⟨⟨b', rfl, e1, e2, hlk, hA⟩, hb2⟩; have HPg : Hid (lE b nm b' i f) := ⟨e1, e2, hlk, HP.out, HD.out⟩; have N2 := aC N1 hb2; have R2 := aY HR1.out hb2; obtain ⟨r0, r1, r2, r3, r4, r5⟩ := rW R2; have rf : ∀ i, w2.frozen? ⟨w.heap.size + 1, i, none⟩ = false := fun i => by simp [World.frozen?, R2]
 have HA : Hid (fT w1.heap.size w2 b') := hA; clear k0 k1 k2 e1 e2 hlk hA HP HD HR1 R2 hb2 N1; go_wp2_with fail
 have hS : bC (fun k => k = w.heap.size + 1) w2 ((((((w2.setCell ⟨w.heap.size + 1, 0, none⟩ (.int .i64 b'.now)).setCell ⟨w.heap.size + 1, 1, none⟩ (.slice b'.fa b'.fl.length b'.fc)).setCell ⟨w.heap.size + 1, 2, none⟩ (.slice b'.ha b'.hl.length b'.hc)).setCell ⟨w.heap.size + 1, 3, none⟩ (.string nm)).setCell ⟨w.heap.size + 1, 4, none⟩ (.int .i64 (i : Int))).setCell ⟨w.heap.size + 1, 5, none⟩ (.bool f)) := ((((((bC.refl (fun k => k = w.heap.size + 1) w2).set (g := w.heap.size + 1) rfl _ _).set (g := w.heap.size + 1) rfl _ _).set (g := w.heap.size + 1) rfl _ _).set (g := w.heap.size + 1) rfl _ _).set (g := w.heap.size + 1) rfl _ _).set (g := w.heap.size + 1) rfl _ _; have hA2 := (HA.out.but hS (fun k hk => by rw [hk]; omega)).weak (z' := w.heap.size) (by omega); have hN2 := hS.under N2 (nlq _) (fun k hk => by rw [hk]; omega); exact bpr (v := RQ b' nm i f) (by simp [results, Tryz.results116, go_sem, r0, r1, r2, r3, r4, r5]) rfl ⟨⟨b', i, f, rfl, HPg.out, hA2⟩, hN2⟩
def lF (c : Int) : Value := if c = 0 then .nilIface else .iface 176 (.int .i64 c)
theorem NO (c : Int) (w : World) (hg : oG w) :
 Calls Tryz.prog 115 #[lF c] w fun e w' => e = .returned (.int .i64 c) /\ Below w.heap.size w w' := by
 unfold lF
 split
 · rename_i h; subst h; exact MB w
 · exact BI c w hg
theorem NW (b : Bk) (nm : ByteArray) (i : Nat) (took : Bool) (P : Nat) (w : World) (hP : w.heap[P]? = some (PG b nm i false)) :
 Calls Tryz.prog 119 #[.pointer (some ⟨P, 0, none⟩), .bool took] w fun e w' => e = .returned (lF 6) /\ w' = w := by
 have p5 : w.cell? ⟨P, 5, none⟩ = some (.bool false) := aK hP rfl; clear hP
 go_enter Tryz.func119, Tryz.ntmps119
 go_wp2
 go_ret; exact ⟨rfl, rfl⟩
theorem kR (w : World) (n : Nat) : Below w.heap.size w (w.drewN n) := ⟨rfl, rfl, rfl, nlq _, fun _ _ => rfl⟩
theorem pY : ∀ (l : List Hx) (i : Nat) (x' : Hx) (h : i < l.length), x'.bs.Sublist l[i].bs -> ((l.set i x').flatMap Hx.bs).Sublist (l.flatMap Hx.bs)
 | [], _, _, h, _ => by simp at h
 | a :: r, 0, x', _, hs => by
  simp only [List.set_cons_zero, List.flatMap_cons]; exact List.Sublist.append hs (List.Sublist.refl _)
 | a :: r, i + 1, x', h, hs => by
  simp only [List.set_cons_succ, List.flatMap_cons]; exact List.Sublist.append (List.Sublist.refl _) (pY r i x' (by simpa using h) (by simpa using hs))
theorem fT.held {z : Nat} {w : World} {b : Bk} {i : Nat} (h : fT z w b) (hi : i < b.hl.length) : ∃ g, b.ha = some ⟨g, 0, none⟩ /\ z <= g /\ b.hl.length <= b.hc /\ bI 42 3 Hx.cells w g b.hc b.hl b.hl.length := by
 rcases h.h with ⟨_, e⟩ | ⟨g, cap, e, h1, h2, h3⟩
 · rw [e] at hi; simp at hi
 · simp only [Value.slice.injEq] at e
   obtain ⟨e1, _, rfl⟩ := e; exact ⟨g, e1, h1, h2, h3⟩
structure iX (z P : Nat) (w : World) (b : Bk) (nm : ByteArray) (i : Nat) (f : Bool) : Prop where
 p : w.heap[P]? = some (PG b nm i f)
 a : fT z w b
 zp : z <= P
theorem iX.zL {z P : Nat} {w w' : World} {b : Bk} {nm : ByteArray} {i : Nat} {f : Bool} (h : iX z P w b nm i f) (hb : Below w.heap.size w w') : iX z P w' b nm i f := ⟨aY h.p hb, h.a.zL hb, h.zp⟩
def iT (took : Bool) (x : Hx) : Hx := if took then ⟨x.n, x.na, x.nl, x.nc, none, [], 0⟩ else ⟨x.n, x.ta, x.tl, x.tc, none, [], 0⟩
def kD (b : Bk) (i : Nat) (f : Bool) : Int := if f then (match b.hl[i]? with | some x => if x.nl = [] then 8 else 0 | none => 6) else 6
def lI (b : Bk) (i : Nat) (f : Bool) (took : Bool) : Bk := if kD b i f = 0 then (match b.hl[i]? with | some x => ⟨b.now, b.fa, b.fl, b.fc, b.ha, b.hl.set i (iT took x), b.hc⟩ | none => b) else b
theorem JL {z : Nat} {w : World} {x : Hx} (took : Bool) (h : cG z w x) : cG z w (iT took x) /\ (iT took x).bs.Sublist x.bs := by
 unfold iT
 cases took with
 | true => exact ⟨⟨h.n, .inl ⟨rfl, rfl⟩⟩, by simp [Hx.bs]⟩
 | false => exact ⟨⟨h.t, .inl ⟨rfl, rfl⟩⟩, by simp [Hx.bs]⟩
theorem NI (z P : Nat) (b : Bk) (nm : ByteArray) (i : Nat) (f took : Bool) (w : World) (hI : iX z P w b nm i f) (hfi : f = true -> i < b.hl.length) (hft : ∀ h ∈ b.hl, h.Fit) :
 Calls Tryz.prog 119 #[.pointer (some ⟨P, 0, none⟩), .bool took] w fun e w' => e = .returned (lF (kD b i f)) /\ iX z P w' (lI b i f took) nm i f /\ bC (fun k => z <= k) w w' := by
 cases f with
 | false =>
  refine (NW b nm i took P w hI.p).mono ?_; rintro e w' ⟨rfl, rfl⟩; exact ⟨rfl, hI, bC.refl _ _⟩
 | true =>
  have hi := hfi rfl; obtain ⟨x, hx⟩ : ∃ x, x = b.hl[i] := ⟨_, rfl⟩; have hxi : b.hl[i]? = some x := by rw [hx]; exact lge hi
  have hxf := hft x (by rw [hx]; exact lgm hi); obtain ⟨g, ha, hgz, hcap, hR⟩ := hI.a.held hi; have p2 : w.cell? ⟨P, 2, none⟩ = some (.slice (some ⟨g, 0, none⟩) b.hl.length b.hc) := by rw [← ha]; exact aK hI.p rfl
  have p4 : w.cell? ⟨P, 4, none⟩ = some (.int .i64 (i : Int)) := aK hI.p rfl; have p5 : w.cell? ⟨P, 5, none⟩ = some (.bool true) := aK hI.p rfl; obtain ⟨f, hrow, hf⟩ := hR; have e1 := hrow.cell (i := i * 3 + 1) (by omega); have e2 := hrow.cell (i := i * 3 + 2) (by omega); rw [show f (i * 3 + 1) = .slice x.ta x.tl.length x.tc from by rw [hx]; exact hf i hi hi 1 _ rfl] at e1; rw [show f (i * 3 + 2) = .slice x.na x.nl.length x.nc from by rw [hx]; exact hf i hi hi 2 _ rfl] at e2; have cf := fun i => hrow.frozen i
  have hPg : P ≠ g := fun e => by
   subst e; obtain ⟨cs, hcs, _⟩ := hrow; rw [hI.p] at hcs
   cases hcs
  have hnn := hxf.nn; have HI : Hid _ := hI; have HX : Hid (x = b.hl[i]) := hx; have HXi : Hid _ := hxi; have HR : Hid _ := hrow; have HF : Hid _ := hf; have HA : Hid _ := ha; clear hf hI hx hxi hrow ha
  cases hnl : x.nl with
  | nil =>
   have HC : Hid (kD b i true = 8 /\ lI b i true took = b) := by
    have : kD b i true = 8 := by unfold kD; rw [HXi.out]; simp [hnl]
    refine ⟨this, ?_⟩; unfold lI; rw [this]; rfl
   rw [hnl] at e2; clear hnl
   go_enter Tryz.func119, Tryz.ntmps119
   go_wp2
   go_quiet (fail)
   go_wp2
   go_ret; rw [HC.out.1, HC.out.2]; exact ⟨rfl, HI.out.zL (kR _ _), bC.below (kR _ _)⟩
  | cons y ys =>
   have hlen : 0 < x.nl.length := by rw [hnl]; simp
   have HC : Hid (kD b i true = 0 /\ lI b i true took = ⟨b.now, b.fa, b.fl, b.fc, b.ha, b.hl.set i (iT took x), b.hc⟩) := by
    have h0 : kD b i true = 0 := by unfold kD; rw [HXi.out]; simp [hnl]
    refine ⟨h0, ?_⟩; unfold lI; rw [h0, HXi.out]; rfl
   have hT : cG z w x := HI.out.a.t x (by rw [HX.out]; exact lgm hi); have HT : Hid _ := JL took hT
   have HE : Hid (∀ (w' : World), bC (fun k => k = g) w w' -> bI 42 3 Hx.cells w' g b.hc (b.hl.set i (iT took x)) b.hl.length -> iX z P w' ⟨b.now, b.fa, b.fl, b.fc, b.ha, b.hl.set i (iT took x), b.hc⟩ nm i true /\ bC (fun k => z <= k) w w') := fun w' hb hR => by
    refine ⟨⟨?_, HI.out.a.put HA.out hi hb hR (HT.out.1.butHeld HR.out hb) (HI.out.a.d.sublist (pY b.hl i _ hi (by rw [← HX.out]; exact HT.out.2))), HI.out.zp⟩, hb.wide (fun k hk => by rw [hk]; exact hgz)⟩; have := cA HI.out.p hb hPg; rw [this]
    simp
   have hz2 : ((x.nl.length : Int) == 0) = false := beq_false_of_ne (by omega); clear hnl hT
   cases took with
   | true =>
    go_enter Tryz.func119, Tryz.ntmps119
    go_wp2
    go_quiet (fail)
    go_wp2
    go_ret; rw [HC.out.1, HC.out.2]; refine ⟨rfl, HE.out _ (((bC.below (S := fun k => k = g) (kR _ _)).set (g := g) rfl _ _).set (g := g) rfl _ _) ?_⟩; exact bI.lists (h := x) ((((World.rowIs.of_block HR.out ((kR w _).block _ (World.rowIs.lt HR.out))).set _ _).set _ _)) HF.out HXi.out rfl
   | false =>
    go_enter Tryz.func119, Tryz.ntmps119
    go_wp2
    go_quiet (fail)
    go_wp2
    go_ret; rw [HC.out.1, HC.out.2]; refine ⟨rfl, HE.out _ ((bC.below (S := fun k => k = g) (kR _ _)).set (g := g) rfl _ _) ?_⟩; have h1 := (World.rowIs.of_block HR.out ((kR w nq).block _ (World.rowIs.lt HR.out))).set (i * 3 + 2) (.slice none 0 0)
    have h2 : (fun j => if j = i * 3 + 2 then Value.slice none 0 0 else f j) = (fun j => if j = i * 3 + 2 then Value.slice none 0 0 else if j = i * 3 + 1 then .slice x.ta x.tl.length x.tc else f j) := by
     funext j
     by_cases e : j = i * 3 + 1
     · subst e
       rw [if_neg (by omega), if_neg (by omega), if_pos rfl, HX.out]; exact HF.out i hi hi 1 _ rfl
     · simp [e]
    rw [h2] at h1; exact bI.lists (h := x) h1 HF.out HXi.out rfl
def mJ (k : Nat) (fr : Array Value) (b : Bk) (nm : ByteArray) (R : Bk -> Nat -> Bool -> Bk -> Int -> Prop) (w : World) : Prop :=
 ∀ (b' : Bk) (i : Nat) (f : Bool) (P z : Nat) (W : World), aS b = true -> lE b nm b' i f -> w.heap.size <= z -> z <= W.heap.size -> iX z P W b' nm i f -> Below w.heap.size w W ->
  Calls Tryz.prog k (#[.pointer (some ⟨P, 0, none⟩)] ++ fr) W fun e W' => ∃ b'' c, e = .returned (lF c) /\ R b' i f b'' c /\ iX z P W' b'' nm i f /\ bC (fun q => z <= q) W W'
def GL (b : Bk) (nm : ByteArray) (R : Bk -> Nat -> Bool -> Bk -> Int -> Prop) (z : Nat) (e : Ending) (w' : World) : Prop :=
 (aS b = false /\ e = .returned (.tuple #[Bk.val ⟨0, none, [], 0, none, [], 0⟩, .int .i64 1])) ∨
 (aS b = true /\ ∃ (b' : Bk) (i : Nat) (f : Bool) (b'' : Bk) (c : Int), lE b nm b' i f /\ R b' i f b'' c /\ e = .returned (.tuple #[b''.val, .int .i64 c]) /\ fT z w' b'')
def D5 (B8 : Nat) (b : Bk) (c : Int) (j : Nat) (v : Value) (_w : World) : Prop :=
 match j with
 | 0 => v = .pointer (some ⟨B8, 0, none⟩)
 | 1 => v = b.val
 | 2 => v = lF c
 | 3 => v = .int .i64 c
 | _ => True
theorem D5.zL {B8 : Nat} {b : Bk} {c : Int} (j : Nat) (v : Value) (w w' : World) (h : D5 B8 b c j v w) (_ : Below w.heap.size w w') : D5 B8 b c j v w' := h
set_option maxHeartbeats 8000000
theorem zU (v0 : Value) (b : Bk) (nm : ByteArray) (R : Bk -> Nat -> Bool -> Bk -> Int -> Prop) (w : World) (hC : mJ 67 #[v0] b nm R w) (hL : oG w) (hf : Xs 3 Fx.cells w b.fa b.fl) (hnf : b.fl.length <= 1048576) (hcf : b.fl.length <= b.fc) (hcf2 : b.fc <= 9223372036854775807) (hsf : ∀ f ∈ b.fl, f.n.size <= 9223372036854775807) (hh : Xs 3 Hx.cells w b.ha b.hl) (hnh : b.hl.length <= 1048576) (hg : ∀ h ∈ b.hl, h.In w /\ h.Fit) :
 Calls Tryz.prog 65 #[b.val, .string nm, .func (.func 67) #[] #[v0]] w fun e w' => GL b nm R w.heap.size e w' /\ Below w.heap.size w w' := by
 have hB0 : Below w.heap.size w ((w.alloc b.obj).alloc (.cells #[.int .i64 0, .slice none 0 0, .slice none 0 0] 29)) := aA (aA (br _ _) _) _; have A0 := (halq (w.alloc b.obj) (.cells #[.int .i64 0, .slice none 0 0, .slice none 0 0] 29) w.heap.size (by simp)).trans (wnq w b.obj); have R0 := wnq (w.alloc b.obj) (.cells #[.int .i64 0, .slice none 0 0, .slice none 0 0] 29); rw [wsa] at R0
 go_enter Tryz.func65, Tryz.ntmps65
 go_wp2_with fail
 obtain ⟨W0, hW0⟩ : ∃ W0, (w.alloc b.obj).alloc (.cells #[.int .i64 0, .slice none 0 0, .slice none 0 0] 29) = W0 := ⟨_, rfl⟩; rw [hW0] at hB0 A0 R0 ⊢; have hz1 : w.heap.size + 1 < W0.heap.size := (bH R0); clear hW0; refine (pZ b W0 (hf.zL hB0) hnf hcf hcf2 hsf (hh.zL hB0) hnh (fun h m => ⟨(hg h m).1.zL hB0, (hg h m).2⟩)).mono ?_; rintro e w1 ⟨rfl, hb1⟩; have N1 := aC hB0 hb1; have A1 := aY A0 hb1; have R1 := aY R0 hb1; have hs1 := hb1.size; clear A0 R0 hb1 hB0
 cases hbk : aS b with
 | false =>
  have HBK : Hid _ := hbk; have HR1 : Hid _ := R1; clear A1 R1 hbk; go_wp2_with fail
  refine (BI 1 w1 (hL.zL N1)).mono ?_; rintro e w2 ⟨rfl, hb2⟩; have N2 := aC N1 hb2; have R2 := aY HR1.out hb2; obtain ⟨r0, r1, r2⟩ := aJ R2; have rf : ∀ i, w2.frozen? ⟨w.heap.size + 1, i, none⟩ = false := fun i => by simp [World.frozen?, R2]
  clear R2 HR1 hb2; go_wp2_with fail
  have hN3 := ((N2.setCell (p := ⟨w.heap.size + 1, 0, none⟩) (by show w.heap.size <= w.heap.size + 1; omega) (.int .i64 0)).setCell (p := ⟨w.heap.size + 1, 1, none⟩) (by show w.heap.size <= w.heap.size + 1; omega) (.slice none 0 0)).setCell (p := ⟨w.heap.size + 1, 2, none⟩) (by show w.heap.size <= w.heap.size + 1; omega) (.slice none 0 0); exact bpr (v := .tuple #[Bk.val ⟨0, none, [], 0, none, [], 0⟩, .int .i64 1]) (by simp [results, Tryz.results65, go_sem, r0, r1, r2]) rfl ⟨.inl ⟨HBK.out, rfl⟩, hN3⟩
 | true =>
  have HBK : Hid _ := hbk; obtain ⟨k0, k1, k2⟩ := aJ A1
  have hh16 : b.hl.length <= 64 := by
   have := hbk; simp only [aS, gF, bat, dte] at this; omega
  have hasc : j3 Hx.n b.hl = true := by
   have := hbk; simp only [aS, iF, bP, bat] at this; exact this.2.2.2.1.2
  have HR1 : Hid _ := R1; clear A1 R1 hbk; go_wp2_with fail
  refine (D7 b nm w1 (hf.zL N1) hnf (hh.zL N1) hh16 (fun h m => ⟨(hg h m).1.zL N1, (hg h m).2⟩) hasc).mono ?_; rintro e w2 ⟨⟨b', i, f, rfl, hpg, hA⟩, hb2⟩; have hbx : Below w2.heap.size w2 (w2.alloc (PG b' nm i f)) := aA (br _ _) _; have P3 := wnq w2 (PG b' nm i f); have N3 := aC (aC N1 hb2) hbx; have HR3 : Hid _ := aY (aY HR1.out hb2) hbx; have hA3 := hA.zL hbx; have hs2 := hb2.size; obtain ⟨w3, hw3⟩ : ∃ w3, w2.alloc (PG b' nm i f) = w3 := ⟨_, rfl⟩; rw [hw3] at P3 N3 HR3 hA3; have hs3 : w2.heap.size < w3.heap.size := (bH P3); have HI : Hid (iX w1.heap.size w2.heap.size w3 b' nm i f) := ⟨P3, hA3, hs2⟩; have HPg : Hid _ := hpg; clear k0 k1 k2 hA hA3 P3 hbx hb2 N1 HR1 hpg hasc; go_wp2_with fail
  clear hw3; refine (hC b' i f w2.heap.size w1.heap.size w3 HBK.out HPg.out (by omega) (by omega) HI.out N3).mono ?_; rintro e w4 ⟨b'', c, rfl, hR, hI4, hb4⟩; have N4 := hb4.under N3 (nlq _) (fun q hq => by have hq' : w1.heap.size <= q := hq; omega); have HR4 : Hid _ := cA HR3.out hb4 (fun hq => by have hq' : w1.heap.size <= w.heap.size + 1 := hq; omega); have HI4 : Hid _ := hI4; have HRR : Hid _ := hR; clear hC HI HR3 N3 hI4 hb4 hR; go_wp2_with fail
  refine wpIn_wide.1 (aP (F := Fence.wide) (n := 0) (by kernel_rfl) 4 [some 21, some 22, some 23, some 24] (by decide) (D5 w2.heap.size b'' c) D5.zL (by kernel_rfl) (by kernel_rfl) (by kernel_rfl) ?step ?fin)
  case step =>
   intro i o vs w' hi' ho hB hd
   match i, hi' with
   | 0, _ | 2, _ =>
    simp at ho; subst ho; simp only [aE, Act.put]; gi_wp2; exact ⟨_, by simp [aH], rfl, br _ _⟩
   | 1, _ =>
    simp at ho; subst ho; have d0 : vs 0 = _ := Zq hd 0; have P5 := aY HI4.out.p hB; have k0 : w'.cell? ⟨w2.heap.size, 0, none⟩ = some (.int .i64 b''.now) := aK P5 rfl; have k1 : w'.cell? ⟨w2.heap.size, 1, none⟩ = some (.slice b''.fa b''.fl.length b''.fc) := aK P5 rfl; have k2 : w'.cell? ⟨w2.heap.size, 2, none⟩ = some (.slice b''.ha b''.hl.length b''.hc) := aK P5 rfl; clear P5; simp only [aE, Act.put]; rw [d0]; gi_wp2; exact ⟨_, by simp [aH, d0], rfl, br _ _⟩
   | 3, _ =>
    simp at ho; subst ho; have d2 : vs 2 = _ := Zq hd 2; simp only [aE, Act.put]; rw [d2]; gi_wp2_with fail
    refine ⟨trivial, rfl, ?_⟩; refine (cw.2 (NO c w' (hL.zL (aC N4 hB)))).mono ?_; rintro e w5 ⟨rfl, hb5⟩; gi_wp2; exact ⟨_, by simp [aH, d2], rfl, hb5⟩
   | j + 4, h => exact absurd h (by omega)
  case fin =>
   intro vs w5 hB hp; have d1 : vs 1 = _ := hp 1 (by decide); have d3 : vs 3 = _ := hp 3 (by decide); have N5 := aC N4 hB; have R5 := aY HR4.out hB; have HA5 : Hid _ := HI4.out.a.zL hB; obtain ⟨r0, r1, r2⟩ := aJ R5; have rf : ∀ i, w5.frozen? ⟨w.heap.size + 1, i, none⟩ = false := fun i => by simp [World.frozen?, R5]
   clear hp R5 HR4 hB N4; simp only [lds, List.drop_zero, aE, Act.put]; rw [d1, d3]; clear d1 d3; generalize vs 0 = v0; generalize vs 2 = v2; gi_wp2_with fail
   go_wp2_with fail
   have hS : bC (fun k => k = w.heap.size + 1) w5 (((w5.setCell ⟨w.heap.size + 1, 0, none⟩ (.int .i64 b''.now)).setCell ⟨w.heap.size + 1, 1, none⟩ (.slice b''.fa b''.fl.length b''.fc)).setCell ⟨w.heap.size + 1, 2, none⟩ (.slice b''.ha b''.hl.length b''.hc)) := (((bC.refl (fun k => k = w.heap.size + 1) w5).set (g := w.heap.size + 1) rfl _ _).set (g := w.heap.size + 1) rfl _ _).set (g := w.heap.size + 1) rfl _ _; have hA6 := (HA5.out.but hS (fun k hk => by rw [hk]; omega)).weak (z' := w.heap.size) (by omega); have hN6 := hS.under N5 (nlq _) (fun k hk => by rw [hk]; omega); exact bpr (v := .tuple #[b''.val, .int .i64 c]) (by simp [results, Tryz.results65, go_sem, r0, r1, r2]) rfl ⟨.inr ⟨HBK.out, b', i, f, b'', c, HPg.out, HRR.out, rfl, hA6⟩, hN6⟩
def PE (took : Bool) (b' : Bk) (i : Nat) (f : Bool) (b'' : Bk) (c : Int) : Prop := c = kD b' i f /\ b'' = lI b' i f took
end Go.Proofs.YtiojdbffjdoniaaGreatDoor
namespace Go.Proofs.YtiojdbffjdoniaaGreatDoor
set_option maxRecDepth 100000
set_option maxHeartbeats 1000000
open Go.RowKit
theorem sM (l : List Bx) (ao : Option Addr) (cap : Nat) (frm : Int) (w : World) (hl : iL w ao l) (hn : l.length <= 1048576) :
 Calls Tryz.prog 12 #[.slice ao l.length cap, .int .i64 frm] w fun e w' => ∃ v, e = .returned v /\ aF w' w.heap.size v (bD frm l) /\ Below w.heap.size w w' := by
 obtain ⟨i0, hi, hz0, hz1, hz2⟩ := info_parts Tryz.info89
 go_enter Tryz.func12, Tryz.ntmps12
 go_wp2
 go_loopw [5, 10] (fun v i wr => ∃ k : Nat, k <= l.length /\ i = .int .i64 k /\ wr.ownsRow w.heap.size 89 6 v (bD frm (l.take k)).length (fI (bD frm (l.take k))) /\ Below w.heap.size w wr) (fun _ i _ => l.length - (intOf i).toNat)
 case atStart => exact ⟨0, nz _, rfl, World.ownsRow_nil _ _ _ _, br _ _⟩
 case round =>
  obtain ⟨k, hk, rfl, hown, hN⟩ := hrel
  by_cases hlt : k < l.length
  · rcases hl with h | ⟨bl, off, rfl, hc⟩
    · subst h; simp at hlt
    · have hbx := (hc k hlt).zL hN
      have hlen := dV frm (l.take k); have hlt2 : (l.take k).length <= k := List.length_take_le _ _; have hts := wW l k hlt; obtain ⟨b, hbe⟩ : ∃ b, b = l[k] := ⟨_, rfl⟩; rw [← hbe] at hbx hts; have HT : Hid (l.take (k + 1) = l.take k ++ [b]) := hts; clear hbe hc hts; obtain ⟨c0, c1, c2, c3, c4, c5⟩ := hbx
      by_cases hout : frm <= b.o
      · by_cases hin : b.i < frm
        · go_wp2_with (at_builtin; refine wpList_append_own _ rfl (.tmp 23) (.tmp 25) 34 rfl w.heap.size 89 i0 _ 6 48 Tryz.underlying34 hi hz0 hz1 hz2 rfl (by decide) _ _ _ rfl ((hown.alloc _).alloc _) ⟨wr.heap.size + 1, 0, none⟩ 1 1 (aO { b with i := frm }) rfl rfl ?qc1 ?qc2 ?qc3 ?qc4 ?qc5 ?_)
          case qc1 => first | exact fun _ _ h => h | exact lB _ _ (by simp) { b with i := frm }
          case qc2 => exact iZ _
          case qc3 => unfold maxLen; omega
          case qc4 => omega
          case qc5 => have := hN.size; (try simp); omega
          intro v' w1 hown' hgrow _
          have hcut : bD frm (l.take (k + 1)) = bD frm (l.take k) ++ [{ b with i := frm }] := by
           rw [HT.out, gY _ _ _ hout, rD, show max b.i frm = frm from by omega]
          have HR : Hid (w1.ownsRow w.heap.size 89 6 v' (bD frm (l.take (k + 1))).length (fI (bD frm (l.take (k + 1))))) := by
           rw [hcut, eY, List.length_append]; exact hown'
          have hN1 : Below w.heap.size w w1 := ((hN.alloc hN.size _).alloc (by have := hN.size; simp; omega) _).grown hgrow (by have := hN.size; simp; omega) (fun q hq => iP hown hq); clear hcut hown hown' hgrow hN; go_wp2
          go_roundw
          case rel => exact ⟨k + 1, by omega, by go_num, HR.out, hN1⟩
          case measure => simp [intOf]; omega
        · go_wp2_with (at_builtin; refine wpList_append_own _ rfl (.tmp 23) (.tmp 25) 34 rfl w.heap.size 89 i0 _ 6 48 Tryz.underlying34 hi hz0 hz1 hz2 rfl (by decide) _ _ _ rfl ((hown.alloc _).alloc _) ⟨wr.heap.size + 1, 0, none⟩ 1 1 (aO b) rfl rfl ?qc1 ?qc2 ?qc3 ?qc4 ?qc5 ?_)
          case qc1 => first | exact fun _ _ h => h | exact lB _ _ (by simp) b
          case qc2 => exact iZ _
          case qc3 => unfold maxLen; omega
          case qc4 => omega
          case qc5 => have := hN.size; (try simp); omega
          intro v' w1 hown' hgrow _
          have hcut : bD frm (l.take (k + 1)) = bD frm (l.take k) ++ [b] := by
           rw [HT.out, gY _ _ _ hout, rD, show max b.i frm = b.i from by omega]
          have HR : Hid (w1.ownsRow w.heap.size 89 6 v' (bD frm (l.take (k + 1))).length (fI (bD frm (l.take (k + 1))))) := by
           rw [hcut, eY, List.length_append]; exact hown'
          have hN1 : Below w.heap.size w w1 := ((hN.alloc hN.size _).alloc (by have := hN.size; simp; omega) _).grown hgrow (by have := hN.size; simp; omega) (fun q hq => iP hown hq); clear hcut hown hown' hgrow hN; go_wp2
          go_roundw
          case rel => exact ⟨k + 1, by omega, by go_num, HR.out, hN1⟩
          case measure => simp [intOf]; omega
      · go_wp2
        go_roundw
        case rel => exact ⟨k + 1, by omega, by go_num, by rw [HT.out, l0 _ _ _ hout]; exact hown.alloc _, hN.alloc hN.size _⟩
        case measure => simp [intOf]; omega
  · go_wp2
    go_ret; refine ⟨_, rfl, aF.of_owns ?_, hN⟩; rw [ltl (by omega)] at hown; exact hown
theorem s4 (l : List Bx) (ao : Option Addr) (cap : Nat) (frm : Int) (w : World) (hl : iL w ao l) (hn : l.length <= 1048576) :
 Calls Tryz.prog 82 #[.slice ao l.length cap, .int .i64 frm] w fun e w' => ∃ v, e = .returned v /\ aF w' w.heap.size v (bD frm l) /\ Below w.heap.size w w' := by
 obtain ⟨i0, hi, hz0, hz1, hz2⟩ := info_parts Tryz.info89
 go_enter Tryz.func82, Tryz.ntmps82
 go_wp2
 go_loopw [5, 6] (fun v i wr => ∃ k : Nat, k <= l.length /\ i = .int .i64 k /\ wr.ownsRow w.heap.size 89 6 v (bD frm (l.take k)).length (fI (bD frm (l.take k))) /\ Below w.heap.size w wr) (fun _ i _ => l.length - (intOf i).toNat)
 case atStart => exact ⟨0, nz _, rfl, by simpa [bD, fI] using World.ownsRow_lit (base := w.heap.size) (e := 89) (size := 6) w #[] 0 (nlq _) (nz _) rfl, aA (br _ _) _⟩
 case round =>
  obtain ⟨k, hk, rfl, hown, hN⟩ := hrel
  by_cases hlt : k < l.length
  · rcases hl with h | ⟨bl, off, rfl, hc⟩
    · subst h; simp at hlt
    · have hbx := (hc k hlt).zL hN
      have hlen := dV frm (l.take k); have hlt2 : (l.take k).length <= k := List.length_take_le _ _; have hts := wW l k hlt; obtain ⟨b, hbe⟩ : ∃ b, b = l[k] := ⟨_, rfl⟩; rw [← hbe] at hbx hts; have HT : Hid (l.take (k + 1) = l.take k ++ [b]) := hts; clear hbe hc hts; obtain ⟨c0, c1, c2, c3, c4, c5⟩ := hbx
      by_cases hout : frm <= b.o
      · by_cases hin : b.i < frm
        · go_wp2_with (at_builtin; refine wpList_append_own _ rfl (.tmp 29) (.tmp 31) 34 rfl w.heap.size 89 i0 _ 6 48 Tryz.underlying34 hi hz0 hz1 hz2 rfl (by decide) _ _ _ rfl ((hown.alloc _).alloc _) ⟨wr.heap.size + 1, 0, none⟩ 1 1 (aO { b with i := frm }) rfl rfl ?qc1 ?qc2 ?qc3 ?qc4 ?qc5 ?_)
          case qc1 => first | exact fun _ _ h => h | exact lB _ _ (by simp) { b with i := frm }
          case qc2 => exact iZ _
          case qc3 => unfold maxLen; omega
          case qc4 => omega
          case qc5 => have := hN.size; (try simp); omega
          intro v' w1 hown' hgrow _
          have hcut : bD frm (l.take (k + 1)) = bD frm (l.take k) ++ [{ b with i := frm }] := by
           rw [HT.out, gY _ _ _ hout, rD, show max b.i frm = frm from by omega]
          have HR : Hid (w1.ownsRow w.heap.size 89 6 v' (bD frm (l.take (k + 1))).length (fI (bD frm (l.take (k + 1))))) := by
           rw [hcut, eY, List.length_append]; exact hown'
          have hN1 : Below w.heap.size w w1 := ((hN.alloc hN.size _).alloc (by have := hN.size; simp; omega) _).grown hgrow (by have := hN.size; simp; omega) (fun q hq => iP hown hq); clear hcut hown hown' hgrow hN; go_wp2
          go_roundw
          case rel => exact ⟨k + 1, by omega, by go_num, HR.out, hN1⟩
          case measure => simp [intOf]; omega
        · go_wp2_with (at_builtin; refine wpList_append_own _ rfl (.tmp 29) (.tmp 31) 34 rfl w.heap.size 89 i0 _ 6 48 Tryz.underlying34 hi hz0 hz1 hz2 rfl (by decide) _ _ _ rfl ((hown.alloc _).alloc _) ⟨wr.heap.size + 1, 0, none⟩ 1 1 (aO b) rfl rfl ?qc1 ?qc2 ?qc3 ?qc4 ?qc5 ?_)
          case qc1 => first | exact fun _ _ h => h | exact lB _ _ (by simp) b
          case qc2 => exact iZ _
          case qc3 => unfold maxLen; omega
          case qc4 => omega
          case qc5 => have := hN.size; (try simp); omega
          intro v' w1 hown' hgrow _
          have hcut : bD frm (l.take (k + 1)) = bD frm (l.take k) ++ [b] := by
           rw [HT.out, gY _ _ _ hout, rD, show max b.i frm = b.i from by omega]
          have HR : Hid (w1.ownsRow w.heap.size 89 6 v' (bD frm (l.take (k + 1))).length (fI (bD frm (l.take (k + 1))))) := by
           rw [hcut, eY, List.length_append]; exact hown'
          have hN1 : Below w.heap.size w w1 := ((hN.alloc hN.size _).alloc (by have := hN.size; simp; omega) _).grown hgrow (by have := hN.size; simp; omega) (fun q hq => iP hown hq); clear hcut hown hown' hgrow hN; go_wp2
          go_roundw
          case rel => exact ⟨k + 1, by omega, by go_num, HR.out, hN1⟩
          case measure => simp [intOf]; omega
      · go_wp2
        go_roundw
        case rel => exact ⟨k + 1, by omega, by go_num, by rw [HT.out, l0 _ _ _ hout]; exact hown.alloc _, hN.alloc hN.size _⟩
        case measure => simp [intOf]; omega
  · go_wp2
    go_ret; refine ⟨_, rfl, aF.of_owns ?_, hN⟩; rw [ltl (by omega)] at hown; exact hown
end Go.Proofs.YtiojdbffjdoniaaGreatDoor
