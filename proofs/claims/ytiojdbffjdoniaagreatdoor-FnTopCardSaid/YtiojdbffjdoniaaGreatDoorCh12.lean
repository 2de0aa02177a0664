import Derived.Test.YtiojdbffjdoniaaGreatDoorCh6
import Derived.Test.YtiojdbffjdoniaaGreatDoorWp
namespace Go.Proofs.YtiojdbffjdoniaaGreatDoor
set_option maxRecDepth 100000
set_option maxHeartbeats 8000000
open Go.RowKit Go.Shelf
attribute [local go_sem] Oper.semAt_some
theorem FQ (P : Program) (w : World) (a : Addr) (m : Mode) (f : Fn) (ts : Array Value) (c : Array Value) : (store a (.func f ts c) m).run P w = stored P w a (.func f ts c) m := run_store P w a _ m rfl
attribute [local go_sem] FQ
abbrev uB (z : Nat) : Obj := .cells #[.func (.func 233) #[] #[.pointer (some ⟨z + 3, 0, none⟩), .pointer (some ⟨z, 0, none⟩), .pointer (some ⟨z + 1, 0, none⟩)]] 298
def CK (w w' : World) : Prop := ∀ p v, w.cell? p = some v -> w'.cell? p = some v
theorem aU.ck {w w' : World} (h : aU (fun _ => False) w w') : CK w w' := fun _ _ hv => h.cell (fun e => e) hv
theorem Xs.ck {α : Type} {m : Nat} {f : α -> List Value} {w w' : World} {a : Option Addr} {l : List α} (h : Xs m f w a l) (c : CK w w') : Xs m f w' a l := by
 rcases h with h | ⟨bl, off, e, hc⟩
 · exact .inl h
 · exact .inr ⟨bl, off, e, fun k hk j v hj => c _ _ (hc k hk j v hj)⟩
theorem iH.ck {w w' : World} {a : Option Addr} {l : List Bx} (h : iH w a l) (c : CK w w') : iH w' a l := by
 rcases h with h | ⟨bl, off, e, hc⟩
 · exact .inl h
 · refine .inr ⟨bl, off, e, fun k hk => ?_⟩
   obtain ⟨h0, h1, h2, h3, h4, h5⟩ := hc k hk;exact ⟨c _ _ h0, c _ _ h1, c _ _ h2, c _ _ h3, c _ _ h4, c _ _ h5⟩
theorem dY.ck {w w' : World} {b : Bk} (h : dY w b) (c : CK w w') : dY w' b :=
 ⟨h.hf.ck c, h.hnf, h.hcap, h.hc2, h.hs, h.hh.ck c, h.hnh, fun x hx => ⟨⟨(h.hgood x hx).1.1.ck c, (h.hgood x hx).1.2.ck c⟩, (h.hgood x hx).2⟩⟩
theorem iA.ck {w w' : World} {x : Wx} (h : iA w x) (c : CK w w') : iA w' x := ⟨⟨h.hi.ws.ck c, fun y m => Xs.ck (h.hi.yn y m) c, h.hi.ls.ck c⟩, h.hf, h.hc⟩
def RW (o : Obj) : Prop := ∃ cs, o = .cells cs 74 ∨ o = .cells cs 191
def XC (z k : Nat) (o : Obj) : Prop := z <= k /\ RW o
theorem PN (a : Array Value) (t : Nat) (h1 : t ≠ 74) (h2 : t ≠ 191) {z k : Nat} : ¬ XC z k (.cells a t) := by
 rintro ⟨_, cs, e | e⟩
 · injection e with _ e;exact h1 e
 · injection e with _ e;exact h2 e
theorem dD.cell {X : Nat -> Obj -> Prop} {A A' : World} (h : dD X A A') {p : Addr} {v : Value} (hx : ∀ o, ¬ X p.block o) (hc : A.cell? p = some v) : A'.cell? p = some v := by
 obtain ⟨o, ho, hoc⟩ := cells_of_cell hc;have h' := h.c _ _ (hx o) ho hoc;unfold World.cell? at hc ⊢;rw [ho] at hc;rw [h'];exact hc
theorem OW {w0 A A' : World} (h0 : Below w0.heap.size w0 A) (h : dD (XC w0.heap.size) A A') : CK w0 A' := fun p v hv =>
 h.cell (p := p) (fun o e => by have := aA hv;have := e.1;omega) ((h0.cell (aA hv)).trans hv)
theorem lQ.keep {z : Nat} {most : Int} {P : Int -> Prop} {v : Value} {w w' : World} (h : lQ most P v w) (hk : dD (XC z) w w') : lQ most P v w' := by
 obtain ⟨ao, cap, l, h1, h2, h3, h4⟩ := h;refine ⟨ao, cap, l, h1, ?_, h3, h4⟩
 rcases h2.2 with e | ⟨bl, off, cs, e, ho⟩
 · exact ⟨.inl e, .inl e⟩
 · have ho' := hk.c bl _ (PN _ _ (by decide) (by decide)) ho rfl
   refine ⟨?_, .inr ⟨bl, off, cs, e, ho'⟩⟩
   rcases h2.1 with e2 | ⟨bl2, off2, e2, hc⟩
   · exact .inl e2
   · rw [e] at e2
     cases e2
     refine .inr ⟨bl, off, e, fun k hk j u hj => ?_⟩;have := hc k hk j u hj;unfold World.cell? at this ⊢;simp only [ho, ho'] at this ⊢;exact this
theorem mJ.turn {z z0 : Nat} {b : Bk} {x : Wx} {w w' : World} (h : mJ z b x w) (hk : dD (XC z0) w w') (hm : ∀ o, w.heap[z + 2]? = some o -> o.isCells = false -> w'.heap[z + 2]? = some o) : mJ z b x w' := by
 obtain ⟨h1, h2, h3, es, c, h4, h5⟩ := h;exact ⟨hk.c _ _ (PN _ _ (by decide) (by decide)) h1 rfl, hk.c _ _ (PN _ _ (by decide) (by decide)) h2 rfl, hk.c _ _ (PN _ _ (by decide) (by decide)) h3 rfl, es, c, hm _ h4 rfl, fun e m => by obtain ⟨i, k, g1, g2⟩ := h5 e m;exact ⟨i, k, g1, g2.keep hk⟩⟩
theorem i8.keepX {m : Nat} {w w' : World} {o : Obj} (h : i8 m w w') (hm : w.heap[m]? = some o) (ho : o.isCells = false) {X : Nat -> Prop} : aU X w w' :=
 ⟨h.size, fun k u _ hk hu => (h.block k (bP hk) (fun e => by subst e;rw [hm] at hk;cases hk;rw [ho] at hu;cases hu)).trans hk⟩
theorem i8.grown {m : Nat} {w w' : World} (h : i8 m w w') : w.grownBy w' (some m) := ⟨h.os, h.tape, h.output, h.size, fun k hk hm => h.block k hk (fun e => hm (by rw [e]))⟩
theorem jT {X : Nat -> Prop} {A A' : World} {row : Option Nat} (hg : A.grownBy A' row) (hr : ∀ r, row = some r -> ∃ o : Obj, A.heap[r]? = some o /\ o.isCells = false) : aU X A A' :=
 ⟨hg.size, fun k o _ hk ho => (hg.block k (bP hk) (fun e => by obtain ⟨u, hu, hc⟩ := hr k e.symm;rw [hk] at hu;cases hu;rw [ho] at hc;cases hc)).trans hk⟩
theorem mJ.own {β : Type} {B z : Nat} {b : Bk} {x : Wx} (hz : z + 3 < B) : OwnFrom B (fun (_ : β) W => mJ z b x W) := fun _ A A' row hs hg hr =>
 hs.turn (z0 := 0) (dD.of_keepX (jT hg (fun r e => (hr r e).2))) (fun o ho _ => (hg.block _ (bP ho) (fun e => by have := (hr _ e.symm).1;omega)).trans ho)
theorem vW {β : Type} {B : Nat} {X : Nat -> Obj -> Prop} {A : World} : OwnFrom B (fun (_ : β) W => dD X A W) := fun _ _ _ _ hs hg hr => hs.trans (dD.of_keepX (jT hg (fun r e => (hr r e).2)))
def qB (b : Bk) (x : Wx) {L : Nat} (c : OZ L) : Bool := pK b x c.1.d c.1.i c.1.k
theorem oW {w : World} {b : Bk} (h : dY w b) (v : Bool) (hv : aO b = v) : Calls Tryz.prog 9 #[b.val] w fun e w' => e = .returned (.bool v) /\ Below w.heap.size w w' :=
 yF (h.with (t := []) (ta := none) (.inl rfl) (by simp)) v hv
def AY (b : Bk) (x : Wx) : List (OZ x.l.toNat) := if aO b && dH b.fl x then (iZ x.l.toNat x.wl.length x.ll.length (x.l.toNat + 1)).filter (qB b x) else []
def NC (b : Bk) (x : Wx) : Nat := if dH b.fl x then (iZ x.l.toNat x.wl.length x.ll.length (x.l.toNat + 1)).length else 0
theorem IT {fl : List Fx} {x : Wx} (h : dH fl x = true) : 0 <= x.f /\ 0 <= x.q := by
 simp only [dH, mS, bat, dte] at h;omega
theorem JZ {b : Bk} (h : aO b = true) : 0 <= b.now /\ b.now <= 10000 := by
 simp only [aO, mD, bat, dte] at h;omega
theorem rJ (n : Nat) (hn : 9 <= n) (b : Bk) (x : Wx) (Bb Bx : Nat) (w0 w : World) (hw0 : Below w0.heap.size w0 w) (hBb : w0.heap[Bb]? = some b.obj) (hBx : w0.heap[Bx]? = some x.obj) (hb : dY w0 b) (hx : iA w0 x) :
 QL Fence.wide n Tryz.prog 220 #[.pointer (some ⟨Bb, 0, none⟩), .pointer (some ⟨Bx, 0, none⟩)] (fun c : OZ x.l.toNat => #[c.1.val]) (dD (XC w0.heap.size)) (fun ys => ys = AY b x) (fun pre => pre <+: AY b x) (NC b x) w := fun lp J Jx W hW hJ hJx hY h0 => by
 have h1 : 1 <= n := by omega
 have hW := aD hw0 hW;have B0 := (hW.block Bb (bP hBb)).trans hBb;have X0 := (hW.block Bx (bP hBx)).trans hBx;have hB1 : Below W.heap.size W (W.alloc (.cells #[.func (.yield lp) #[] #[]] 298)) := aB (br _ _) _;have Y0 := wnq W (.cells #[.func (.yield lp) #[] #[]] 298);have B1 := (hB1.block _ (bP B0)).trans B0;have X1 := (hB1.block _ (bP X0)).trans X0;have k0 : (W.alloc (.cells #[.func (.yield lp) #[] #[]] 298)).cell? ⟨Bb, 0, none⟩ = some (.int .i64 b.now) := aH B1 rfl;have k1 : (W.alloc (.cells #[.func (.yield lp) #[] #[]] 298)).cell? ⟨Bb, 1, none⟩ = some (.slice b.fa b.fl.length b.fc) := aH B1 rfl;have k2 : (W.alloc (.cells #[.func (.yield lp) #[] #[]] 298)).cell? ⟨Bb, 2, none⟩ = some (.slice b.ha b.hl.length b.hc) := aH B1 rfl;obtain ⟨v1, g1⟩ : ∃ v, aO b = v := ⟨_, rfl⟩;obtain ⟨v2, g2⟩ : ∃ v, dH b.fl x = v := ⟨_, rfl⟩;obtain ⟨T, hT⟩ : ∃ T, T = AY b x := ⟨_, rfl⟩;rw [← hT];have HT : Hid (T = if v1 && v2 then (iZ x.l.toNat x.wl.length x.ll.length (x.l.toNat + 1)).filter (qB b x) else []) := by rw [Hid, hT, AY, g1, g2]
 have G1 : Hid _ := g1;have G2 : Hid _ := g2;clear hT g1 g2;refine callsIn_of_wp_marks Tryz.func220 rfl trivial ?_ rfl;simp only [Tryz.ntmps220, lsz, llc, lln, Nat.reduceAdd, Nat.reduceSub, ars, arz, lpt, lap, lna, lca];gi_wp2_with fail
 refine ⟨trivial, ?_⟩;obtain ⟨W1, hW1⟩ : ∃ W1, W.alloc (.cells #[.func (.yield lp) #[] #[]] 298) = W1 := ⟨_, rfl⟩;rw [hW1] at hB1 Y0 B1 X1 k0 k1 k2 ⊢;clear hW1 k0 k1 k2;have hbW := hb.zL hW;have hxW := hx.zL hW;refine (cw.2 (oW (hbW.zL hB1) v1 G1.out)).mono ?_;rintro e W2 ⟨rfl, hb2⟩;have N2 := aD hB1 hb2;have hJ2 : J [] W2 := hJ _ _ _ none h0 (eQ N2) (fun r e => by cases e);have Y2 := (hb2.block _ (bP Y0)).trans Y0;have B2 := (hb2.block _ (bP B1)).trans B1;have X2 := (hb2.block _ (bP X1)).trans X1;clear B0 X0 B1 X1 Y0 hB1 hb2
 cases v1 with
 | false =>
  gi_wp2_with fail
  refine ⟨trivial, ?_⟩;gi_wp2;exact ⟨_, results_none rfl _ _ _, ⟨_, rfl⟩, .inl ⟨_, rfl, by rw [HT.out];exact hJ2⟩⟩
 | true =>
 have k1 : W2.cell? ⟨Bb, 1, none⟩ = some (.slice b.fa b.fl.length b.fc) := aH B2 rfl;obtain ⟨q0, q1, q2, q3, q4, q5, q6, q7⟩ := fQ X2;have hbW2 := hbW.zL N2;have hxW2 := hxW.zL N2;gi_wp2_with fail
 refine ⟨trivial, ?_⟩;refine (cw.2 (pU b.fl x b.fa b.fc W2 hbW2.hf hbW2.hnf hbW2.hcap hbW2.hc2 hbW2.hs hxW2.hi hxW2.hf)).mono ?_;rintro e W3 ⟨rfl, hb3⟩;rw [G2.out];have N3 := aD N2 hb3;have hJ3 : J [] W3 := hJ _ _ _ none h0 (eQ N3) (fun r e => by cases e);have Y3 := (hb3.block _ (bP Y2)).trans Y2;have B3 := (hb3.block _ (bP B2)).trans B2;have X3 := (hb3.block _ (bP X2)).trans X2;clear Y2 B2 X2 hJ2 k1 q0 q1 q2 q3 q4 q5 q6 q7 N2 hb3 hbW2 hxW2
 cases v2 with
 | false =>
  gi_wp2;exact ⟨_, results_none rfl _ _ _, ⟨_, rfl⟩, .inl ⟨_, rfl, by rw [HT.out];exact hJ3⟩⟩
 | true =>
 obtain ⟨k0, k1, k2⟩ := aJ B3;obtain ⟨q0, q1, q2, q3, q4, q5, q6, q7⟩ := fQ X3;gi_wp2_with fail
 refine ⟨trivial, ?_⟩;refine (cw.2 (FG b x W3)).mono ?_;rintro e W4 ⟨rfl, hb4, hF4⟩;have X4 := (hb4.block _ (bP X3)).trans X3;have Y4 := (hb4.block _ (bP Y3)).trans Y3;clear k0 k1 k2 q0 q1 q2 q3 q4 q5 q6 q7;have N4 := aD N3 hb4;have hb5 : Below W4.heap.size W4 (W4.alloc (uB W3.heap.size)) := aB (br _ _) _;have X5 := (hb5.block _ (bP X4)).trans X4;have Y5 := (hb5.block _ (bP Y4)).trans Y4;have F5 := wnq W4 (uB W3.heap.size);have hF5 := hF4.zL hb5;have N5 := aD N4 hb5;have q0 : (W4.alloc (uB W3.heap.size)).cell? ⟨Bx, 0, none⟩ = some (.string x.n) := aH X5 rfl;have q1 : (W4.alloc (uB W3.heap.size)).cell? ⟨Bx, 1, none⟩ = some (.int .i64 x.q) := aH X5 rfl;have q2 : (W4.alloc (uB W3.heap.size)).cell? ⟨Bx, 2, none⟩ = some (.int .i64 x.s) := aH X5 rfl;have q3 : (W4.alloc (uB W3.heap.size)).cell? ⟨Bx, 3, none⟩ = some (.int .i64 x.f) := aH X5 rfl;have q4 : (W4.alloc (uB W3.heap.size)).cell? ⟨Bx, 4, none⟩ = some (.int .i64 x.b) := aH X5 rfl;have q5 : (W4.alloc (uB W3.heap.size)).cell? ⟨Bx, 5, none⟩ = some (.int .i64 x.l) := aH X5 rfl;have q6 : (W4.alloc (uB W3.heap.size)).cell? ⟨Bx, 6, none⟩ = some (.slice x.wa x.wl.length x.wc) := aH X5 rfl;have q7 : (W4.alloc (uB W3.heap.size)).cell? ⟨Bx, 7, none⟩ = some (.slice x.la x.ll.length x.lc) := aH X5 rfl;have hz3 : W.heap.size <= W3.heap.size := N3.size;have hz34 : W3.heap.size + 4 <= W4.heap.size := (bP hF4.hc);clear X4 Y4 hF4 hb4 X3 B3 Y3 hJ3 N4;gi_wp2_with fail
 refine ⟨trivial, ?_⟩;obtain ⟨W5, hW5⟩ : ∃ W5, W4.alloc (uB W3.heap.size) = W5 := ⟨_, rfl⟩;rw [hW5] at hb5 X5 Y5 F5 hF5 N5 ⊢;clear q0 q1 q2 q3 q4 q5 q6 q7 hW5;refine (cw.2 (wC x W5)).mono ?_;rintro e W6 ⟨rfl, hb6, C6⟩;have Y6 := (hb6.block _ (bP Y5)).trans Y5;have F6 := (hb6.block _ (bP F5)).trans F5;have hF6 := hF5.zL hb6;have N6 := aD N5 hb6;have hJ6 : J [] W6 := hJ _ _ _ none h0 (eQ N6) (fun r e => by cases e);have hz6 : W4.heap.size < W6.heap.size := (bP F6);obtain ⟨hwl, hll, hl0, hl1⟩ := vO G2.out;obtain ⟨hxf, hxq⟩ := IT G2.out;obtain ⟨hn0, hn1⟩ := JZ G1.out;have HLL : Hid (x.l = (x.l.toNat : Int)) := by rw [Hid];omega
 have h06 := aD hW N6;clear X5 Y5 F5 hF5 N5 hb5 hb6;gi_wp2_with fail
 refine wpIn_rangeFunc_ownH rfl h1 (gf := 236) (lb := #[.pointer (some ⟨W5.heap.size, 0, none⟩)]) rfl trivial (enters_of Tryz.func236 (by kernel_rfl) rfl)
  (tQ (n - 1) W5.heap.size x.l.toNat x HLL.out (by omega) hx.hf (dD (XC w0.heap.size)) (fun _ _ h e => h.c _ _ (PN _ _ (by decide) (by decide)) e rfl) W6 C6)
  GF (NR) (br _ _) (fun _ => rfl)
  (fun pre W' => J (pre.filter (qB b x)) W' /\ dD (XC w0.heap.size) W6 W' /\ mJ W3.heap.size b x W')
  (fun c pre W' => c = .ret /\ Jx (pre.filter (qB b x)) W')
  ?hI ?hIx ⟨hJ6, dD.refl _ _, hF6⟩
  (fun y a' W' => ∃ B1, W'.heap[B1]? = some y.1.obj /\ a' = { tmps := #[.func (.yield lp) #[] #[], .pointer (some ⟨Bb, 0, none⟩), .pointer (some ⟨Bx, 0, none⟩), .pointer (some ⟨W.heap.size, 0, none⟩), .pointer (some ⟨W4.heap.size, 0, none⟩), .pointer (some ⟨B1, 0, none⟩), b.val, .bool true, .bool false, .bool false, .pointer (some ⟨Bb, 1, none⟩), .slice b.fa b.fl.length b.fc, x.val, .bool true, .bool false, .bool false, b.val, x.val,
   .func (.func 233) #[] #[.pointer (some ⟨W3.heap.size + 3, 0, none⟩), .pointer (some ⟨W3.heap.size, 0, none⟩), .pointer (some ⟨W3.heap.size + 1, 0, none⟩)], x.val, .func (.func 236) #[] #[.pointer (some ⟨W5.heap.size, 0, none⟩)], y.1.val, undef, undef, undef, undef, undef, undef, undef, undef, undef], defers := [] })
  ?hAx ?assign ?body ?done ?stop
 case hI =>
  refine OwnFrom.and (fun s A A' row hs hg hr => (OwnFrom.mono hJ (by omega)) _ A A' row hs hg hr) (OwnFrom.and vW (mJ.own (by omega)))
 case hIx => exact fun c => OwnFrom.and (ownFrom_pure _ _) (fun s A A' row hs hg hr => (OwnFrom.mono hJx (by omega)) _ A A' row hs hg hr)
 case hAx =>
  rintro y a' _ A A' row ⟨B1, e1, e3⟩ hg hr;exact ⟨B1, (jT (X := fun _ => False) hg (fun r e => (hr r e).2)).c _ _ (fun e => e) e1 rfl, e3⟩
 case assign =>
  rintro l2 pre y W' K ⟨hj, hk, hF⟩ hK;gi_wp2;have ha : Below W'.heap.size W' (W'.alloc y.1.obj) := aB (br _ _) _;exact hK _ _ ((KeepsOthers.alloc _ _).from _) (dD.of_below ha) ⟨hJ.alloc _ hj, hk.trans (dD.of_below ha), hF.zL ha⟩ ⟨W'.heap.size, wnq W' y.1.obj, rfl⟩
 case body =>
  rintro l2 pre y a' W' hl2 ⟨r, hr⟩ ⟨hj, hk, hF⟩ ⟨B1, e1, rfl⟩ hlt';have cF : W'.cell? ⟨W4.heap.size, 0, none⟩ = some (.func (.func 233) #[] #[.pointer (some ⟨W3.heap.size + 3, 0, none⟩), .pointer (some ⟨W3.heap.size, 0, none⟩), .pointer (some ⟨W3.heap.size + 1, 0, none⟩)]) := aH (hk.c _ _ (PN _ _ (by decide) (by decide)) F6 rfl) rfl;obtain ⟨c0, c1, c2⟩ := aJ e1;have h1' : 1 <= n - 1 - 1 := by omega
  have hyd := y.2;have HY : Hid _ := hY;clear hY;gi_wp2_with fail
  refine ⟨trivial, ?_⟩;refine (CallsIn.inRound l2 (EI (n - 1 - 1 - 1) (by omega) W3.heap.size b x y.1.d y.1.i y.1.k W' hF (hb.ck (OW h06 hk)) (hx.ck (OW h06 hk)) G1.out hn0 hn1 hl0 hl1 hxf hxq hyd.1 (Int.le_trans hyd.2 (Int.le_of_eq HLL.out.symm)))).mono ?_;rintro e Wq ⟨rfl, hBut, hFq⟩;obtain ⟨es, ck, hmo, _⟩ := hF.hm;have hkq : aU (fun _ => False) W' Wq := hBut.keepX hmo rfl;have hfq : KeepsFrom W6.heap.size W' Wq := ⟨hBut.size, fun k o hk6 hh _ => (hBut.block k (bP hh) (by omega)).trans hh⟩;have hjq : J (pre.filter (qB b x)) Wq := hJ _ _ _ (some (W3.heap.size + 2)) hj hBut.grown (fun r e => by cases e;exact ⟨by omega, _, hmo, rfl⟩);have hkp : dD (XC w0.heap.size) W' Wq := dD.of_keepX hkq;have hkW : dD (XC w0.heap.size) W6 Wq := hk.trans hkp;obtain ⟨v, hv⟩ : ∃ v, pK b x y.1.d y.1.i y.1.k = v := ⟨_, rfl⟩;have hov : qB b x y = v := hv;rw [hv];have cY : Wq.cell? ⟨W.heap.size, 0, none⟩ = some (.func (.yield lp) #[] #[]) := aH (hkW.c _ _ (PN _ _ (by decide) (by decide)) Y6 rfl) rfl;obtain ⟨d0, d1, d2⟩ := aJ (hkq.c _ _ (fun e => e) e1 rfl);clear hF hj hk cF c0 c1 c2 hBut hmo hv
  cases v with
  | true =>
   have hf : (pre ++ [y]).filter (qB b x) = pre.filter (qB b x) ++ [y] := by simp [List.filter_append, hov]
   obtain ⟨fn, tmps, assign, body, hy, hR⟩ := HY.out (pre.filter (qB b x)) y Wq hjq (by rw [NC, if_pos G2.out];exact Nat.lt_of_le_of_lt (List.length_filter_le _ _) hlt');have HR := hR;have HFf : Hid _ := hf;clear hR HY hov hf;gi_wp2_with fail
   refine RoundIn.mono (oP l2 (nO rfl HR)) ?_;clear HR hy d0 d1 d2
   rintro e Wr ⟨hkf, ⟨rfl, hJ3, hk3⟩ | ⟨rfl, hJx3⟩⟩
   · gi_wp2
     exact ⟨hfq.trans (KeepsFrom.mono hkf (by omega)), hkp.trans hk3, by rw [HFf.out];exact hJ3, hkW.trans hk3, hFq.turn hk3 (fun o ho hc => hkf.same _ _ (by omega) ho hc)⟩
   · gi_wp2
     exact ⟨hfq.trans (KeepsFrom.mono hkf (by omega)), rfl, by rw [HFf.out];exact hJx3⟩
  | false =>
   have hf : (pre ++ [y]).filter (qB b x) = pre.filter (qB b x) := by simp [List.filter_append, hov]
   have HFf : Hid _ := hf;clear HY hov hf;gi_wp2_with fail
   refine ⟨fun _ h => (by cases h), ?_⟩;gi_wp2;exact ⟨hfq, hkp, by rw [HFf.out];exact hjq, hkW, hFq⟩
 case done =>
  rintro D zs W' hD rfl ⟨hj, hk, hF⟩ hK;gi_wp2;refine ⟨by simp, .inl ⟨_, _, rfl, run_takeDeferred hK, ?_⟩⟩;exact ⟨_, results_none rfl _ _ _, ⟨_, rfl⟩, .inl ⟨_, rfl, by rw [HT.out];exact hJ.putObj _ hj (by omega) hK rfl⟩⟩
 case stop =>
  rintro D c pre W' hD hq ⟨rfl, hj⟩ hK;gi_wp2;refine ⟨by simp, .inl ⟨_, _, rfl, run_takeDeferred hK, ?_⟩⟩;exact ⟨_, results_none rfl _ _ _, ⟨_, rfl⟩, .inr ⟨_, by rw [HT.out];exact hq.filter _, hJx.putObj _ hj (by omega) hK rfl⟩⟩
end Go.Proofs.YtiojdbffjdoniaaGreatDoor
namespace Go.Proofs.YtiojdbffjdoniaaGreatDoor
set_option maxRecDepth 100000
set_option maxHeartbeats 8000000
open Go.RowKit Go.Shelf
attribute [local go_sem] Oper.semAt_some
theorem DE (b : Bk) (x : Wx) {L d : Nat} (h : d <= L) (i : Nat) : ∀ k, ((rT L d i k).filter (qB b x)).map (·.1) = j7 b x (d : Int) (i : Int) k
 | 0 => rfl
 | k + 1 => by
  rw [nX, List.filter_append, List.map_append, DE b x h i k]
  cases hc : pK b x (d : Int) (i : Int) (k : Int) with
  | true =>
   have hq : qB b x (AX L d i k) = true := by rw [qB, tE i k h];exact hc
   rw [BR hc];simp [hq, tE i k h]
  | false =>
   have hq : qB b x (AX L d i k) = false := by rw [qB, tE i k h];exact hc
   rw [GA hc];simp [hq]
theorem CE (b : Bk) (x : Wx) {L d : Nat} (h : d <= L) : ∀ i, ((rL L x.ll.length d i).filter (qB b x)).map (·.1) = kS b x (d : Int) i
 | 0 => rfl
 | i + 1 => by rw [n6, List.filter_append, List.map_append, CE b x h i, DE b x h i, rG]
theorem wZ (b : Bk) (x : Wx) {L : Nat} : ∀ n, n <= L + 1 -> ((iZ L x.wl.length x.ll.length n).filter (qB b x)).map (·.1) = fW b x n
 | 0, _ => rfl
 | n + 1, h => by rw [lV, List.filter_append, List.map_append, wZ b x n (by omega), CE b x (by omega), pJ]
theorem L6 (b : Bk) (x : Wx) : (AY b x).map (·.1) = tF b x := by
 unfold AY tF
 split
 · exact wZ b x _ (nlq _)
 · rfl
theorem AT (n : Nat) (hn : 10 <= n) (b : Bk) (x : Wx) (w : World) (hb : dY w b) (hx : iA w x) :
 CallsIn Fence.wide n Tryz.prog 156 #[b.val, x.val] w fun e w' => e = .returned (eH (tF b x)) /\ Below w.heap.size w w' := by
 have h1 : 1 <= n := by omega
 rw [← L6];have hB0 : Below w.heap.size w ((((w.alloc b.obj).alloc x.obj).alloc (gU 0 0 0)).alloc (.cells #[.bool false] 4)) := aB (aB (aB (aB (br _ _) _) _) _) _;have R0 := (halq (((w.alloc b.obj).alloc x.obj).alloc (gU 0 0 0)) (.cells #[.bool false] 4) _ (by simp)).trans (wnq ((w.alloc b.obj).alloc x.obj) (gU 0 0 0));have S0 := wnq (((w.alloc b.obj).alloc x.obj).alloc (gU 0 0 0)) (.cells #[.bool false] 4);simp only [wsa] at R0 S0;refine callsIn_of_wp_marks Tryz.func156 rfl trivial ?_ rfl;simp only [Tryz.ntmps156, lsz, llc, lln, Nat.reduceAdd, Nat.reduceSub, ars, arz, lpt, lap, lna, lca];gi_wp2_with fail
 refine ⟨trivial, ?_⟩;obtain ⟨W0, hW0⟩ : ∃ W0, (((w.alloc b.obj).alloc x.obj).alloc (gU 0 0 0)).alloc (.cells #[.bool false] 4) = W0 := ⟨_, rfl⟩;rw [hW0] at hB0 R0 S0 ⊢;clear hW0;refine (cw.2 (s3 b x W0)).mono ?_;rintro e W1 ⟨rfl, hb1, hBb, hBx⟩;have N1 := aD hB0 hb1;have R1 := (hb1.block _ (bP R0)).trans R0;have S1 := (hb1.block _ (bP S0)).trans S0;have hz1 : w.heap.size + 3 < W1.heap.size := (bP S1);clear R0 S0 hb1 hB0;gi_wp2_with fail
 refine oG rfl h1 (gf := 220) (lb := #[.pointer (some ⟨W0.heap.size, 0, none⟩), .pointer (some ⟨W0.heap.size + 1, 0, none⟩)]) rfl trivial (enters_of Tryz.func220 (by kernel_rfl) rfl)
  (rJ (n - 1) (by omega) b x W0.heap.size (W0.heap.size + 1) W1 W1 (br _ _) hBb hBx (hb.zL N1) (hx.zL N1)) (br _ _) GF (fun o' ho hc => dD.putObj o' ho hc) (fun _ => rfl)
  (fun pre W' => pre = [] /\ Below w.heap.size w W' /\ aU (fun _ => False) W1 W')
  (fun c pre W' => c = .ret /\ ∃ y, pre = [y] /\ Below w.heap.size w W' /\ W'.cell? ⟨w.heap.size + 1 + 1, 0, none⟩ = some (.int .i64 y.1.d) /\ W'.cell? ⟨w.heap.size + 1 + 1, 1, none⟩ = some (.int .i64 y.1.i) /\ W'.cell? ⟨w.heap.size + 1 + 1, 2, none⟩ = some (.int .i64 y.1.k) /\ W'.cell? ⟨w.heap.size + 1 + 1 + 1, 0, none⟩ = some (.bool true))
  ?hI ?hIx ⟨rfl, N1, aU.refl _ _⟩
  (fun y a' W' => ∃ B1, W'.heap[B1]? = some y.1.obj /\ a' = { tmps := #[b.val, x.val, .pointer (some ⟨w.heap.size, 0, none⟩), .pointer (some ⟨w.heap.size + 1, 0, none⟩), .pointer (some ⟨w.heap.size + 1 + 1, 0, none⟩), .pointer (some ⟨w.heap.size + 1 + 1 + 1, 0, none⟩), .pointer (some ⟨B1, 0, none⟩), b.val, x.val, .func (.func 220) #[] #[.pointer (some ⟨W0.heap.size, 0, none⟩), .pointer (some ⟨W0.heap.size + 1, 0, none⟩)], y.1.val, undef, undef], defers := [] })
  ?hAx ?assign ?body ?done ?stop
 case hI => exact OwnFrom.and (ownFrom_pure _ _) (OwnFrom.and (ownFrom_below (nlq _) (by omega)) jQ)
 case hIx =>
  rintro c s A A' row ⟨e, y, e2, h3, h4, h5, h6, h7⟩ hg hr;have kx := (jT (X := fun _ => False) hg (fun r e => (hr r e).2)).ck;exact ⟨e, y, e2, (ownFrom_below (β := Unit) (nlq _) (by omega)) () A A' row h3 hg hr, kx _ _ h4, kx _ _ h5, kx _ _ h6, kx _ _ h7⟩
 case hAx =>
  rintro y a' _ A A' row ⟨B1, e1, e3⟩ hg hr;exact ⟨B1, (jT (X := fun _ => False) hg (fun r e => (hr r e).2)).c _ _ (fun e => e) e1 rfl, e3⟩
 case assign =>
  rintro l2 pre y W' K ⟨rfl, hB, hk⟩ hK;gi_wp2;have ha : Below W'.heap.size W' (W'.alloc y.1.obj) := aB (br _ _) _;exact hK _ _ ((KeepsOthers.alloc _ _).from _) (dD.of_below ha) ⟨by first | exact trivial | rfl, aD hB ha, hk.trans (aU.of_below ha)⟩ ⟨W'.heap.size, wnq W' y.1.obj, rfl⟩
 case body =>
  rintro l2 pre y a' W' hl2 ⟨r, hr⟩ ⟨rfl, hB, hk⟩ ⟨B1, e1, rfl⟩ hlt';have R2 := hk.c _ _ (fun e => e) R1 rfl;have S2 := hk.c _ _ (fun e => e) S1 rfl;obtain ⟨c0, c1, c2⟩ := aJ e1;obtain ⟨r0, r1, r2⟩ := aJ R2;have s0 : W'.cell? ⟨w.heap.size + 1 + 1 + 1, 0, none⟩ = some (.bool false) := aH S2 rfl;have rf : ∀ i, W'.frozen? ⟨w.heap.size + 1 + 1, i, none⟩ = false := fun i => by simp [World.frozen?, R2]
  have sf : ∀ i, W'.frozen? ⟨w.heap.size + 1 + 1 + 1, i, none⟩ = false := fun i => by simp [World.frozen?, S2]
  have hle : w.heap.size <= w.heap.size + 1 + 1 := by omega
  have hle3 : w.heap.size <= w.heap.size + 1 + 1 + 1 := by omega
  gi_wp2;refine ⟨((((KeepsOthers.setCell _ _ _).trans (KeepsOthers.setCell _ _ _)).trans (KeepsOthers.setCell _ _ _)).trans (KeepsOthers.setCell _ _ _)).from _, rfl, y, rfl, (((hB.setCell (p := ⟨w.heap.size + 1 + 1, 0, none⟩) hle _).setCell (p := ⟨w.heap.size + 1 + 1, 1, none⟩) hle _).setCell (p := ⟨w.heap.size + 1 + 1, 2, none⟩) hle _).setCell (p := ⟨w.heap.size + 1 + 1 + 1, 0, none⟩) hle3 _, ?_, ?_, ?_, ?_⟩ <;> simp [go_sem, r0, r1, r2, s0]
 case done =>
  rintro D zs W' hD hzs ⟨rfl, hB, hk⟩ hK;have R2 := hk.c _ _ (fun e => e) R1 rfl;have S2 := hk.c _ _ (fun e => e) S1 rfl;obtain ⟨r0, r1, r2⟩ := aJ R2;have s0 : W'.cell? ⟨w.heap.size + 1 + 1 + 1, 0, none⟩ = some (.bool false) := aH S2 rfl;have rf : ∀ i, W'.frozen? ⟨w.heap.size + 1 + 1, i, none⟩ = false := fun i => by simp [World.frozen?, R2]
  have sf : ∀ i, W'.frozen? ⟨w.heap.size + 1 + 1 + 1, i, none⟩ = false := fun i => by simp [World.frozen?, S2]
  have hle : w.heap.size <= w.heap.size + 1 + 1 := by omega
  have hle3 : w.heap.size <= w.heap.size + 1 + 1 + 1 := by omega
  have hnil : Hid ((AY b x).map (·.1) = []) := by rw [Hid, ← hzs];rfl
  gi_wp2;have hBd := (((hB.setCell (p := ⟨w.heap.size + 1 + 1, 0, none⟩) hle (.int .i64 0)).setCell (p := ⟨w.heap.size + 1 + 1, 1, none⟩) hle (.int .i64 0)).setCell (p := ⟨w.heap.size + 1 + 1, 2, none⟩) hle (.int .i64 0)).setCell (p := ⟨w.heap.size + 1 + 1 + 1, 0, none⟩) hle3 (.bool false);have hKd := ((((KeepsOthers.setCell W' ⟨w.heap.size + 1 + 1, 0, none⟩ (.int .i64 0)).trans (KeepsOthers.setCell _ ⟨w.heap.size + 1 + 1, 1, none⟩ (.int .i64 0))).trans (KeepsOthers.setCell _ ⟨w.heap.size + 1 + 1, 2, none⟩ (.int .i64 0))).trans (KeepsOthers.setCell _ ⟨w.heap.size + 1 + 1 + 1, 0, none⟩ (.bool false))).same D _ hK rfl;obtain ⟨Wd, hWd⟩ : ∃ Wd, (((W'.setCell ⟨w.heap.size + 1 + 1, 0, none⟩ (.int .i64 0)).setCell ⟨w.heap.size + 1 + 1, 1, none⟩ (.int .i64 0)).setCell ⟨w.heap.size + 1 + 1, 2, none⟩ (.int .i64 0)).setCell ⟨w.heap.size + 1 + 1 + 1, 0, none⟩ (.bool false) = Wd := ⟨_, rfl⟩;have d0 : Wd.cell? ⟨w.heap.size + 1 + 1, 0, none⟩ = some (.int .i64 0) := by rw [← hWd];simp [go_sem, r0]
  have d1 : Wd.cell? ⟨w.heap.size + 1 + 1, 1, none⟩ = some (.int .i64 0) := by rw [← hWd];simp [go_sem, r1]
  have d2 : Wd.cell? ⟨w.heap.size + 1 + 1, 2, none⟩ = some (.int .i64 0) := by rw [← hWd];simp [go_sem, r2]
  have d3 : Wd.cell? ⟨w.heap.size + 1 + 1 + 1, 0, none⟩ = some (.bool false) := by rw [← hWd];simp [go_sem, s0]
  rw [hWd] at hBd hKd ⊢;have ck := (aU.putObj (X := fun _ => False) (.deferred none) hKd rfl).ck;have f0 := ck _ _ d0;have f1 := ck _ _ d1;have f2 := ck _ _ d2;have f3 := ck _ _ d3;refine ⟨by simp, .inl ⟨_, _, rfl, run_takeDeferred hKd, ?_⟩⟩;refine ⟨eH [], ?_, by rw [hnil.out], hBd.trans (belowK_b (w := w) (nlq _) _ D _ _ (by omega) hKd rfl rfl)⟩
  simp [results, Tryz.f156, go_sem, eH, f0, f1, f2, f3]
 case stop =>
  rintro D c pre W' hD hq ⟨rfl, y, rfl, hB, d0, d1, d2, d3⟩ hK
  have hcons : Hid (∃ r, (AY b x).map (·.1) = y.1 :: r) := by
   obtain ⟨r, hr⟩ := hq;exact ⟨r.map (·.1), by rw [← hr];rfl⟩
  gi_wp2;have ck := (aU.putObj (X := fun _ => False) (.deferred none) hK rfl).ck;have f0 := ck _ _ d0;have f1 := ck _ _ d1;have f2 := ck _ _ d2;have f3 := ck _ _ d3;refine ⟨by simp, .inl ⟨_, _, rfl, run_takeDeferred hK, ?_⟩⟩;obtain ⟨r, hr⟩ := hcons.out;refine ⟨eH (y.1 :: r), ?_, by rw [hr], hB.trans (belowK_b (w := w) (nlq _) _ D _ _ (by omega) hK rfl rfl)⟩
  simp [results, Tryz.f156, go_sem, eH, f0, f1, f2, f3]
end Go.Proofs.YtiojdbffjdoniaaGreatDoor
namespace Go.Proofs.YtiojdbffjdoniaaGreatDoor
open Go.RowKit
theorem B9 {nm : ByteArray} {t : List Bx} {l m : List Hx} (h : aL l m) : iE nm t m = iE nm t l := by
 have e : ∀ k : List Hx, iE nm t k = (k.map fun h => (h.n, h.tl, h.nl)).all (fun p => !(pW nm p.1 && (bI t p.2.1 || bI t p.2.2))) := fun k => by rw [List.all_map];rfl
 have g : (m.map fun h => (h.n, h.tl, h.nl)) = l.map fun h => (h.n, h.tl, h.nl) := List.ext_getElem (by simp [h.len]) (fun i h1 h2 => by
  simp only [List.getElem_map];have hl := h.like i (by simpa using h2)
  rw [hl.n, hl.t, hl.x])
 rw [e, e, g]
theorem wW (l : List Co) : ∃ d i k f, eH l = .tuple #[gB d i k, .bool f] := by
 cases l with
 | nil => exact ⟨0, 0, 0, false, rfl⟩
 | cons c r => exact ⟨c.d, c.i, c.k, true, rfl⟩
end Go.Proofs.YtiojdbffjdoniaaGreatDoor
