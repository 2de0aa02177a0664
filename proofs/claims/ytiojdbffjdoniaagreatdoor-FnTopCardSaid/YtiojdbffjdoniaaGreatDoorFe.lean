import Derived.Test.YtiojdbffjdoniaaGreatDoorDt
import Derived.Test.YtiojdbffjdoniaaGreatDoorEb
namespace Go.Proofs.YtiojdbffjdoniaaGreatDoor
set_option maxRecDepth 100000
set_option maxHeartbeats 4000000
open Go.RowKit Go.Shelf
attribute [local go_sem] Oper.semAt_some
def mU (b : Bk) (C nw : Int) (L : List Hx) (z : Nat) (v : Value) (w' : World) : Prop :=
 (aO b = false /\ v = .tuple #[Bk.val ⟨0, none, [], 0, none, [], 0⟩, .int .i64 1]) ∨ (aO b = true /\ ∃ b'' : Bk, v = .tuple #[b''.val, .int .i64 C] /\ b''.now = nw /\ b''.fl = b.fl /\ aL L b''.hl /\ fM z w' b'')
def qP (b : Bk) (nw : Int) (L : List Hx) (z : Nat) (v : Value) (w' : World) : Prop :=
 (aO b = false /\ v = Bk.val ⟨0, none, [], 0, none, [], 0⟩) ∨ (aO b = true /\ ∃ b'' : Bk, v = b''.val /\ b''.now = nw /\ b''.fl = b.fl /\ aL L b''.hl /\ fM z w' b'')
theorem mU.zL {b : Bk} {C nw : Int} {L : List Hx} {z : Nat} {v : Value} {w w' : World} (h : mU b C nw L z v w) (hb : Below w.heap.size w w') : mU b C nw L z v w' := by
 rcases h with h | ⟨h1, b'', h2, h3, h4, h5, h6⟩
 · exact .inl h
 · exact .inr ⟨h1, b'', h2, h3, h4, h5, h6.zL hb⟩
theorem mU.weak {b : Bk} {C nw : Int} {L : List Hx} {z z' : Nat} {v : Value} {w : World} (h : mU b C nw L z v w) (hz : z' <= z) : mU b C nw L z' v w := by
 rcases h with h | ⟨h1, b'', h2, h3, h4, h5, h6⟩
 · exact .inl h
 · exact .inr ⟨h1, b'', h2, h3, h4, h5, h6.weak hz⟩
theorem qP.zL {b : Bk} {nw : Int} {L : List Hx} {z : Nat} {v : Value} {w w' : World} (h : qP b nw L z v w) (hb : Below w.heap.size w w') : qP b nw L z v w' := by
 rcases h with h | ⟨h1, b'', h2, h3, h4, h5, h6⟩
 · exact .inl h
 · exact .inr ⟨h1, b'', h2, h3, h4, h5, h6.zL hb⟩
theorem OA {b : Bk} {nm : ByteArray} {R : Bk -> Nat -> Bool -> Bk -> Int -> Prop} {C nw : Int} {L : List Hx} {z : Nat} {e : Ending} {w' : World} (hR : ∀ b' i f b'' c, aO b = true -> lD b nm b' i f -> R b' i f b'' c -> c = C /\ b''.now = nw /\ b''.fl = b.fl /\ aL L b''.hl) (h : GW b nm R z e w') : ∃ v, e = .returned v /\ mU b C nw L z v w' := by
 rcases h with ⟨hbk, e⟩ | ⟨hbk, b', i, f, b'', c, h1, h2, e, h3⟩
 · exact ⟨_, e, .inl ⟨hbk, rfl⟩⟩
 · obtain ⟨rfl, q1, q2, q3⟩ := hR b' i f b'' c hbk h1 h2
   exact ⟨_, e, .inr ⟨hbk, b'', rfl, q1, q2, q3, h3⟩⟩
def LH (b : Bk) (nm : ByteArray) (ev : Value) (T : Nat) (C nw : Int) (L : List Hx) (Z : Nat) (j : Nat) (v : Value) (w : World) : Prop :=
 match j with
 | 0 => v = b.val
 | 1 => v = ev
 | 2 => v = .string nm
 | 3 => v = .func (.func 67) #[] #[.pointer (some ⟨T, 0, none⟩)]
 | 4 => mU b C nw L Z v w
 | 5 => qP b nw L Z v w
 | 6 => v = .int .i64 (if aO b then C else 1)
 | _ => True
theorem LH.zL {b : Bk} {nm : ByteArray} {ev : Value} {T : Nat} {C nw : Int} {L : List Hx} {Z : Nat} (j : Nat) (v : Value) (w w' : World) (h : LH b nm ev T C nw L Z j v w) (hb : Below w.heap.size w w') : LH b nm ev T C nw L Z j v w' := by
 unfold LH at h ⊢
 split
 all_goals first
  | exact h
  | exact mU.zL h hb
  | exact qP.zL h hb
  | trivial
theorem iD (ev : Value) (hev : (∃ et eu, ev = .iface et eu) ∨ ev = .nilIface) (b : Bk) (nm : ByteArray) (R : Bk -> Nat -> Bool -> Bk -> Int -> Prop) (C nw : Int) (L : List Hx) (w : World) (hL : mW w) (hf : Xs 3 Fx.cells w b.fa b.fl) (hnf : b.fl.length <= 1048576) (hcf : b.fl.length <= b.fc) (hcf2 : b.fc <= 9223372036854775807) (hsf : ∀ f ∈ b.fl, f.n.size <= 9223372036854775807) (hh : Xs 3 Hx.cells w b.ha b.hl) (hnh : b.hl.length <= 1048576) (hg : ∀ h ∈ b.hl, h.In w /\ h.Fit)
 (hNm : ∀ W, Below w.heap.size w W -> Calls Tryz.prog 66 #[ev] W fun e w' => e = .returned (.string nm) /\ Below W.heap.size W w')
 (hCh : ∀ T W, Below w.heap.size w W -> W.cell? ⟨T, 0, none⟩ = some ev -> mB 67 #[.pointer (some ⟨T, 0, none⟩)] b nm R W)
 (hR : ∀ b' i f b'' c, aO b = true -> lD b nm b' i f -> R b' i f b'' c -> c = C /\ b''.now = nw /\ b''.fl = b.fl /\ aL L b''.hl) :
 Calls Tryz.prog 26 #[b.val, ev] w fun e w' => (∃ v, e = .returned v /\ mU b C nw L w.heap.size v w') /\ Below w.heap.size w w' := by
 obtain ⟨o, ho⟩ : ∃ o, o = Obj.cells #[ev] 71 := ⟨_, rfl⟩;have N0 : Below w.heap.size w (((w.alloc b.obj).alloc o).alloc (.cells #[.int .i64 0, .slice none 0 0, .slice none 0 0] 29)) := aB (aB (aB (br _ _) _) _) _;have A0 := (halq ((w.alloc b.obj).alloc o) (.cells #[.int .i64 0, .slice none 0 0, .slice none 0 0] 29) w.heap.size (by simp;omega)).trans ((halq (w.alloc b.obj) o w.heap.size (by simp)).trans (wnq w b.obj));have T0 := (halq ((w.alloc b.obj).alloc o) (.cells #[.int .i64 0, .slice none 0 0, .slice none 0 0] 29) (w.alloc b.obj).heap.size (by simp)).trans (wnq (w.alloc b.obj) o);have R0 := wnq ((w.alloc b.obj).alloc o) (.cells #[.int .i64 0, .slice none 0 0, .slice none 0 0] 29);simp only [wsa] at T0 R0
 rcases hev with ⟨et, eu, rfl⟩ | rfl
 all_goals go_enter Tryz.func26, Tryz.ntmps26
 all_goals go_wp2_with fail
 all_goals rw [← ho]
 rotate_left
 generalize Value.nilIface = ev at *
 rotate_left
 generalize Value.iface et eu = ev at *
 all_goals
  obtain ⟨W0, hW0⟩ : ∃ W0, ((w.alloc b.obj).alloc o).alloc (.cells #[.int .i64 0, .slice none 0 0, .slice none 0 0] 29) = W0 := ⟨_, rfl⟩;rw [hW0] at N0 A0 T0 R0 ⊢;rw [ho] at T0;have hz1 : w.heap.size + 1 + 1 < W0.heap.size := (bP R0);obtain ⟨k0, k1, k2⟩ := aJ A0;have t0 : W0.cell? ⟨w.heap.size + 1, 0, none⟩ = some ev := aH T0 rfl;have HR0 : Hid _ := R0;clear hW0 A0 T0 R0;refine wpIn_wide.1 (aT (F := Fence.wide) (n := 0) (by kernel_rfl) 7 [some 6, some 7, some 8, some 9, some 10, some 11, some 12] (by decide) (LH b nm ev (w.heap.size + 1) C nw L W0.heap.size) LH.zL (by kernel_rfl) (by kernel_rfl) (by kernel_rfl) ?step ?fin)
  case step =>
   intro ii o vs w' hi' ho hB hd
   match ii, hi' with
   | 0, _ =>
    simp at ho;subst ho;have k0' := (hB.cell (aA k0)).trans k0;have k1' := (hB.cell (aA k1)).trans k1;have k2' := (hB.cell (aA k2)).trans k2;simp only [aE, Act.put];gi_wp2;exact ⟨_, by simp [aI], rfl, br _ _⟩
   | 1, _ =>
    simp at ho;subst ho;have t0' := (hB.cell (aA t0)).trans t0;simp only [aE, Act.put];gi_wp2;exact ⟨_, by simp [aI], rfl, br _ _⟩
   | 2, _ =>
    simp at ho;subst ho;have d1 : vs 1 = _ := Zq hd 1;simp only [aE, Act.put];rw [d1];gi_wp2_with fail
    refine ⟨trivial, rfl, ?_⟩;refine (cw.2 (hNm w' (aD N0 hB))).mono ?_;rintro e w5 ⟨rfl, hb5⟩;gi_wp2;exact ⟨_, by simp [aI, d1], rfl, hb5⟩
   | 3, _ =>
    simp at ho;subst ho;simp only [aE, Act.put];gi_wp2;exact ⟨_, by simp [aI], rfl, br _ _⟩
   | 4, _ =>
    simp at ho;subst ho;have d0 : vs 0 = _ := Zq hd 0;have d2 : vs 2 = _ := Zq hd 2;have d3 : vs 3 = _ := Zq hd 3;simp only [aE, Act.put];rw [d0, d2, d3];gi_wp2_with fail
    refine ⟨trivial, rfl, ?_⟩;refine (cw.2 (CL (.pointer (some ⟨w.heap.size + 1, 0, none⟩)) b nm R w' (hCh _ w' (aD N0 hB) ((hB.cell (aA t0)).trans t0)) (hL.zL (aD N0 hB)) (hf.zL (aD N0 hB)) hnf hcf hcf2 hsf (hh.zL (aD N0 hB)) hnh (fun h m => ⟨(hg h m).1.zL (aD N0 hB), (hg h m).2⟩))).mono ?_;rintro e w5 ⟨hC5, hb5⟩;obtain ⟨v5, rfl, hT5⟩ := OA (C := C) (nw := nw) (L := L) (fun b' i f b'' c h1 h2 h3 => hR b' i f b'' c h1 h2 h3) hC5;have HT5 : Hid _ := hT5.weak (z' := W0.heap.size) hB.size;clear hT5 hC5;gi_wp2;exact ⟨_, by simp [aI, d0, d2, d3], HT5.out, hb5⟩
   | 5, _ =>
    simp at ho;subst ho;have hT4 : mU b C nw L W0.heap.size (vs 4) w' := Zq hd 4
    rcases hT4 with ⟨hbk, d4⟩ | ⟨hbk, b'', d4, e1, e2, e3, e4⟩
    · have HB : Hid _ := hbk
      clear hbk;simp only [aE, Act.put];rw [d4];gi_wp2;exact ⟨_, by simp [aI, d4], .inl ⟨HB.out, rfl⟩, br _ _⟩
    have HB : Hid _ := hbk;have HP : Hid (b''.now = nw /\ b''.fl = b.fl /\ aL L b''.hl /\ fM W0.heap.size w' b'') := ⟨e1, e2, e3, e4⟩;clear hbk e1 e2 e3 e4;simp only [aE, Act.put];rw [d4];gi_wp2;exact ⟨_, by simp [aI, d4], .inr ⟨HB.out, b'', rfl, HP.out⟩, br _ _⟩
   | 6, _ =>
    simp at ho;subst ho;have hT4 : mU b C nw L W0.heap.size (vs 4) w' := Zq hd 4
    rcases hT4 with ⟨hbk, d4⟩ | ⟨hbk, b'', d4, e1, e2, e3, e4⟩
    · have HB : Hid _ := hbk
      clear hbk;simp only [aE, Act.put];rw [d4];gi_wp2;exact ⟨.int .i64 1, by simp [aI, d4], by unfold LH;rw [HB.out];rfl, br _ _⟩
    have HB : Hid _ := hbk;clear hbk e1 e2 e3 e4;simp only [aE, Act.put];rw [d4];gi_wp2;exact ⟨.int .i64 C, by simp [aI, d4], by unfold LH;rw [HB.out];rfl, br _ _⟩
   | q + 7, h => exact absurd h (by omega)
  case fin =>
   intro vs w1 hB hp;have d5 : qP b nw L W0.heap.size (vs 5) w1 := hp 5 (by decide);have d6 : vs 6 = .int .i64 (if aO b then C else 1) := hp 6 (by decide);have N1 := aD N0 hB;have R1 := bD HR0.out hB;have hs1 := hB.size;obtain ⟨r0, r1, r2⟩ := aJ R1;have rf : ∀ i, w1.frozen? ⟨w.heap.size + 1 + 1, i, none⟩ = false := fun i => by simp [World.frozen?, R1]
   have hS : ∀ u v x : Value, cA (fun k => k = w.heap.size + 1 + 1) w1 (((w1.setCell ⟨w.heap.size + 1 + 1, 0, none⟩ u).setCell ⟨w.heap.size + 1 + 1, 1, none⟩ v).setCell ⟨w.heap.size + 1 + 1, 2, none⟩ x) := fun u v x => (((cA.refl (fun k => k = w.heap.size + 1 + 1) w1).set (g := w.heap.size + 1 + 1) rfl _ _).set (g := w.heap.size + 1 + 1) rfl _ _).set (g := w.heap.size + 1 + 1) rfl _ _;have hN6 := fun u v x => (hS u v x).under N1 (nlq _) (fun k hk => by rw [hk];omega);clear hp hB R1 k0 k1 k2 t0 hNm hCh hR;simp only [lds, List.drop_zero, aE, Act.put];rw [d6];clear d6;generalize vs 0 = v0;generalize vs 1 = v1;generalize vs 2 = v2;generalize vs 3 = v3;generalize vs 4 = v4
   rcases d5 with ⟨hbk, d5⟩ | ⟨hbk, b'', d5, e1, e2, e3, e4⟩
   · have HB : Hid _ := hbk
     rw [d5, hbk];clear d5 hbk;gi_wp2_with fail
     go_wp2_with fail
     exact bpr (v := .tuple #[Bk.val ⟨0, none, [], 0, none, [], 0⟩, .int .i64 1]) (by simp [results, Tryz.results26, go_sem, r0, r1, r2]) rfl ⟨⟨_, rfl, .inl ⟨HB.out, rfl⟩⟩, hN6 _ _ _⟩
   · have HB : Hid _ := hbk
     have HP : Hid (b''.now = nw /\ b''.fl = b.fl /\ aL L b''.hl) := ⟨e1, e2, e3⟩;rw [d5, hbk];clear d5 hbk e1 e2 e3;gi_wp2_with fail
     go_wp2_with fail
     exact bpr (v := .tuple #[b''.val, .int .i64 C]) (by simp [results, Tryz.results26, go_sem, r0, r1, r2]) rfl ⟨⟨_, rfl, .inr ⟨HB.out, b'', rfl, HP.out.1, HP.out.2.1, HP.out.2.2, (e4.but (hS _ _ _) (fun k hk => by rw [hk];omega)).weak (by omega)⟩⟩, hN6 _ _ _⟩
def O2 (n : Int) (b' : Bk) (_ : Nat) (_ : Bool) (b'' : Bk) (c : Int) : Prop := c = cQ b' n /\ b''.now = gA b' n /\ b''.fl = b'.fl /\ aL (eY b' n) b''.hl
theorem AA {b : Bk} (h : aO b = true) : 0 <= b.now /\ b.now <= 10000 := by
 simp only [aO, bat] at h;have h1 := h.1;simp only [mD, dte] at h1;exact h1
theorem KF (n : Int) (T : Nat) (b : Bk) (nm : ByteArray) (w : World) (hT : w.cell? ⟨T, 0, none⟩ = some (.iface 125 (.agg #[.int .i64 n]))) (hft : ∀ h ∈ b.hl, h.Fit) :
 mB 67 #[.pointer (some ⟨T, 0, none⟩)] b nm (O2 n) w := by
 intro b' i f P z W hbk hpg hz hzW hI hN;have c0 : W.cell? ⟨T, 0, none⟩ = some (.iface 125 (.agg #[.int .i64 n])) := (hN.cell (aA hT)).trans hT;have h16 := pY hbk;have hnow := AA hbk;have HBK : Hid _ := hbk;clear hbk
 show Calls Tryz.prog 67 #[.pointer (some ⟨P, 0, none⟩), .pointer (some ⟨T, 0, none⟩)] W _
 go_enter Tryz.func67, Tryz.ntmps67
 go_wp2_with fail
 refine (NB z P b' nm i f n W hI hzW (hpg.lk.fit hft) (by rw [hpg.lk.len];omega) (by rw [hpg.now];exact hnow.1) (by rw [hpg.now];exact hnow.2)).mono ?_;rintro e w1 ⟨b'', rfl, e1, e2, e3, hI1, hb1⟩;go_wp2
 go_ret;exact ⟨_, _, rfl, ⟨rfl, e1, e2, e3⟩, hI1, hb1⟩
theorem tY {l m : List Hx} (frm : Int) (h : aL l m) : gG frm l = gG frm m := by
 unfold gG;rw [h.map (eO frm) (fun a c g => by unfold eO;rw [g.n, g.t, g.x])]
theorem JU {b b' : Bk} (n : Int) (hn : b'.now = b.now) (h : aL b.hl b'.hl) : cQ b' n = cQ b n /\ gA b' n = gA b n /\ aL (eY b n) (eY b' n) := by
 have ec : cQ b' n = cQ b n := by unfold cQ;rw [hn]
 refine ⟨ec, by unfold gA;rw [ec, hn], ?_⟩;unfold eY;rw [ec, hn, tY _ h]
 split
 · exact aL.refl _
 · exact h
set_option maxHeartbeats 8000000
theorem rW (l : List Hx) (nm : ByteArray) : jN l nm = -1 ∨ ∃ j, j < l.length /\ jN l nm = (j : Int) := by
 unfold jN
 cases h : l.findIdx? (fun h => h.n.toList == nm.toList) with
 | none => exact .inl rfl
 | some i => exact .inr ⟨i, (List.findIdx?_eq_some_iff_getElem.1 h).1, rfl⟩
theorem dB.put {z : Nat} {w w' : World} {b : Bk} {g cap i n : Nat} {x' : Hx} {f : Nat -> Value} (h : dB z w b) (ha : b.ha = some ⟨g, 0, none⟩) (hgz : z <= g) (hr : w.rowIs g 42 n f) (hb : cA (fun k => k = g) w w') (hR : fE 42 3 Hx.cells w' g cap (b.hl.set i x') b.hl.length) (hcap : b.hl.length <= cap) (hc : b.hc = cap) (hx : dC z w' x') :
 dB z w' ⟨b.now, b.fa, b.fl, b.fc, b.ha, b.hl.set i x', b.hc⟩ := by
 refine ⟨?_, .inr ⟨g, cap, by rw [ha, hc], hgz, by simpa using hcap, by simpa using hR⟩, fun y hy => ?_, h.c⟩
 · rcases h.f with e | ⟨p, cp, e, h1, h2, f3, h3, h4⟩
   · exact .inl e
   · refine .inr ⟨p, cp, e, h1, h2, f3, h3.of_block (hb.block p h3.lt (fun e => ?_)), h4⟩
     have e' : p = g := e;subst e';exact absurd (iP hr h3) (by decide)
 · rcases List.mem_or_eq_of_mem_set hy with hy | rfl
   · exact (h.t y hy).butHeld hr hb
   · exact hx
def PD (X g n cap j : Nat) (na : Value) (i : Nat) (v : Value) (_w : World) : Prop :=
 match i with
 | 0 => v = .pointer (some ⟨X, 2, none⟩)
 | 1 => v = .slice (some ⟨g, 0, none⟩) n cap
 | 2 => v = .int .i64 (j : Int)
 | 3 => v = .pointer (some ⟨X, 2, none⟩)
 | 4 => v = .slice (some ⟨g, 0, none⟩) n cap
 | 5 => v = .int .i64 (j : Int)
 | 6 => v = .pointer (some ⟨g, j * 3, none⟩)
 | 7 => v = .pointer (some ⟨g, j * 3 + 2, none⟩)
 | 8 => v = na
 | _ => True
theorem PD.zL {X g n cap j : Nat} {na : Value} (i : Nat) (v : Value) (w w' : World) (h : PD X g n cap j na i v w) (_ : Below w.heap.size w w') : PD X g n cap j na i v w' := h
theorem uI {w : World} {z E : Nat} (hE : w.heap[E]? = some (.cells #[] 89)) (hz : z <= E) : aG w z (.slice (some ⟨E, 0, none⟩) ([] : List Bx).length 0) [] :=
 .inr ⟨E, 0, rfl, hz, nlq _, fun _ => undef, ⟨#[], hE, rfl, fun i hi => absurd hi (by omega)⟩, fun i hi => absurd hi (by simp)⟩
def nD (b : Bk) (w : World) : Prop := ∀ W, Below w.heap.size w W -> Calls Tryz.prog 28 #[b.val] W fun e w' => e = .returned (.bool (aO b)) /\ Below W.heap.size W w'
def dI (b : Bk) (nm : ByteArray) : Int := if jN b.hl nm < 0 then 6 else (match b.hl[(jN b.hl nm).toNat]? with | some x => if x.nl = [] then 8 else 0 | none => 6)
def eX (b : Bk) (nm : ByteArray) (took : Bool) : List Hx := if dI b nm = 0 then (match b.hl[(jN b.hl nm).toNat]? with | some x => b.hl.set (jN b.hl nm).toNat (iL took x) | none => b.hl) else b.hl
def pQ (b : Bk) (l : List Hx) (c : Int) (z : Nat) (e : Ending) (w' : World) : Prop :=
 (aO b = false /\ e = .returned (.tuple #[Bk.val ⟨0, none, [], 0, none, [], 0⟩, .int .i64 1])) ∨
 (aO b = true /\ ∃ b' : Bk, e = .returned (.tuple #[b'.val, .int .i64 c]) /\ b'.now = b.now /\ b'.fl = b.fl /\ aL l b'.hl /\ dB z w' b')
theorem yK (b : Bk) (nm : ByteArray) (took : Bool) (w : World) (hok : nD b w) (hf : Xs 3 Fx.cells w b.fa b.fl) (hnf : b.fl.length <= 1048576) (hh : Xs 3 Hx.cells w b.ha b.hl) (hnh : b.hl.length <= 1048576) (hg : ∀ h ∈ b.hl, h.In w /\ h.Fit) :
 Calls Tryz.prog 31 #[b.val, .string nm, .bool took] w fun e w' => pQ b (eX b nm took) (dI b nm) w.heap.size e w' /\ Below w.heap.size w w' := by
 have hB0 : Below w.heap.size w ((w.alloc b.obj).alloc (.cells #[.int .i64 0, .slice none 0 0, .slice none 0 0] 29)) := aB (aB (br _ _) _) _;have A0 := (halq (w.alloc b.obj) (.cells #[.int .i64 0, .slice none 0 0, .slice none 0 0] 29) w.heap.size (by simp)).trans (wnq w b.obj);have R0 := wnq (w.alloc b.obj) (.cells #[.int .i64 0, .slice none 0 0, .slice none 0 0] 29);rw [wsa] at R0
 go_enter Tryz.func31, Tryz.ntmps31
 go_wp2_with fail
 obtain ⟨W0, hW0⟩ : ∃ W0, (w.alloc b.obj).alloc (.cells #[.int .i64 0, .slice none 0 0, .slice none 0 0] 29) = W0 := ⟨_, rfl⟩;rw [hW0] at hB0 A0 R0 ⊢;have hz1 : w.heap.size + 1 < W0.heap.size := (bP R0);clear hW0;refine (hok W0 hB0).mono ?_;rintro e w1 ⟨rfl, hb1⟩;have N1 := aD hB0 hb1;have A1 := bD A0 hb1;have R1 := bD R0 hb1;have hs1 := hb1.size;clear A0 R0 hb1 hB0 hok;have hset : ∀ (X : World) (u v x : Value), cA (fun k => k = w.heap.size + 1) X (((X.setCell ⟨w.heap.size + 1, 0, none⟩ u).setCell ⟨w.heap.size + 1, 1, none⟩ v).setCell ⟨w.heap.size + 1, 2, none⟩ x) := fun X u v x => (((cA.refl (fun k => k = w.heap.size + 1) X).set (g := w.heap.size + 1) rfl _ _).set (g := w.heap.size + 1) rfl _ _).set (g := w.heap.size + 1) rfl _ _
 cases hbk : aO b with
 | false =>
  have HBK : Hid _ := hbk;obtain ⟨r0, r1, r2⟩ := aJ R1;have rf : ∀ i, w1.frozen? ⟨w.heap.size + 1, i, none⟩ = false := fun i => by simp [World.frozen?, R1]
  clear A1 R1 hbk;go_wp2_with fail
  exact bpr (v := .tuple #[Bk.val ⟨0, none, [], 0, none, [], 0⟩, .int .i64 1]) (by simp [results, Tryz.results31, go_sem, r0, r1, r2]) rfl ⟨.inl ⟨HBK.out, rfl⟩, (hset w1 _ _ _).under N1 (nlq _) (fun k hk => by rw [hk];omega)⟩
 | true =>
  have HBK : Hid _ := hbk;obtain ⟨k0, k1, k2⟩ := aJ A1;have HA1 : Hid _ := A1;have HR1 : Hid _ := R1;clear A1 R1 hbk;go_wp2_with fail
  refine (iI b w1 (hf.zL N1) hnf (hh.zL N1) hnh (fun h m => ⟨(hg h m).1.zL N1, (hg h m).2⟩)).mono ?_;rintro e w2 ⟨⟨x, rfl, e1, e2, hlk, hA⟩, hb2⟩;have hbx : Below w2.heap.size w2 (w2.alloc x.obj) := aB (br _ _) _;have X3 := wnq w2 x.obj;have N3 := aD (aD N1 hb2) hbx;have A3 := bD (bD HA1.out hb2) hbx;have HR3 : Hid _ := bD (bD HR1.out hb2) hbx;have hA3 := hA.zL hbx;have hs2 := hb2.size;obtain ⟨w3, hw3⟩ : ∃ w3, w2.alloc x.obj = w3 := ⟨_, rfl⟩;rw [hw3] at X3 N3 A3 HR3 hA3;have HX3 : Hid _ := X3;have HA3 : Hid _ := A3;have HS3 : Hid _ := hA3;have HE1 : Hid _ := e1;have HE2 : Hid _ := e2;have HLK : Hid _ := hlk;have hs3 : w2.heap.size < w3.heap.size := (bP X3);clear k0 k1 k2;obtain ⟨k0, k1, k2⟩ := aJ A3;clear X3 A3 hA3 hA hbx hb2 N1 HA1 HR1 e1 e2 hlk;go_wp2_with fail
  clear hw3;refine (uP b nm w3 (hh.zL N3) hnh).mono ?_;rintro e w4 ⟨rfl, hb4⟩;have N4 := aD N3 hb4;have X4 := bD HX3.out hb4;have A4 := bD HA3.out hb4;have HR4 : Hid _ := bD HR3.out hb4;have HS4 : Hid _ := HS3.out.zL hb4;have hs4 := hb4.size;clear k0 k1 k2 hb4 HX3 HA3 HR3 HS3 N3
  have HEnd : Hid (∀ (X : World) (y : Bk), y.now = b.now -> y.fl = b.fl -> Below w.heap.size w X -> dB w1.heap.size X y -> ∀ l c, aL l y.hl -> eX b nm took = l -> dI b nm = c -> pQ b (eX b nm took) (dI b nm) w.heap.size (.returned (.tuple #[y.val, .int .i64 c])) (((X.setCell ⟨w.heap.size + 1, 0, none⟩ (.int .i64 y.now)).setCell ⟨w.heap.size + 1, 1, none⟩ (.slice y.fa y.fl.length y.fc)).setCell ⟨w.heap.size + 1, 2, none⟩ (.slice y.ha y.hl.length y.hc)) /\ Below w.heap.size w (((X.setCell ⟨w.heap.size + 1, 0, none⟩ (.int .i64 y.now)).setCell ⟨w.heap.size + 1, 1, none⟩ (.slice y.fa y.fl.length y.fc)).setCell ⟨w.heap.size + 1, 2, none⟩ (.slice y.ha y.hl.length y.hc))) := fun X y h1 h2 hN hS l c hl el ec => by
   refine ⟨.inr ⟨HBK.out, y, by rw [ec], h1, h2, by rw [el];exact hl, (hS.but (hset X _ _ _) (fun k hk => by rw [hk];omega)).weak (by omega)⟩, (hset X _ _ _).under hN (nlq _) (fun k hk => by rw [hk];omega)⟩
  obtain ⟨at0, hat⟩ : ∃ at0, jN b.hl nm = at0 := ⟨_, rfl⟩;obtain ⟨r0, r1, r2⟩ := aJ HR4.out;have rf : ∀ i, w4.frozen? ⟨w.heap.size + 1, i, none⟩ = false := fun i => by simp [World.frozen?, HR4.out]
  obtain ⟨x0, x1, x2⟩ := aJ X4
  rcases rW b.hl nm with h | ⟨j, hj, h⟩
  · have hneg : decide (jN b.hl nm < 0) = true := by rw [h];rfl
    have HC : Hid (dI b nm = 6 /\ eX b nm took = b.hl) := by
     have h6 : dI b nm = 6 := by unfold dI;rw [h];rfl
     exact ⟨h6, by unfold eX;rw [h6];rfl⟩
    clear h hat X4 A4;generalize jN b.hl nm = at1 at hneg;have HN4 : Hid _ := N4;go_wp2_with fail
    exact bpr (v := .tuple #[x.val, .int .i64 6]) (by simp [results, Tryz.results31, go_sem, r0, r1, r2]) rfl (HEnd.out w4 x HE1.out HE2.out HN4.out HS4.out _ _ HLK.out HC.out.2 HC.out.1)
  · obtain ⟨bl, off, ea, hc⟩ : ∃ bl off, b.ha = some ⟨bl, off, none⟩ /\ ∀ k (h : k < b.hl.length), aM w bl (off + k * 3) b.hl[k].cells := by
     rcases hh with h | h
     · rw [h] at hj;simp at hj
     · exact h
    obtain ⟨e0, e1, e2⟩ := eC ((hc j hj).zL N4);have k2 : w4.cell? ⟨w.heap.size, 2, none⟩ = some (.slice (some ⟨bl, off, none⟩) b.hl.length b.hc) := by rw [← ea];exact aH A4 rfl
    have hnn := (hg b.hl[j] (lgm hj)).2.nn;rw [h]
    cases hnl : b.hl[j].nl with
    | nil =>
     have HC : Hid (dI b nm = 8 /\ eX b nm took = b.hl) := by
      have h8 : dI b nm = 8 := by
       unfold dI;rw [h, if_neg (by omega)]
       simp [lge hj, hnl]
      exact ⟨h8, by unfold eX;rw [h8];rfl⟩
     rw [hnl] at e2;have HN4 : Hid _ := N4;clear h hat X4 A4 hc ea hnl e0 e1;go_wp2_with fail
     exact bpr (v := .tuple #[x.val, .int .i64 8]) (by simp [results, Tryz.results31, go_sem, r0, r1, r2]) rfl (HEnd.out w4 x HE1.out HE2.out HN4.out HS4.out _ _ HLK.out HC.out.2 HC.out.1)
    | cons y ys =>
     have HC : Hid (dI b nm = 0 /\ eX b nm took = b.hl.set j (iL took b.hl[j])) := by
      have h0 : dI b nm = 0 := by
       unfold dI;rw [h, if_neg (by omega)]
       simp [lge hj, hnl]
      refine ⟨h0, ?_⟩;unfold eX;rw [h0, h]
      simp [lge hj]
     have hlen : 0 < b.hl[j].nl.length := by rw [hnl];simp
     have hz2 : ((b.hl[j].nl.length : Int) == 0) = false := beq_false_of_ne (by omega);have hjx : j < x.hl.length := by rw [HLK.out.len];exact hj
     obtain ⟨y, hy⟩ : ∃ y, y = x.hl[j] := ⟨_, rfl⟩;have hlike : b.hl[j].Like y := by rw [hy];exact HLK.out.like j hj
     obtain ⟨g, cap, hxa, hxc, hgz, hcap, f, hrw, hfr⟩ : ∃ g cap, x.ha = some ⟨g, 0, none⟩ /\ x.hc = cap /\ w1.heap.size <= g /\ x.hl.length <= cap /\ fE 42 3 Hx.cells w4 g cap x.hl x.hl.length := by
      rcases HS4.out.h with ⟨_, e⟩ | ⟨g, cap, e, h1, h2, h3⟩
      · rw [e] at hjx;simp at hjx
      · simp only [Value.slice.injEq] at e
        exact ⟨g, cap, e.1, e.2.2, h1, h2, h3⟩
     have hXg : w2.heap.size ≠ g := fun e => by
      obtain ⟨cs, hcs, _⟩ := hrw;rw [← e, X4] at hcs
      cases hcs
     have hRg : w.heap.size + 1 ≠ g := by omega
     have HY : Hid _ := hy;have HXa : Hid _ := hxa;have HXc : Hid (x.hc = cap) := hxc;have HTy : Hid (dC w1.heap.size w4 y) := HS4.out.t y (by rw [hy];exact lgm hjx);have HFr : Hid _ := hfr;rw [hxa, hxc] at x2;have f1 := hrw.cell (i := j * 3 + 1) (by omega);have f2 := hrw.cell (i := j * 3 + 2) (by omega);rw [show f (j * 3 + 1) = .slice y.ta y.tl.length y.tc from by rw [hy];exact hfr j hjx hjx 1 _ rfl] at f1;rw [show f (j * 3 + 2) = .slice y.na y.nl.length y.nc from by rw [hy];exact hfr j hjx hjx 2 _ rfl] at f2;have cf := fun i => hrw.frozen i;have hjb : (j : Int) < (b.hl.length : Int) := by omega
     have hjx2 : (j : Int) < (x.hl.length : Int) := by omega
     have hxl : x.hl.length <= 1048576 := by rw [HLK.out.len];exact hnh
     cases took with
     | false =>
      have HLs : Hid (∀ y' : Hx, (iL false b.hl[j]).Like y' -> aL (b.hl.set j (iL false b.hl[j])) (x.hl.set j y')) := fun y' h => HLK.out.set j h;have hLk : (iL false b.hl[j]).Like ⟨y.n, y.ta, y.tl, y.tc, some ⟨w4.heap.size, 0, none⟩, [], 0⟩ := ⟨hlike.n, hlike.t, rfl⟩;have HLk : Hid _ := hLk;have hba : cA (fun k => k = g) w4 w4 := cA.refl _ _
      have hra : w4.rowIs g 42 (cap * 3) (fun i => if i = j * 3 + 1 then .slice y.ta y.tl.length y.tc else f i) := by
       have h2 : f = (fun i => if i = j * 3 + 1 then .slice y.ta y.tl.length y.tc else f i) := by
        funext i
        by_cases e : i = j * 3 + 1
        · subst e
          rw [if_pos rfl, HY.out];exact HFr.out j hjx hjx 1 _ rfl
        · rw [if_neg e]
       rw [← h2];exact hrw
      have hWE := wnq w4 (.cells #[] 89);have hrb := hra.alloc (.cells #[] 89);have hrc := hrb.set (j * 3 + 2) (.slice (some ⟨w4.heap.size, 0, none⟩) 0 0);have hbc : cA (fun k => k = g) w4 ((w4.alloc (.cells #[] 89)).setCell ⟨g, j * 3 + 2, none⟩ (.slice (some ⟨w4.heap.size, 0, none⟩) 0 0)) := (hba.trans (cA.below (aB (br _ _) _))).set (g := g) rfl _ _;have hEc := aZ hWE (p := ⟨g, j * 3 + 2, none⟩) (by show w4.heap.size ≠ g;have := hra.lt;omega) (.slice (some ⟨w4.heap.size, 0, none⟩) 0 0);have cb := hrb.cell (i := j * 3 + 2) (by omega);have cfb := fun i => hrb.frozen i;have xb2 : (w4.alloc (.cells #[] 89)).cell? ⟨w2.heap.size, 2, none⟩ = some (.slice (some ⟨g, 0, none⟩) x.hl.length cap) := (hba.trans (cA.below (aB (br _ _) _))).cell (p := ⟨w2.heap.size, 2, none⟩) hXg x2;have xa2 : w4.cell? ⟨w2.heap.size, 2, none⟩ = some (.slice (some ⟨g, 0, none⟩) x.hl.length cap) := hba.cell (p := ⟨w2.heap.size, 2, none⟩) hXg x2;have y0 := hbc.cell (p := ⟨w2.heap.size, 0, none⟩) hXg x0;have y1 := hbc.cell (p := ⟨w2.heap.size, 1, none⟩) hXg x1;have y2 := hbc.cell (p := ⟨w2.heap.size, 2, none⟩) hXg x2;have s0 := hbc.cell (p := ⟨w.heap.size + 1, 0, none⟩) hRg r0;have s1 := hbc.cell (p := ⟨w.heap.size + 1, 1, none⟩) hRg r1;have s2 := hbc.cell (p := ⟨w.heap.size + 1, 2, none⟩) hRg r2;have sB := dA HR4.out hbc hRg;have hza : w4.heap.size ≥ w1.heap.size := by omega
      have hSp : dB w1.heap.size ((w4.alloc (.cells #[] 89)).setCell ⟨g, j * 3 + 2, none⟩ (.slice (some ⟨w4.heap.size, 0, none⟩) 0 0)) ⟨x.now, x.fa, x.fl, x.fc, x.ha, x.hl.set j ⟨y.n, y.ta, y.tl, y.tc, some ⟨w4.heap.size, 0, none⟩, [], 0⟩, x.hc⟩ :=
       HS4.out.put HXa.out hgz hrw hbc (fE.lists (h := y) hrc HFr.out (by rw [HY.out];exact lge hjx) rfl) hcap HXc.out ⟨(HTy.out.butHeld hrw hbc).t, uI hEc (by omega)⟩
      have HSp : Hid _ := hSp;have HNc : Hid _ := hbc.under N4 (nlq _) (fun k hk => by have hk' : k = g := hk;omega);obtain ⟨Wb, hWb⟩ : ∃ Wb, w4.alloc (.cells #[] 89) = Wb := ⟨_, rfl⟩;rw [hWb] at cb cfb xb2 y0 y1 y2 s0 s1 s2 sB HSp HNc;obtain ⟨Wc, hWc⟩ : ∃ Wc, Wb.setCell ⟨g, j * 3 + 2, none⟩ (.slice (some ⟨w4.heap.size, 0, none⟩) 0 0) = Wc := ⟨_, rfl⟩;rw [hWc] at y0 y1 y2 s0 s1 s2 sB HSp HNc;have sf : ∀ i, Wc.frozen? ⟨w.heap.size + 1, i, none⟩ = false := fun i => by simp [World.frozen?, sB]
      clear hrb hrc hbc hEc hWE hSp sB hra hba x0 x1 x2 r0 r1 r2 rf;clear f1 f2 cf hrw hfr hy hxa hxc h hat X4 A4 hc ea hnl e0 e1 hlike hLk;go_wp2_with fail
      have hle : (x.hl.set j (⟨y.n, y.ta, y.tl, y.tc, some ⟨w4.heap.size, 0, none⟩, [], 0⟩ : Hx)).length = x.hl.length := by simp
      exact bpr (v := .tuple #[Bk.val ⟨x.now, x.fa, x.fl, x.fc, x.ha, x.hl.set j ⟨y.n, y.ta, y.tl, y.tc, some ⟨w4.heap.size, 0, none⟩, [], 0⟩, x.hc⟩, .int .i64 0]) (by simp [results, Tryz.results31, go_sem, s0, s1, s2, HXa.out, HXc.out]) rfl (by
       have := HEnd.out Wc ⟨x.now, x.fa, x.fl, x.fc, x.ha, x.hl.set j ⟨y.n, y.ta, y.tl, y.tc, some ⟨w4.heap.size, 0, none⟩, [], 0⟩, x.hc⟩ HE1.out HE2.out HNc.out HSp.out _ _ (HLs.out _ HLk.out) HC.out.2 HC.out.1
       simpa [HXa.out, HXc.out] using this)
     | true =>
      have HLs : Hid (∀ y' : Hx, (iL true b.hl[j]).Like y' -> aL (b.hl.set j (iL true b.hl[j])) (x.hl.set j y')) := fun y' h => HLK.out.set j h;have HLi : Hid _ := hlike;have HRw : Hid (w4.rowIs g 42 (cap * 3) f) := hrw;clear hfr hy hxa hxc h hat X4 A4 hc ea hnl e0 e1 hlike hrw;go_wp2_with fail
      have hrw := HRw.out;refine wpIn_wide.1 (aT (F := Fence.wide) (n := 0) (by kernel_rfl) 9 [some 32, some 33, some 34, some 35, some 36, some 37, some 38, some 39, some 40] (by decide) (PD w2.heap.size g x.hl.length cap j (.slice y.na y.nl.length y.nc)) PD.zL (by kernel_rfl) (by kernel_rfl) (by kernel_rfl) ?step ?fin)
      case step =>
       intro i o vs w' hi' ho hB hd
       match i, hi' with
       | 0, _ | 2, _ | 3, _ | 5, _ =>
        simp at ho;subst ho;simp only [aE, Act.put];gi_wp2;exact ⟨_, by simp [aI], rfl, br _ _⟩
       | 1, _ =>
        simp at ho;subst ho;have d0 : vs 0 = _ := Zq hd 0;have kx : w'.cell? ⟨w2.heap.size, 2, none⟩ = some (.slice (some ⟨g, 0, none⟩) x.hl.length cap) := (hB.cell (aA x2)).trans x2;simp only [aE, Act.put];rw [d0];gi_wp2;exact ⟨_, by simp [aI, d0], rfl, br _ _⟩
       | 4, _ =>
        simp at ho;subst ho;have d3 : vs 3 = _ := Zq hd 3;have kx : w'.cell? ⟨w2.heap.size, 2, none⟩ = some (.slice (some ⟨g, 0, none⟩) x.hl.length cap) := (hB.cell (aA x2)).trans x2;simp only [aE, Act.put];rw [d3];gi_wp2;exact ⟨_, by simp [aI, d3], rfl, br _ _⟩
       | 6, _ =>
        simp at ho;subst ho;have d4 : vs 4 = _ := Zq hd 4;have d5 : vs 5 = _ := Zq hd 5;simp only [aE, Act.put];rw [d4, d5];gi_wp2;exact ⟨_, by simp [aI, d4, d5], rfl, br _ _⟩
       | 7, _ =>
        simp at ho;subst ho;have d6 : vs 6 = _ := Zq hd 6;simp only [aE, Act.put];rw [d6];gi_wp2;exact ⟨_, by simp [aI, d6], rfl, br _ _⟩
       | 8, _ =>
        simp at ho;subst ho;have d7 : vs 7 = _ := Zq hd 7;have kn : w'.cell? ⟨g, j * 3 + 2, none⟩ = some (.slice y.na y.nl.length y.nc) := (hB.cell (aA f2)).trans f2;simp only [aE, Act.put];rw [d7];gi_wp2;exact ⟨_, by simp [aI, d7], rfl, br _ _⟩
       | q + 9, h => exact absurd h (by omega)
      case fin =>
       intro vs w5 hB hp;have d1 : vs 1 = _ := hp 1 (by decide);have d2 : vs 2 = _ := hp 2 (by decide);have d8 : vs 8 = _ := hp 8 (by decide);clear hp;simp only [lds, List.drop_zero, aE, Act.put];rw [d1, d2, d8];clear d1 d2 d8;generalize vs 0 = v0;generalize vs 3 = v3;generalize vs 4 = v4;generalize vs 5 = v5;generalize vs 6 = v6;generalize vs 7 = v7;have hr5 := hrw.of_block (hB.block _ hrw.lt);have c5 := hr5.cell (i := j * 3 + 1) (by omega);have cf5 := fun i => hr5.frozen i;have hba : cA (fun k => k = g) w4 (w5.setCell ⟨g, j * 3 + 1, none⟩ (.slice y.na y.nl.length y.nc)) := (cA.below (S := fun k => k = g) hB).set (g := g) rfl _ _;have hra := hr5.set (j * 3 + 1) (.slice y.na y.nl.length y.nc);obtain ⟨Wa, hWa⟩ : ∃ Wa, w5.setCell ⟨g, j * 3 + 1, none⟩ (.slice y.na y.nl.length y.nc) = Wa := ⟨_, rfl⟩;rw [hWa] at hba hra;have hs5 := hB.size;have hsa : w4.heap.size <= Wa.heap.size := hba.size;clear f1 f2 cf hr5 hB;have hWE := wnq Wa (.cells #[] 89);have hrb := hra.alloc (.cells #[] 89);have hrc := hrb.set (j * 3 + 2) (.slice (some ⟨Wa.heap.size, 0, none⟩) 0 0);have hbc : cA (fun k => k = g) w4 ((Wa.alloc (.cells #[] 89)).setCell ⟨g, j * 3 + 2, none⟩ (.slice (some ⟨Wa.heap.size, 0, none⟩) 0 0)) := (hba.trans (cA.below (aB (br _ _) _))).set (g := g) rfl _ _;have hEc := aZ hWE (p := ⟨g, j * 3 + 2, none⟩) (by show Wa.heap.size ≠ g;have := hra.lt;omega) (.slice (some ⟨Wa.heap.size, 0, none⟩) 0 0);have cb := hrb.cell (i := j * 3 + 2) (by omega);have cfb := fun i => hrb.frozen i;have xb2 : (Wa.alloc (.cells #[] 89)).cell? ⟨w2.heap.size, 2, none⟩ = some (.slice (some ⟨g, 0, none⟩) x.hl.length cap) := (hba.trans (cA.below (aB (br _ _) _))).cell (p := ⟨w2.heap.size, 2, none⟩) hXg x2;have xa2 : Wa.cell? ⟨w2.heap.size, 2, none⟩ = some (.slice (some ⟨g, 0, none⟩) x.hl.length cap) := hba.cell (p := ⟨w2.heap.size, 2, none⟩) hXg x2;have y0 := hbc.cell (p := ⟨w2.heap.size, 0, none⟩) hXg x0;have y1 := hbc.cell (p := ⟨w2.heap.size, 1, none⟩) hXg x1;have y2 := hbc.cell (p := ⟨w2.heap.size, 2, none⟩) hXg x2;have s0 := hbc.cell (p := ⟨w.heap.size + 1, 0, none⟩) hRg r0;have s1 := hbc.cell (p := ⟨w.heap.size + 1, 1, none⟩) hRg r1;have s2 := hbc.cell (p := ⟨w.heap.size + 1, 2, none⟩) hRg r2;have sB := dA HR4.out hbc hRg;have hza : Wa.heap.size ≥ w1.heap.size := by have := hba.size;omega
       have hSp : dB w1.heap.size ((Wa.alloc (.cells #[] 89)).setCell ⟨g, j * 3 + 2, none⟩ (.slice (some ⟨Wa.heap.size, 0, none⟩) 0 0)) ⟨x.now, x.fa, x.fl, x.fc, x.ha, x.hl.set j ⟨y.n, y.na, y.nl, y.nc, some ⟨Wa.heap.size, 0, none⟩, [], 0⟩, x.hc⟩ :=
        HS4.out.put HXa.out hgz hrw hbc (fE.lists (h := y) hrc HFr.out (by rw [HY.out];exact lge hjx) rfl) hcap HXc.out ⟨(HTy.out.butHeld hrw hbc).n, uI hEc (by omega)⟩
       have HSp : Hid _ := hSp;have HNc : Hid _ := hbc.under N4 (nlq _) (fun k hk => by have hk' : k = g := hk;omega);obtain ⟨Wb, hWb⟩ : ∃ Wb, Wa.alloc (.cells #[] 89) = Wb := ⟨_, rfl⟩;rw [hWb] at cb cfb xb2 y0 y1 y2 s0 s1 s2 sB HSp HNc;obtain ⟨Wc, hWc⟩ : ∃ Wc, Wb.setCell ⟨g, j * 3 + 2, none⟩ (.slice (some ⟨Wa.heap.size, 0, none⟩) 0 0) = Wc := ⟨_, rfl⟩;rw [hWc] at y0 y1 y2 s0 s1 s2 sB HSp HNc;have sf : ∀ i, Wc.frozen? ⟨w.heap.size + 1, i, none⟩ = false := fun i => by simp [World.frozen?, sB]
       clear hrw hrb hrc hbc hEc hWE hSp sB hra hba x0 x1 x2 r0 r1 r2 rf;gi_wp2_with fail
       go_wp2_with fail
       have hle : (x.hl.set j (⟨y.n, y.na, y.nl, y.nc, some ⟨Wa.heap.size, 0, none⟩, [], 0⟩ : Hx)).length = x.hl.length := by simp
       exact bpr (v := .tuple #[Bk.val ⟨x.now, x.fa, x.fl, x.fc, x.ha, x.hl.set j ⟨y.n, y.na, y.nl, y.nc, some ⟨Wa.heap.size, 0, none⟩, [], 0⟩, x.hc⟩, .int .i64 0]) (by simp [results, Tryz.results31, go_sem, s0, s1, s2, HXa.out, HXc.out]) rfl (by
        have := HEnd.out Wc ⟨x.now, x.fa, x.fl, x.fc, x.ha, x.hl.set j ⟨y.n, y.na, y.nl, y.nc, some ⟨Wa.heap.size, 0, none⟩, [], 0⟩, x.hc⟩ HE1.out HE2.out HNc.out HSp.out _ _ (HLs.out _ ⟨HLi.out.n, HLi.out.x, rfl⟩) HC.out.2 HC.out.1
        simpa [HXa.out, HXc.out] using this)
def dR (b : Bk) (nm : ByteArray) (tl : List Bx) : Int := gP b nm (jN b.hl nm).toNat (decide (0 <= jN b.hl nm)) tl
def fX (b : Bk) (nm : ByteArray) (tl : List Bx) : List Hx := iN b nm (jN b.hl nm).toNat (decide (0 <= jN b.hl nm)) tl
def QJ (X g n cap j : Nat) (tv : Value) (Z : Nat) (tl : List Bx) (i : Nat) (v : Value) (w : World) : Prop :=
 match i with
 | 0 => v = .pointer (some ⟨X, 2, none⟩)
 | 1 => v = .slice (some ⟨g, 0, none⟩) n cap
 | 2 => v = .int .i64 (j : Int)
 | 3 => v = tv
 | 4 => aG w Z v tl
 | _ => True
theorem QJ.zL {X g n cap j : Nat} {tv : Value} {Z : Nat} {tl : List Bx} (i : Nat) (v : Value) (w w' : World) (h : QJ X g n cap j tv Z tl i v w) (hb : Below w.heap.size w w') : QJ X g n cap j tv Z tl i v w' := by
 unfold QJ at h ⊢
 split
 all_goals first
  | exact h
  | exact aG.zL h hb
  | trivial
theorem vZ (b : Bk) (nm : ByteArray) (tl : List Bx) (ta : Option Addr) (tc : Nat) (w : World) (hok : nD b w) (hq : wE w b tl ta) :
 Calls Tryz.prog 30 #[b.val, .string nm, .slice ta tl.length tc] w fun e w' => pQ b (fX b nm tl) (dR b nm tl) w.heap.size e w' /\ Below w.heap.size w w' := by
 have hB0 : Below w.heap.size w ((w.alloc b.obj).alloc (.cells #[.int .i64 0, .slice none 0 0, .slice none 0 0] 29)) := aB (aB (br _ _) _) _;have A0 := (halq (w.alloc b.obj) (.cells #[.int .i64 0, .slice none 0 0, .slice none 0 0] 29) w.heap.size (by simp)).trans (wnq w b.obj);have R0 := wnq (w.alloc b.obj) (.cells #[.int .i64 0, .slice none 0 0, .slice none 0 0] 29);rw [wsa] at R0
 go_enter Tryz.func30, Tryz.ntmps30
 go_wp2_with fail
 obtain ⟨W0, hW0⟩ : ∃ W0, (w.alloc b.obj).alloc (.cells #[.int .i64 0, .slice none 0 0, .slice none 0 0] 29) = W0 := ⟨_, rfl⟩;rw [hW0] at hB0 A0 R0 ⊢;have hz1 : w.heap.size + 1 < W0.heap.size := (bP R0);clear hW0;refine (hok W0 hB0).mono ?_;rintro e w1 ⟨rfl, hb1⟩;have N1 := aD hB0 hb1;have A1 := bD A0 hb1;have R1 := bD R0 hb1;have hs1 := hb1.size;clear A0 R0 hb1 hB0 hok;have hset : ∀ (X : World) (u v x : Value), cA (fun k => k = w.heap.size + 1) X (((X.setCell ⟨w.heap.size + 1, 0, none⟩ u).setCell ⟨w.heap.size + 1, 1, none⟩ v).setCell ⟨w.heap.size + 1, 2, none⟩ x) := fun X u v x => (((cA.refl (fun k => k = w.heap.size + 1) X).set (g := w.heap.size + 1) rfl _ _).set (g := w.heap.size + 1) rfl _ _).set (g := w.heap.size + 1) rfl _ _
 cases hbk : aO b with
 | false =>
  have HBK : Hid _ := hbk;obtain ⟨r0, r1, r2⟩ := aJ R1;have rf : ∀ i, w1.frozen? ⟨w.heap.size + 1, i, none⟩ = false := fun i => by simp [World.frozen?, R1]
  clear A1 R1 hbk;go_wp2_with fail
  exact bpr (v := .tuple #[Bk.val ⟨0, none, [], 0, none, [], 0⟩, .int .i64 1]) (by simp [results, Tryz.results30, go_sem, r0, r1, r2]) rfl ⟨.inl ⟨HBK.out, rfl⟩, (hset w1 _ _ _).under N1 (nlq _) (fun k hk => by rw [hk];omega)⟩
 | true =>
  have HBK : Hid _ := hbk;obtain ⟨k0, k1, k2⟩ := aJ A1;have HA1 : Hid _ := A1;have HR1 : Hid _ := R1;clear A1 R1 hbk;go_wp2_with fail
  refine (iI b w1 (hq.hf.zL N1) hq.hnf (hq.hh.zL N1) hq.hnh (fun h m => ⟨(hq.hgood h m).1.zL N1, (hq.hgood h m).2⟩)).mono ?_;rintro e w2 ⟨⟨x, rfl, e1, e2, hlk, hA⟩, hb2⟩;have hbx : Below w2.heap.size w2 (w2.alloc x.obj) := aB (br _ _) _;have X3 := wnq w2 x.obj;have N3 := aD (aD N1 hb2) hbx;have A3 := bD (bD HA1.out hb2) hbx;have HR3 : Hid _ := bD (bD HR1.out hb2) hbx;have hA3 := hA.zL hbx;have hs2 := hb2.size;obtain ⟨w3, hw3⟩ : ∃ w3, w2.alloc x.obj = w3 := ⟨_, rfl⟩;rw [hw3] at X3 N3 A3 HR3 hA3;have HX3 : Hid _ := X3;have HA3 : Hid _ := A3;have HS3 : Hid _ := hA3;have HE1 : Hid _ := e1;have HE2 : Hid _ := e2;have HLK : Hid _ := hlk;have hs3 : w2.heap.size < w3.heap.size := (bP X3);clear k0 k1 k2;obtain ⟨k0, k1, k2⟩ := aJ A3;clear X3 A3 hA3 hA hbx hb2 N1 HA1 HR1 e1 e2 hlk;go_wp2_with fail
  clear hw3;refine (uP b nm w3 (hq.hh.zL N3) hq.hnh).mono ?_;rintro e w4 ⟨rfl, hb4⟩;have N4 := aD N3 hb4;have X4 := bD HX3.out hb4;have A4 := bD HA3.out hb4;have HR4 : Hid _ := bD HR3.out hb4;have HS4 : Hid _ := HS3.out.zL hb4;have hs4 := hb4.size;clear k0 k1 k2 hb4 HX3 HA3 HR3 HS3 N3
  have HEnd : Hid (∀ (X : World) (y : Bk), y.now = b.now -> y.fl = b.fl -> Below w.heap.size w X -> dB w1.heap.size X y -> ∀ l c, aL l y.hl -> fX b nm tl = l -> dR b nm tl = c -> pQ b (fX b nm tl) (dR b nm tl) w.heap.size (.returned (.tuple #[y.val, .int .i64 c])) (((X.setCell ⟨w.heap.size + 1, 0, none⟩ (.int .i64 y.now)).setCell ⟨w.heap.size + 1, 1, none⟩ (.slice y.fa y.fl.length y.fc)).setCell ⟨w.heap.size + 1, 2, none⟩ (.slice y.ha y.hl.length y.hc)) /\ Below w.heap.size w (((X.setCell ⟨w.heap.size + 1, 0, none⟩ (.int .i64 y.now)).setCell ⟨w.heap.size + 1, 1, none⟩ (.slice y.fa y.fl.length y.fc)).setCell ⟨w.heap.size + 1, 2, none⟩ (.slice y.ha y.hl.length y.hc))) := fun X y h1 h2 hN hS l c hl el ec => by
   refine ⟨.inr ⟨HBK.out, y, by rw [ec], h1, h2, by rw [el];exact hl, (hS.but (hset X _ _ _) (fun k hk => by rw [hk];omega)).weak (by omega)⟩, (hset X _ _ _).under hN (nlq _) (fun k hk => by rw [hk];omega)⟩
  obtain ⟨k0, k1, k2⟩ := aJ A4;have HX4 : Hid _ := X4;have HA4 : Hid _ := A4;clear X4 A4;obtain ⟨at0, hat⟩ : ∃ at0, jN b.hl nm = at0 := ⟨_, rfl⟩;have HAT : Hid (jN b.hl nm = at0) := hat;rw [hat];clear hat;go_wp2_with fail
  refine (l4 b.fl tl b.fa ta b.fc tc w4 (hq.hf.zL N4) (hq.ht.zL N4) hq.hnf hq.hnt).mono ?_;rintro e w5 ⟨rfl, hb5⟩;obtain ⟨v1, hv1⟩ : ∃ v, aK b.fl tl = v := ⟨_, rfl⟩;rw [hv1];have HV1 : Hid _ := hv1;have NN := aD N4 hb5;have HM : Hid (Below w4.heap.size w4 w5) := hb5;clear hv1 k0 k1 k2 hb5;have A5 := bD HA4.out HM.out;have X5 := bD HX4.out HM.out;have R5 := bD HR4.out HM.out;obtain ⟨r0, r1, r2⟩ := aJ R5;have rf : ∀ i, w5.frozen? ⟨w.heap.size + 1, i, none⟩ = false := fun i => by simp [World.frozen?, R5]
  obtain ⟨x0, x1, x2⟩ := aJ X5;obtain ⟨k0, k1, k2⟩ := aJ A5;clear A5 X5 R5
  cases v1 with
  | false =>
   have HC : Hid (dR b nm tl = 2 /\ fX b nm tl = b.hl) := by
    have h6 : dR b nm tl = 2 := by unfold dR gP;rw [HV1.out];rfl
    exact ⟨h6, by unfold fX iN;unfold dR at h6;rw [h6];rfl⟩
   have HN : Hid _ := NN;clear NN;go_wp2_with fail
   exact bpr (v := .tuple #[x.val, .int .i64 2]) (by simp [results, Tryz.results30, go_sem, r0, r1, r2]) rfl (HEnd.out w5 x HE1.out HE2.out HN.out (HS4.out.zL HM.out) _ _ HLK.out HC.out.2 HC.out.1)
  | true =>
  go_wp2_with fail
  refine (tZ tl ta tc b.now w5 (hq.ht.zL NN) hq.hnt).mono ?_;rintro e w6 ⟨rfl, rfl⟩;obtain ⟨v2, hv2⟩ : ∃ v, eE b.now tl = v := ⟨_, rfl⟩;rw [hv2];have HV2 : Hid _ := hv2;clear hv2
  cases v2 with
  | false =>
   have HC : Hid (dR b nm tl = 2 /\ fX b nm tl = b.hl) := by
    have h6 : dR b nm tl = 2 := by unfold dR gP;rw [HV1.out, HV2.out];rfl
    exact ⟨h6, by unfold fX iN;unfold dR at h6;rw [h6];rfl⟩
   have HN : Hid _ := NN;clear NN;go_wp2_with fail
   exact bpr (v := .tuple #[x.val, .int .i64 2]) (by simp [results, Tryz.results30, go_sem, r0, r1, r2]) rfl (HEnd.out w6 x HE1.out HE2.out HN.out (HS4.out.zL HM.out) _ _ HLK.out HC.out.2 HC.out.1)
  | true =>
  rcases rW b.hl nm with h | ⟨j, hj, h⟩
  · obtain rfl : at0 = -1 := HAT.out.symm.trans h
    have HC : Hid (dR b nm tl = 6 /\ fX b nm tl = b.hl) := by
     have h6 : dR b nm tl = 6 := by unfold dR gP;rw [HV1.out, HV2.out, h];rfl
     exact ⟨h6, by unfold fX iN;unfold dR at h6;rw [h6];rfl⟩
    have HN : Hid _ := NN;clear NN h;go_wp2_with fail
    exact bpr (v := .tuple #[x.val, .int .i64 6]) (by simp [results, Tryz.results30, go_sem, r0, r1, r2]) rfl (HEnd.out w6 x HE1.out HE2.out HN.out (HS4.out.zL HM.out) _ _ HLK.out HC.out.2 HC.out.1)
  · obtain rfl : at0 = (j : Int) := HAT.out.symm.trans h
    have hneg : decide ((j : Int) < 0) = false := by simp
    obtain ⟨bl, off, ea, hc⟩ : ∃ bl off, b.ha = some ⟨bl, off, none⟩ /\ ∀ k (h : k < b.hl.length), aM w bl (off + k * 3) b.hl[k].cells := by
     rcases hq.hh with e | e
     · rw [e] at hj;simp at hj
     · exact e
    obtain ⟨e0, e1, e2⟩ := eC ((hc j hj).zL NN);rw [ea] at k2;have hnn := (hq.hgood b.hl[j] (lgm hj)).2.nn;have hhl := hq.hnh
    cases hnl : b.hl[j].nl with
    | cons y ys =>
     have HC : Hid (dR b nm tl = 7 /\ fX b nm tl = b.hl) := by
      have h7 : dR b nm tl = 7 := by
       unfold dR gP;rw [HV1.out, HV2.out, h]
       simp [lge hj, hnl]
      exact ⟨h7, by unfold fX iN;unfold dR at h7;rw [h7];rfl⟩
     have hlen : 0 < b.hl[j].nl.length := by rw [hnl];simp
     have hgt : decide ((0 : Int) < (b.hl[j].nl.length : Int)) = true := by simp;omega
     have HN : Hid _ := NN;clear h hc ea hnl e0 e1 NN;go_wp2_with fail
     exact bpr (v := .tuple #[x.val, .int .i64 7]) (by simp [results, Tryz.results30, go_sem, r0, r1, r2]) rfl (HEnd.out w6 x HE1.out HE2.out HN.out (HS4.out.zL HM.out) _ _ HLK.out HC.out.2 HC.out.1)
    | nil =>
    have HNl : Hid (b.hl[j].nl = []) := hnl;rw [hnl] at e2;have hjb : (j : Int) < (b.hl.length : Int) := by omega
    have HEa : Hid (b.ha = some ⟨bl, off, none⟩) := ea;clear hc hnl e0 e1;go_wp2_with fail
    rw [show (Value.agg #[.int .i64 b.now, .slice b.fa b.fl.length b.fc, .slice (some ⟨bl, off, none⟩) b.hl.length b.hc]) = b.val from by rw [← HEa.out]];refine (tR b nm tl ta tc w6 (hq.zL NN)).mono ?_;rintro e w7 ⟨rfl, hb7⟩;obtain ⟨v3, hv3⟩ : ∃ v, iE nm tl b.hl = v := ⟨_, rfl⟩;rw [hv3];have HV3 : Hid _ := hv3;have NN := aD NN hb7;have HM : Hid (Below w4.heap.size w4 w7) := aD HM.out hb7;have X7 := bD HX4.out HM.out;have R7 := bD HR4.out HM.out;clear hv3 k0 k1 k2 e2 x0 x1 x2 r0 r1 r2 rf hb7;obtain ⟨r0, r1, r2⟩ := aJ R7;have rf : ∀ i, w7.frozen? ⟨w.heap.size + 1, i, none⟩ = false := fun i => by simp [World.frozen?, R7]
    obtain ⟨x0, x1, x2⟩ := aJ X7;clear X7 R7
    cases v3 with
    | false =>
     have HC : Hid (dR b nm tl = 5 /\ fX b nm tl = b.hl) := by
      have h5 : dR b nm tl = 5 := by
       unfold dR gP;rw [HV1.out, HV2.out, h]
       simp [lge hj, HNl.out, HV3.out]
      exact ⟨h5, by unfold fX iN;unfold dR at h5;rw [h5];rfl⟩
     have HN : Hid _ := NN;clear h ea NN;go_wp2_with fail
     exact bpr (v := .tuple #[x.val, .int .i64 5]) (by simp [results, Tryz.results30, go_sem, r0, r1, r2]) rfl (HEnd.out w7 x HE1.out HE2.out HN.out (HS4.out.zL HM.out) _ _ HLK.out HC.out.2 HC.out.1)
    | true =>
    have HC : Hid (dR b nm tl = 0 /\ fX b nm tl = b.hl.set j (IW tl b.hl[j])) := by
     have h0 : dR b nm tl = 0 := by
      unfold dR gP;rw [HV1.out, HV2.out, h]
      simp [lge hj, HNl.out, HV3.out]
     refine ⟨h0, ?_⟩;unfold fX iN;unfold dR at h0;rw [h0, h]
     simp [lge hj]
    have hjx : j < x.hl.length := by rw [HLK.out.len];exact hj
    obtain ⟨y, hy⟩ : ∃ y, y = x.hl[j] := ⟨_, rfl⟩;have HLi : Hid (b.hl[j].Like y) := by rw [hy];exact HLK.out.like j hj
    obtain ⟨g, cap, hxa, hxc, hgz, hcap, f, hrw, hfr⟩ : ∃ g cap, x.ha = some ⟨g, 0, none⟩ /\ x.hc = cap /\ w1.heap.size <= g /\ x.hl.length <= cap /\ fE 42 3 Hx.cells w4 g cap x.hl x.hl.length := by
     rcases HS4.out.h with ⟨_, e⟩ | ⟨g, cap, e, h1, h2, h3⟩
     · rw [e] at hjx;simp at hjx
     · simp only [Value.slice.injEq] at e
       exact ⟨g, cap, e.1, e.2.2, h1, h2, h3⟩
    have hXg : w2.heap.size ≠ g := fun e => by
     obtain ⟨cs, hcs, _⟩ := hrw;rw [← e, HX4.out] at hcs
     cases hcs
    have hRg : w.heap.size + 1 ≠ g := by omega
    have HY : Hid _ := hy;have HXa : Hid _ := hxa;have HXc : Hid (x.hc = cap) := hxc;have HTy : Hid (dC w1.heap.size w4 y) := HS4.out.t y (by rw [hy];exact lgm hjx);have HFr : Hid _ := hfr;have x0' : w4.cell? ⟨w2.heap.size, 0, none⟩ = some (.int .i64 x.now) := aH HX4.out rfl;have x1' : w4.cell? ⟨w2.heap.size, 1, none⟩ = some (.slice x.fa x.fl.length x.fc) := aH HX4.out rfl;have x2' : w4.cell? ⟨w2.heap.size, 2, none⟩ = some (.slice x.ha x.hl.length x.hc) := aH HX4.out rfl;have r0' : w4.cell? ⟨w.heap.size + 1, 0, none⟩ = some (.int .i64 0) := aH HR4.out rfl;have r1' : w4.cell? ⟨w.heap.size + 1, 1, none⟩ = some (.slice none 0 0) := aH HR4.out rfl;have r2' : w4.cell? ⟨w.heap.size + 1, 2, none⟩ = some (.slice none 0 0) := aH HR4.out rfl;rw [hxa, hxc] at x2 x2';have hjx2 : (j : Int) < (x.hl.length : Int) := by omega
    have hxl : x.hl.length <= 1048576 := by rw [HLK.out.len];exact hq.hnh
    clear hfr hy hxa hxc h ea;go_wp2_with fail
    refine wpIn_wide.1 (aT (F := Fence.wide) (n := 0) (by kernel_rfl) 5 [some 50, some 51, some 52, some 53, some 54] (by decide) (QJ w2.heap.size g x.hl.length cap j (.slice ta tl.length tc) w7.heap.size tl) QJ.zL (by kernel_rfl) (by kernel_rfl) (by kernel_rfl) ?step ?fin)
    case step =>
     intro ii o vs w' hi' ho hB hd
     match ii, hi' with
     | 0, _ | 2, _ | 3, _ =>
      simp at ho;subst ho;simp only [aE, Act.put];gi_wp2;exact ⟨_, by simp [aI], rfl, br _ _⟩
     | 1, _ =>
      simp at ho;subst ho;have d0 : vs 0 = _ := Zq hd 0;have kx := (hB.cell (aA x2)).trans x2;simp only [aE, Act.put];rw [d0];gi_wp2;exact ⟨_, by simp [aI, d0], rfl, br _ _⟩
     | 4, _ =>
      simp at ho;subst ho;have d3 : vs 3 = _ := Zq hd 3;simp only [aE, Act.put];rw [d3];gi_wp2_with fail
      refine ⟨trivial, rfl, ?_⟩;refine (cw.2 (nQ tl ta tc w' (hq.ht.zL (aD NN hB)) hq.hnt)).mono ?_;rintro e w5 ⟨⟨v5, rfl, hO5⟩, hb5⟩;have HO5 : Hid _ := hO5.weak (base' := w7.heap.size) hB.size;clear hO5;gi_wp2;exact ⟨_, by simp [aI, d3], HO5.out, hb5⟩
     | q + 5, h => exact absurd h (by omega)
    case fin =>
     intro vs w8 hB hp;have d1 : vs 1 = _ := hp 1 (by decide);have d2 : vs 2 = _ := hp 2 (by decide);have d4 : aG w8 w7.heap.size (vs 4) tl := hp 4 (by decide);obtain ⟨na, nc, hv, _⟩ := d4.slice;rw [hv] at d4;have HO : Hid (aG w8 w7.heap.size (.slice na tl.length nc) tl) := d4;have N8 := aD NN hB;have M8 := aD HM.out hB;have hr8 := hrw.of_block (M8.block _ hrw.lt);have c8 := hr8.cell (i := j * 3 + 2) (by omega);have cf := fun i => hr8.frozen i;have hs7 := HM.out.size;clear hp d4;simp only [lds, List.drop_zero, aE, Act.put];rw [d1, d2, hv];clear d1 d2 hv;generalize vs 0 = v0;generalize vs 3 = v3;have hbc : cA (fun k => k = g) w4 (w8.setCell ⟨g, j * 3 + 2, none⟩ (.slice na tl.length nc)) := (cA.below (S := fun k => k = g) M8).set (g := g) rfl _ _;have h1 := hr8.set (j * 3 + 2) (.slice na tl.length nc)
     have h2 : (fun i => if i = j * 3 + 2 then Value.slice na tl.length nc else f i) = (fun i => if i = j * 3 + 2 then Value.slice na tl.length nc else if i = j * 3 + 1 then .slice y.ta y.tl.length y.tc else f i) := by
      funext i
      by_cases e : i = j * 3 + 1
      · subst e
        rw [if_neg (by omega), if_neg (by omega), if_pos rfl, HY.out];exact HFr.out j hjx hjx 1 _ rfl
      · simp [e]
     rw [h2] at h1;have hR := fE.lists (h := y) (h' := ⟨y.n, y.ta, y.tl, y.tc, na, tl, nc⟩) h1 HFr.out (by rw [HY.out];exact lge hjx) rfl;have y0 := hbc.cell (p := ⟨w2.heap.size, 0, none⟩) hXg x0';have y1 := hbc.cell (p := ⟨w2.heap.size, 1, none⟩) hXg x1';have y2 := hbc.cell (p := ⟨w2.heap.size, 2, none⟩) hXg x2';have s0 := hbc.cell (p := ⟨w.heap.size + 1, 0, none⟩) hRg r0';have s1 := hbc.cell (p := ⟨w.heap.size + 1, 1, none⟩) hRg r1';have s2 := hbc.cell (p := ⟨w.heap.size + 1, 2, none⟩) hRg r2';have sB := dA HR4.out hbc hRg
     have hSp : dB w1.heap.size (w8.setCell ⟨g, j * 3 + 2, none⟩ (.slice na tl.length nc)) ⟨x.now, x.fa, x.fl, x.fc, x.ha, x.hl.set j ⟨y.n, y.ta, y.tl, y.tc, na, tl, nc⟩, x.hc⟩ :=
      HS4.out.put HXa.out hgz hrw hbc hR hcap HXc.out ⟨(HTy.out.butHeld hrw hbc).t, ((HO.out.weak (base' := w1.heap.size) (by omega)).setRow hr8 (by decide) _ _)⟩
     have HSp : Hid _ := hSp;have HNc : Hid _ := hbc.under N4 (nlq _) (fun k hk => by have hk' : k = g := hk;omega);obtain ⟨Wc, hWc⟩ : ∃ Wc, w8.setCell ⟨g, j * 3 + 2, none⟩ (.slice na tl.length nc) = Wc := ⟨_, rfl⟩;rw [hWc] at y0 y1 y2 s0 s1 s2 sB HSp HNc;have sf : ∀ i, Wc.frozen? ⟨w.heap.size + 1, i, none⟩ = false := fun i => by simp [World.frozen?, sB]
     have HLk : Hid (aL (b.hl.set j (IW tl b.hl[j])) (x.hl.set j ⟨y.n, y.ta, y.tl, y.tc, na, tl, nc⟩)) := HLK.out.set j ⟨HLi.out.n, HLi.out.t, rfl⟩;clear hbc hSp sB hR h1 h2 hr8 hB x0 x1 x2 x0' x1' x2' r0 r1 r2 r0' r1' r2' rf hrw NN N8 M8 N4;gi_wp2_with fail
     go_wp2_with fail
     exact bpr (v := .tuple #[Bk.val ⟨x.now, x.fa, x.fl, x.fc, x.ha, x.hl.set j ⟨y.n, y.ta, y.tl, y.tc, na, tl, nc⟩, x.hc⟩, .int .i64 0]) (by simp [results, Tryz.results30, go_sem, s0, s1, s2, HXa.out, HXc.out]) rfl (by
      have := HEnd.out Wc ⟨x.now, x.fa, x.fl, x.fc, x.ha, x.hl.set j ⟨y.n, y.ta, y.tl, y.tc, na, tl, nc⟩, x.hc⟩ HE1.out HE2.out HNc.out HSp.out _ _ HLk.out HC.out.2 HC.out.1
      simpa [HXa.out, HXc.out] using this)
set_option maxHeartbeats 16000000
def oE (b : Bk) (nw : Int) (l : List Hx) (c : Int) (z : Nat) (e : Ending) (w' : World) : Prop :=
 (aO b = false /\ e = .returned (.tuple #[Bk.val ⟨0, none, [], 0, none, [], 0⟩, .int .i64 1])) ∨
 (aO b = true /\ ∃ b' : Bk, e = .returned (.tuple #[b'.val, .int .i64 c]) /\ b'.now = nw /\ b'.fl = b.fl /\ aL l b'.hl /\ dB z w' b')
theorem dB.butBook {z P : Nat} {w w' : World} {b : Bk} {cs : Array Value} (h : dB z w b) (hb : cA (fun k => k = P) w w') (hP : w.heap[P]? = some (.cells cs 29)) : dB z w' b := by
 have no : ∀ {t n : Nat} {f : Nat -> Value}, t ≠ 29 -> w.rowIs P t n f -> False := fun ht hr => by
  obtain ⟨c, hc, _⟩ := hr;rw [hP] at hc
  cases hc
  exact ht rfl
 refine ⟨h.f.butRow hb (fun k _ _ _ hr e => by have e' : k = P := e;subst e';exact no (by decide) hr), h.h.butRow hb (fun k _ _ _ hr e => by have e' : k = P := e;subst e';exact no (by decide) hr), fun x hx => (h.t x hx).but hb (fun q hq e => ?_), h.c⟩;have e' : q = P := e;subst e';obtain ⟨_, _, r⟩ := (h.t x hx).bs_row q hq;exact no (by decide) r
theorem RD {w : World} {K : Nat} {a c d : Value} (h : w.heap[K]? = some (.cells #[a, c, d] 42)) : w.rowIs K 42 3 (fun i => (#[a, c, d] : Array Value).getD i undef) := ⟨_, h, rfl, fun i hi => by match i, hi with | 0, _ => rfl | 1, _ => rfl | 2, _ => rfl⟩
theorem LF {l : List Hx} (frm : Int) (h : ∀ x ∈ l, x.Fit) : ∀ x ∈ gG frm l, x.Fit := fun x hx => by
 unfold gG at hx;obtain ⟨y, hy, rfl⟩ := List.mem_map.1 (List.mem_filter.1 hx).1;exact AJ frm (h y hy)
theorem MU {b : Bk} {n : Int} (h : ∀ x ∈ b.hl, x.Fit) : ∀ x ∈ eY b n, x.Fit := by
 unfold eY
 split
 · exact LF _ h
 · exact h
theorem yY (b : Bk) (n : Int) (w : World) (hok : nD b w) (hf : Xs 3 Fx.cells w b.fa b.fl) (hnf : b.fl.length <= 1048576) (hh : Xs 3 Hx.cells w b.ha b.hl) (hnh : b.hl.length <= 1048576) (hg : ∀ h ∈ b.hl, h.In w /\ h.Fit) :
 Calls Tryz.prog 32 #[b.val, .int .i64 n] w fun e w' => oE b (gA b n) (eY b n) (cQ b n) w.heap.size e w' /\ Below w.heap.size w w' := by
 have hB0 : Below w.heap.size w ((w.alloc b.obj).alloc (.cells #[.int .i64 0, .slice none 0 0, .slice none 0 0] 29)) := aB (aB (br _ _) _) _;have A0 := (halq (w.alloc b.obj) (.cells #[.int .i64 0, .slice none 0 0, .slice none 0 0] 29) w.heap.size (by simp)).trans (wnq w b.obj);have R0 := wnq (w.alloc b.obj) (.cells #[.int .i64 0, .slice none 0 0, .slice none 0 0] 29);rw [wsa] at R0
 go_enter Tryz.func32, Tryz.ntmps32
 go_wp2_with fail
 obtain ⟨W0, hW0⟩ : ∃ W0, (w.alloc b.obj).alloc (.cells #[.int .i64 0, .slice none 0 0, .slice none 0 0] 29) = W0 := ⟨_, rfl⟩;rw [hW0] at hB0 A0 R0 ⊢;have hz1 : w.heap.size + 1 < W0.heap.size := (bP R0);clear hW0;refine (hok W0 hB0).mono ?_;rintro e w1 ⟨rfl, hb1⟩;have N1 := aD hB0 hb1;have A1 := bD A0 hb1;have R1 := bD R0 hb1;have hs1 := hb1.size;clear A0 R0 hb1 hB0 hok;have hset : ∀ (X : World) (u v x : Value), cA (fun k => k = w.heap.size + 1) X (((X.setCell ⟨w.heap.size + 1, 0, none⟩ u).setCell ⟨w.heap.size + 1, 1, none⟩ v).setCell ⟨w.heap.size + 1, 2, none⟩ x) := fun X u v x => (((cA.refl (fun k => k = w.heap.size + 1) X).set (g := w.heap.size + 1) rfl _ _).set (g := w.heap.size + 1) rfl _ _).set (g := w.heap.size + 1) rfl _ _
 cases hbk : aO b with
 | false =>
  have HBK : Hid _ := hbk;obtain ⟨r0, r1, r2⟩ := aJ R1;have rf : ∀ i, w1.frozen? ⟨w.heap.size + 1, i, none⟩ = false := fun i => by simp [World.frozen?, R1]
  clear A1 R1 hbk;go_wp2_with fail
  exact bpr (v := .tuple #[Bk.val ⟨0, none, [], 0, none, [], 0⟩, .int .i64 1]) (by simp [results, Tryz.results32, go_sem, r0, r1, r2]) rfl ⟨.inl ⟨HBK.out, rfl⟩, (hset w1 _ _ _).under N1 (nlq _) (fun k hk => by rw [hk];omega)⟩
 | true =>
  have HBK : Hid _ := hbk;obtain ⟨k0, k1, k2⟩ := aJ A1;have HA1 : Hid _ := A1;have HR1 : Hid _ := R1;clear A1 R1 hbk;go_wp2_with fail
  refine (iI b w1 (hf.zL N1) hnf (hh.zL N1) hnh (fun h m => ⟨(hg h m).1.zL N1, (hg h m).2⟩)).mono ?_;rintro e w2 ⟨⟨x, rfl, e1, e2, hlk, hA⟩, hb2⟩;have hbx : Below w2.heap.size w2 (w2.alloc x.obj) := aB (br _ _) _;have X3 := wnq w2 x.obj;have N3 := aD (aD N1 hb2) hbx;have A3 := bD (bD HA1.out hb2) hbx;have HR3 : Hid _ := bD (bD HR1.out hb2) hbx;have hA3 := hA.zL hbx;have hs2 := hb2.size;obtain ⟨w3, hw3⟩ : ∃ w3, w2.alloc x.obj = w3 := ⟨_, rfl⟩;rw [hw3] at X3 N3 A3 HR3 hA3;have HX3 : Hid _ := X3;have HA3 : Hid _ := A3;have HS3 : Hid _ := hA3;have HE1 : Hid _ := e1;have HE2 : Hid _ := e2;have HLK : Hid _ := hlk;have hs3 : w2.heap.size < w3.heap.size := (bP X3);clear k0 k1 k2;obtain ⟨k0, k1, k2⟩ := aJ A3;clear X3 A3 hA3 hA hbx hb2 N1 HA1 HR1 e1 e2 hlk;have hnow := AA HBK.out;have h16 := pY HBK.out;obtain ⟨hn0, hn1⟩ := hnow
  have HEnd : Hid (∀ (X : World) (y : Bk), y.now = gA b n -> y.fl = b.fl -> Below w.heap.size w X -> dB w1.heap.size X y -> ∀ c, aL (eY b n) y.hl -> cQ b n = c -> oE b (gA b n) (eY b n) (cQ b n) w.heap.size (.returned (.tuple #[y.val, .int .i64 c])) (((X.setCell ⟨w.heap.size + 1, 0, none⟩ (.int .i64 y.now)).setCell ⟨w.heap.size + 1, 1, none⟩ (.slice y.fa y.fl.length y.fc)).setCell ⟨w.heap.size + 1, 2, none⟩ (.slice y.ha y.hl.length y.hc)) /\ Below w.heap.size w (((X.setCell ⟨w.heap.size + 1, 0, none⟩ (.int .i64 y.now)).setCell ⟨w.heap.size + 1, 1, none⟩ (.slice y.fa y.fl.length y.fc)).setCell ⟨w.heap.size + 1, 2, none⟩ (.slice y.ha y.hl.length y.hc))) := fun X y h1 h2 hN hS c hl ec =>
   ⟨.inr ⟨HBK.out, y, by rw [ec], h1, h2, hl, (hS.but (hset X _ _ _) (fun k hk => by rw [hk];omega)).weak (by omega)⟩, (hset X _ _ _).under hN (nlq _) (fun k hk => by rw [hk];omega)⟩
  obtain ⟨x0, x1, x2⟩ := aJ HX3.out;have xf : ∀ i, w3.frozen? ⟨w2.heap.size, i, none⟩ = false := fun i => by simp [World.frozen?, HX3.out]
  obtain ⟨r0, r1, r2⟩ := aJ HR3.out;have rf : ∀ i, w3.frozen? ⟨w.heap.size + 1, i, none⟩ = false := fun i => by simp [World.frozen?, HR3.out]
  have HN3 : Hid _ := N3;have HNo : Hid (cQ b n = 2 -> x.now = gA b n /\ aL (eY b n) x.hl) := fun h => ⟨by unfold gA;rw [h];exact HE1.out, by unfold eY;rw [h];exact HLK.out⟩;clear N3
  by_cases h1 : n < 0
  · have hd1 : decide (n < 0) = true := by simp [h1]
    have HC : Hid (cQ b n = 2) := by
     have : cQ b n = 2 := by unfold cQ;rw [if_pos (.inl h1)]
     exact this
    clear h1;go_wp2_with fail
    exact bpr (v := .tuple #[x.val, .int .i64 2]) (by simp [results, Tryz.results32, go_sem, r0, r1, r2]) rfl (HEnd.out w3 x (HNo.out HC.out).1 HE2.out HN3.out HS3.out _ (HNo.out HC.out).2 HC.out)
  have hd1 : decide (n < 0) = false := by simp;omega
  by_cases h2 : 10000 < n
  · have hd2 : decide (10000 < n) = true := by simp [h2]
    have HC : Hid (cQ b n = 2) := by
     have : cQ b n = 2 := by unfold cQ;rw [if_pos (.inr (by omega))]
     exact this
    clear h2;go_wp2_with fail
    exact bpr (v := .tuple #[x.val, .int .i64 2]) (by simp [results, Tryz.results32, go_sem, r0, r1, r2]) rfl (HEnd.out w3 x (HNo.out HC.out).1 HE2.out HN3.out HS3.out _ (HNo.out HC.out).2 HC.out)
  have hd2 : decide (10000 < n) = false := by simp;omega
  by_cases h3 : 10000 < b.now + n
  · have hd3 : decide (10000 < b.now + n) = true := by simp [h3]
    have HC : Hid (cQ b n = 2) := by
     have : cQ b n = 2 := by unfold cQ;rw [if_pos (.inr (by omega))]
     exact this
    clear h3;go_wp2_with fail
    exact bpr (v := .tuple #[x.val, .int .i64 2]) (by simp [results, Tryz.results32, go_sem, r0, r1, r2]) rfl (HEnd.out w3 x (HNo.out HC.out).1 HE2.out HN3.out HS3.out _ (HNo.out HC.out).2 HC.out)
  have hd3 : decide (10000 < b.now + n) = false := by simp;omega
  have HC : Hid (cQ b n = 0) := by
   have : cQ b n = 0 := by unfold cQ;rw [if_neg (by omega)]
   exact this
  obtain ⟨j0, hih, hy0, hy1, hy2⟩ := info_parts Tryz.info42;have hxn : x.now = b.now := HE1.out;rw [hxn] at x0;have Xn := cB HX3.out 0 (.int .i64 (b.now + n));have bN : cA (fun k => k = w2.heap.size) w3 (w3.setCell ⟨w2.heap.size, 0, none⟩ (.int .i64 (b.now + n))) := (cA.refl (fun k => k = w2.heap.size) w3).set (g := w2.heap.size) rfl _ _;have HSn : Hid (dB w1.heap.size (w3.setCell ⟨w2.heap.size, 0, none⟩ (.int .i64 (b.now + n))) x) := HS3.out.butBook bN HX3.out;have HRn : Hid _ := dA HR3.out bN (fun e => by have e' : w.heap.size + 1 = w2.heap.size := e;omega);have HNn : Hid _ := bN.under HN3.out (nlq _) (fun k hk => by have hk' : k = w2.heap.size := hk;omega);have hszn : (w3.setCell ⟨w2.heap.size, 0, none⟩ (.int .i64 (b.now + n))).heap.size = w3.heap.size := by simp
  obtain ⟨Wn, hWn⟩ : ∃ Wn, w3.setCell ⟨w2.heap.size, 0, none⟩ (.int .i64 (b.now + n)) = Wn := ⟨_, rfl⟩;rw [hWn] at Xn HSn HRn HNn hszn;have HXn : Hid (Wn.heap[w2.heap.size]? = some (.cells #[.int .i64 (b.now + n), .slice x.fa x.fl.length x.fc, .slice x.ha x.hl.length x.hc] 29)) := Xn;have hzn : w1.heap.size <= Wn.heap.size := by omega
  have hxl : x.hl.length <= 16 := by rw [HLK.out.len];exact h16
  have HFt : Hid (∀ h ∈ x.hl, h.Fit) := HLK.out.fit (fun h m => (hg h m).2);clear Xn bN hszn hxn;go_wp2_with fail
  clear hWn x0 x1 x2 xf r0 r1 r2 rf hd1 hd2 hd3
  go_loopw [7, 8] (fun v iv wr => ∃ (d0 rs dn : List Hx) (vv : Value), Hid (x.hl = d0 ++ rs) /\ v = vv /\ iv = .int .i64 (d0.length : Int) /\ PM Wn (b.now + n) d0 dn vv wr) (fun _ iv _ => x.hl.length - (intOf iv).toNat)
  case atStart => exact ⟨[], x.hl, [], _, rfl, rfl, rfl, ⟨aB (br _ _) _, by simpa [aN] using World.ownsRow_lit (base := Wn.heap.size) (e := 42) (size := 3) Wn #[] 0 (nlq _) (nz _) rfl, ⟨rfl, fun k h => by simp [gG] at h⟩, fun x hx => by simp at hx, by simp⟩⟩
  case round =>
   obtain ⟨d0, rs, dn, v, hm, rfl, rfl, hS⟩ := hrel;have hml : x.hl.length = d0.length + rs.length := by rw [hm.out];simp
   have HS : Hid (PM Wn (b.now + n) d0 dn _ wr) := hS;have Xr := bD HXn.out hS.n;have x2 : wr.cell? ⟨w2.heap.size, 2, none⟩ = some (.slice x.ha x.hl.length x.hc) := aH Xr rfl
   cases rs with
   | cons y rs =>
    have hlt : d0.length < x.hl.length := by rw [hml];simp
    have hxe : x.hl[d0.length] = y := by
     have : x.hl[d0.length]? = some y := by rw [hm.out, List.getElem?_append_right (nlq _), Nat.sub_self];rfl
     rw [lge hlt] at this;exact Option.some.inj this
    have hmem : y ∈ x.hl := by rw [← hxe];exact lgm hlt
    have hxf := HFt.out y hmem
    obtain ⟨g, ha, fv, hrow, hfv, hcp⟩ : ∃ g, x.ha = some ⟨g, 0, none⟩ /\ ∃ fv, Wn.rowIs g 42 (x.hc * 3) fv /\ (∀ i (h : i < x.hl.length), i < x.hl.length -> ∀ q u, (x.hl[i].cells)[q]? = some u -> fv (i * 3 + q) = u) /\ x.hl.length <= x.hc := by
     rcases HSn.out.h with ⟨_, e⟩ | ⟨g, cap, e, h1, h2, fv, h3, h4⟩
     · rw [e] at hlt;simp at hlt
     · simp only [Value.slice.injEq] at e
       obtain ⟨e1, _, rfl⟩ := e;exact ⟨g, e1, fv, h3, h4, h2⟩
    have hrw := hrow.of_block (hS.n.block _ hrow.lt);have e0 := hrw.cell (i := d0.length * 3 + 0) (by omega);have e1 := hrw.cell (i := d0.length * 3 + 1) (by omega);have e2 := hrw.cell (i := d0.length * 3 + 2) (by omega);rw [show fv (d0.length * 3 + 0) = .string y.n from by rw [← hxe];exact hfv d0.length hlt hlt 0 _ rfl] at e0;rw [show fv (d0.length * 3 + 1) = .slice y.ta y.tl.length y.tc from by rw [← hxe];exact hfv d0.length hlt hlt 1 _ rfl] at e1;rw [show fv (d0.length * 3 + 2) = .slice y.na y.nl.length y.nc from by rw [← hxe];exact hfv d0.length hlt hlt 2 _ rfl] at e2;rw [Nat.add_zero] at e0;have hyi : y.In Wn := dB.inn HSn.out y hmem;have HMN : Hid (x.hl = (d0 ++ [y]) ++ rs) := by rw [Hid, hm.out];simp
    have M2 : Below wr.heap.size wr (wr.alloc (.cells #[.string y.n, .slice y.ta y.tl.length y.tc, .slice y.na y.nl.length y.nc] 42)) := aB (br _ _) _;have Y2 := wnq wr (.cells #[.string y.n, .slice y.ta y.tl.length y.tc, .slice y.na y.nl.length y.nc] 42);have hp2 : Wn.heap.size <= wr.heap.size := hS.n.size;have HYr : Hid (y.In wr) := hyi.zL hS.n;have HXI : Hid (y.In (wr.alloc (.cells #[.string y.n, .slice y.ta y.tl.length y.tc, .slice y.na y.nl.length y.nc] 42))) := (hyi.zL hS.n).zL M2;have q0 : (wr.alloc (.cells #[.string y.n, .slice y.ta y.tl.length y.tc, .slice y.na y.nl.length y.nc] 42)).cell? ⟨w2.heap.size, 0, none⟩ = some (.int .i64 (b.now + n)) := aH (bD Xr M2) rfl;have hsz2 : (wr.alloc (.cells #[.string y.n, .slice y.ta y.tl.length y.tc, .slice y.na y.nl.length y.nc] 42)).heap.size = wr.heap.size + 1 := by simp
    obtain ⟨W2, hW2⟩ : ∃ W2, wr.alloc (.cells #[.string y.n, .slice y.ta y.tl.length y.tc, .slice y.na y.nl.length y.nc] 42) = W2 := ⟨_, rfl⟩;rw [hW2] at M2 Y2 HXI q0 hsz2;have HY2 : Hid (W2.heap[wr.heap.size]? = some (.cells #[.string y.n, .slice y.ta y.tl.length y.tc, .slice y.na y.nl.length y.nc] 42)) := Y2;obtain ⟨y0, y1, y2⟩ := aJ Y2;have HW : Hid (Wn.heap.size <= W2.heap.size /\ ∀ z ∈ dn, ∀ q ∈ z.bs, q < W2.heap.size) := ⟨by omega, fun z hz q hq => by have := ((hS.t z hz).bs_in q hq).2;omega⟩;have hXK : w2.heap.size ≠ wr.heap.size := by have := (bP HXn.out);omega
    have htn := hxf.tn;have hnn := hxf.nn;rw [ha] at x2;clear hfv hrow hrw hxe hmem hyi hS hm Y2 ha hml Xr;go_wp2_with fail
    clear hW2 e0 e1 e2 x2;refine (sR y.tl y.ta y.tc (b.now + n) W2 HXI.out.1 hxf.tn).mono ?_;rintro e w4 ⟨v1, rfl, ho1, hb4⟩;obtain ⟨a1, c1, rfl, _⟩ := ho1.slice;obtain ⟨la, hla⟩ : ∃ la, (aQ (b.now + n) y.tl).length = la := ⟨_, rfl⟩;have HLa : Hid ((aQ (b.now + n) y.tl).length = la) := hla;have hl1 := c6 (b.now + n) y.tl;rw [hla] at ho1 hl1 ⊢;clear hla;have hs4 := hb4.size;have r4 := (RD HY2.out).of_block (hb4.block _ (RD HY2.out).lt);have k1 : w4.cell? ⟨wr.heap.size, 1, none⟩ = some (.slice y.ta y.tl.length y.tc) := r4.cell (i := 1) (by decide);have kf := fun i => r4.frozen i;have q4 := (hb4.cell (aA q0)).trans q0;have r5 := r4.set 1 (.slice a1 la c1);have b5 : cA (fun k => k = wr.heap.size) w4 (w4.setCell ⟨wr.heap.size, 1, none⟩ (.slice a1 la c1)) := (cA.refl (fun k => k = wr.heap.size) w4).set (g := wr.heap.size) rfl _ _;have k5 : (w4.setCell ⟨wr.heap.size, 1, none⟩ (.slice a1 la c1)).cell? ⟨wr.heap.size, 2, none⟩ = some (.slice y.na y.nl.length y.nc) := r5.cell (i := 2) (by decide);have q5 := b5.cell (p := ⟨w2.heap.size, 0, none⟩) hXK q4;have M5 := b5.under (aD M2 hb4) (nlq _) (fun k hk => by have hk' : k = wr.heap.size := hk;omega);have HO1 : Hid (aG (w4.setCell ⟨wr.heap.size, 1, none⟩ (.slice a1 la c1)) W2.heap.size (.slice a1 la c1) (aQ (b.now + n) y.tl)) := aG.but ho1 b5 (fun u e hk => by have hk' : u.block = wr.heap.size := hk;have := ho1.blkGe (q := u.block) (by rw [ho1.adr, e];rfl);omega);have hsz5 : (w4.setCell ⟨wr.heap.size, 1, none⟩ (.slice a1 la c1)).heap.size = w4.heap.size := by simp
    obtain ⟨w5, hw5⟩ : ∃ w5, w4.setCell ⟨wr.heap.size, 1, none⟩ (.slice a1 la c1) = w5 := ⟨_, rfl⟩;rw [hw5] at r5 k5 q5 M5 HO1 hsz5;have hs5 : W2.heap.size <= w5.heap.size := by omega
    have HI5 : Hid (iH w5 y.na y.nl) := HYr.out.2.zL M5;have HR5 : Hid (w5.rowIs wr.heap.size 42 3 _) := r5;clear y0 y1 y2 q0 q4 r4 r5 b5 ho1 hb4 hsz5;go_wp2_with fail
    clear hw5 k1 kf;refine (sR y.nl y.na y.nc (b.now + n) w5 HI5.out hxf.nn).mono ?_;rintro e w7 ⟨v2, rfl, ho2, hb7⟩;obtain ⟨a2, c2, rfl, _⟩ := ho2.slice;obtain ⟨lb, hlb⟩ : ∃ lb, (aQ (b.now + n) y.nl).length = lb := ⟨_, rfl⟩;have HLb : Hid ((aQ (b.now + n) y.nl).length = lb) := hlb;have hl2 := c6 (b.now + n) y.nl;rw [hlb] at ho2 hl2 ⊢;clear hlb;have hs7 := hb7.size;have r7 := HR5.out.of_block (hb7.block _ HR5.out.lt);have k2 : w7.cell? ⟨wr.heap.size, 2, none⟩ = some (.slice y.na y.nl.length y.nc) := r7.cell (i := 2) (by decide);have kf := fun i => r7.frozen i;have b8 : cA (fun k => k = wr.heap.size) w7 (w7.setCell ⟨wr.heap.size, 2, none⟩ (.slice a2 lb c2)) := (cA.refl (fun k => k = wr.heap.size) w7).set (g := wr.heap.size) rfl _ _;have r8 := r7.set 2 (.slice a2 lb c2);have k80 : (w7.setCell ⟨wr.heap.size, 2, none⟩ (.slice a2 lb c2)).cell? ⟨wr.heap.size, 0, none⟩ = some (.string y.n) := r8.cell (i := 0) (by decide);have k81 : (w7.setCell ⟨wr.heap.size, 2, none⟩ (.slice a2 lb c2)).cell? ⟨wr.heap.size, 1, none⟩ = some (.slice a1 la c1) := r8.cell (i := 1) (by decide);have k82 : (w7.setCell ⟨wr.heap.size, 2, none⟩ (.slice a2 lb c2)).cell? ⟨wr.heap.size, 2, none⟩ = some (.slice a2 lb c2) := r8.cell (i := 2) (by decide);have k8f := fun i => r8.frozen i;have M8 := b8.under (aD M5 hb7) (nlq _) (fun k hk => by have hk' : k = wr.heap.size := hk;omega);have hge1 : ∀ u : Addr, a1 = some u -> W2.heap.size <= u.block := fun u e => HO1.out.blkGe (q := u.block) (by rw [HO1.out.adr, e];rfl);have hlt1 : ∀ u : Addr, a1 = some u -> u.block < w5.heap.size := fun u e => HO1.out.blkLt (q := u.block) (by rw [HO1.out.adr, e];rfl);have hge2 : ∀ u : Addr, a2 = some u -> w5.heap.size <= u.block := fun u e => ho2.blkGe (q := u.block) (by rw [ho2.adr, e];rfl);have HO1' : Hid (aG (w7.setCell ⟨wr.heap.size, 2, none⟩ (.slice a2 lb c2)) W2.heap.size (.slice a1 la c1) (aQ (b.now + n) y.tl)) := aG.but (HO1.out.zL hb7) b8 (fun u e hk => by have hk' : u.block = wr.heap.size := hk;have := hge1 u e;omega);have HO2 : Hid (aG (w7.setCell ⟨wr.heap.size, 2, none⟩ (.slice a2 lb c2)) W2.heap.size (.slice a2 lb c2) (aQ (b.now + n) y.nl)) := aG.weak (aG.but ho2 b8 (fun u e hk => by have hk' : u.block = wr.heap.size := hk;have := hge2 u e;omega)) hs5
    have HDis : Hid (∀ q ∈ (a1.map Addr.block).toList, ∀ r ∈ (a2.map Addr.block).toList, q ≠ r) := fun q hq r hr e => by
     cases a1 with
     | none => simp at hq
     | some u1 => cases a2 with
      | none => simp at hr
      | some u2 =>
       simp at hq hr;have h1 := hlt1 u1 rfl;have h2 := hge2 u2 rfl;omega
    obtain ⟨w8, hw8⟩ : ∃ w8, w7.setCell ⟨wr.heap.size, 2, none⟩ (.slice a2 lb c2) = w8 := ⟨_, rfl⟩;rw [hw8] at r8 k80 k81 k82 k8f M8 HO1' HO2;have HR8 : Hid (w8.rowIs wr.heap.size 42 3 _) := r8;have hs8 : w7.heap.size <= w8.heap.size := by rw [← hw8];exact b8.size
    clear q5 k5 r7 r8 b8 ho2 hb7 HO1 HI5 HR5 hge1 hlt1 hge2 M5;have hsw := M8.size;have HW8 : Hid (Wn.heap.size <= W2.heap.size /\ ∀ z ∈ dn, ∀ q ∈ z.bs, q < W2.heap.size) := HW.out
    by_cases hz : aQ (b.now + n) y.tl = []
    · have HCH : Hid (eO (b.now + n) y = ⟨y.n, none, aQ (b.now + n) y.nl, 0, none, [], 0⟩) := by
       have : eO (b.now + n) y = ⟨y.n, none, aQ (b.now + n) y.nl, 0, none, [], 0⟩ := by unfold eO;rw [if_pos hz]
       exact this
      obtain rfl : la = 0 := by rw [← HLa.out, hz];rfl
      clear hz hl1;have ra := HR8.out.set 1 (.slice a2 lb c2);have ba : cA (fun k => k = wr.heap.size) w8 (w8.setCell ⟨wr.heap.size, 1, none⟩ (.slice a2 lb c2)) := (cA.refl (fun k => k = wr.heap.size) w8).set (g := wr.heap.size) rfl _ _;obtain ⟨Wa, hWa⟩ : ∃ Wa, w8.setCell ⟨wr.heap.size, 1, none⟩ (.slice a2 lb c2) = Wa := ⟨_, rfl⟩;rw [hWa] at ra ba;have hsa : w8.heap.size <= Wa.heap.size := ba.size;have hE := wnq Wa (.cells #[] 89);have hba : Below Wa.heap.size Wa (Wa.alloc (.cells #[] 89)) := aB (br _ _) _;have rb := ra.alloc (.cells #[] 89);have cb : (Wa.alloc (.cells #[] 89)).cell? ⟨wr.heap.size, 2, none⟩ = some (.slice a2 lb c2) := rb.cell (i := 2) (by decide);have cbf := fun i => rb.frozen i;obtain ⟨Wb, hWb⟩ : ∃ Wb, Wa.alloc (.cells #[] 89) = Wb := ⟨_, rfl⟩;rw [hWb] at hE hba rb cb cbf;have rcc := rb.set 2 (.slice (some ⟨Wa.heap.size, 0, none⟩) 0 0);have bc : cA (fun k => k = wr.heap.size) w8 (Wb.setCell ⟨wr.heap.size, 2, none⟩ (.slice (some ⟨Wa.heap.size, 0, none⟩) 0 0)) := (ba.trans (cA.below hba)).set (g := wr.heap.size) rfl _ _;have cc0 : (Wb.setCell ⟨wr.heap.size, 2, none⟩ (.slice (some ⟨Wa.heap.size, 0, none⟩) 0 0)).cell? ⟨wr.heap.size, 0, none⟩ = some (.string y.n) := rcc.cell (i := 0) (by decide);have cc1 : (Wb.setCell ⟨wr.heap.size, 2, none⟩ (.slice (some ⟨Wa.heap.size, 0, none⟩) 0 0)).cell? ⟨wr.heap.size, 1, none⟩ = some (.slice a2 lb c2) := rcc.cell (i := 1) (by decide);have cc2 : (Wb.setCell ⟨wr.heap.size, 2, none⟩ (.slice (some ⟨Wa.heap.size, 0, none⟩) 0 0)).cell? ⟨wr.heap.size, 2, none⟩ = some (.slice (some ⟨Wa.heap.size, 0, none⟩) 0 0) := rcc.cell (i := 2) (by decide);have Ec := aZ hE (p := ⟨wr.heap.size, 2, none⟩) (by show Wa.heap.size ≠ wr.heap.size;omega) (.slice (some ⟨Wa.heap.size, 0, none⟩) 0 0);have Mc := bc.under M8 (nlq _) (fun k hk => by have hk' : k = wr.heap.size := hk;omega);have hge2 : ∀ u : Addr, a2 = some u -> W2.heap.size <= u.block := fun u e => HO2.out.blkGe (q := u.block) (by rw [HO2.out.adr, e];rfl);have hlt2 : ∀ u : Addr, a2 = some u -> u.block < w8.heap.size := fun u e => HO2.out.blkLt (q := u.block) (by rw [HO2.out.adr, e];rfl);have HTc : Hid (dC W2.heap.size (Wb.setCell ⟨wr.heap.size, 2, none⟩ (.slice (some ⟨Wa.heap.size, 0, none⟩) 0 0)) (⟨y.n, a2, aQ (b.now + n) y.nl, c2, some ⟨Wa.heap.size, 0, none⟩, [], 0⟩ : Hx)) := ⟨by show aG _ _ (.slice a2 (aQ (b.now + n) y.nl).length c2) _;rw [HLb.out];exact aG.but HO2.out bc (fun u e hk => by have hk' : u.block = wr.heap.size := hk;have := hge2 u e;omega), uI Ec (by omega)⟩
      have HDk : Hid ((⟨y.n, a2, aQ (b.now + n) y.nl, c2, some ⟨Wa.heap.size, 0, none⟩, [], 0⟩ : Hx).bs.Nodup) := by
       simp only [Hid, Hx.bs];rw [List.nodup_append];refine ⟨fA _, fA _, fun q hq r hr e => ?_⟩
       cases a2 with
       | none => simp at hq
       | some u2 =>
        simp at hq hr;have := hlt2 u2 rfl;omega
      obtain ⟨Wc, hWc⟩ : ∃ Wc, Wb.setCell ⟨wr.heap.size, 2, none⟩ (.slice (some ⟨Wa.heap.size, 0, none⟩) 0 0) = Wc := ⟨_, rfl⟩;rw [hWc] at cc0 cc1 cc2 Mc HTc;have HSz : Hid _ := HS.out.zL Mc;have HLk : Hid ((eO (b.now + n) y).Like (⟨y.n, a2, aQ (b.now + n) y.nl, c2, some ⟨Wa.heap.size, 0, none⟩, [], 0⟩ : Hx)) := by rw [Hid, HCH.out];exact ⟨rfl, rfl, rfl⟩
      have hszc := Mc.size;clear ra ba rb rcc bc hE hba Ec hge2 hlt2 M8
      by_cases hz2 : aQ (b.now + n) y.nl = []
      · have HZ : Hid ((eO (b.now + n) y).tl = []) := by rw [Hid, HCH.out];exact hz2
        obtain rfl : lb = 0 := by rw [← HLb.out, hz2];rfl
        clear hz2 hl2;go_wp2_with fail
        go_roundw
        case rel => exact ⟨d0 ++ [y], rs, dn, _, HMN, rfl, by simp, HSz.out.skip HZ.out⟩
        case measure => simp [intOf];omega
      · have hpos : 0 < lb := by rw [← HLb.out];exact List.length_pos_iff.2 hz2
        have HZ : Hid ((eO (b.now + n) y).tl ≠ []) := by rw [Hid, HCH.out];exact hz2
        have hgt : decide ((0 : Int) < (lb : Int)) = true := by simp;omega
        clear hz2
        go_wp2_with (at_builtin;refine wpList_append_own _ rfl (.tmp 73) (.tmp 75) 27 rfl Wn.heap.size 42 j0 _ 3 64 Tryz.underlying27 hih hy0 hy1 hy2 rfl (by decide) _ dn.length (aN Hx.cells dn) rfl (HSz.out.h.alloc _) ⟨Wc.heap.size, 0, none⟩ 1 1 (Hx.cells (⟨y.n, a2, aQ (b.now + n) y.nl, c2, some ⟨Wa.heap.size, 0, none⟩, [], 0⟩ : Hx)) rfl rfl ?qc1 (jI _) ?qc3 ?qc4 ?qc5 ?_)
        case qc1 =>
         intro j u h;rw [Addr.add_lit, Nat.zero_add]
         match j, h with
         | 0, h => simp [Hx.cells] at h;subst h;exact aH (wnq Wc _) rfl
         | 1, h => simp [Hx.cells] at h;subst h;first | exact aH (wnq Wc _) rfl | (rw [HLb.out];exact aH (wnq Wc _) rfl) | (rw [HLa.out];exact aH (wnq Wc _) rfl)
         | 2, h => simp [Hx.cells] at h;subst h;first | exact aH (wnq Wc _) rfl | (rw [HLb.out];exact aH (wnq Wc _) rfl)
        case qc3 => have := HSz.out.len;unfold maxLen;omega
        case qc4 => have := HSz.out.len;omega
        case qc5 => have := HSz.out.n.size;(try simp);omega
        intro v' w6 hown hgr _;have HN : Hid _ := (HSz.out.zL (aB (br _ _) _)).grow HLk.out HZ.out (HTc.out.zL (aB (br _ _) _)) HDk.out HW.out hown hgr;clear hown hgr;go_wp2_with fail
        go_roundw
        case rel => exact ⟨d0 ++ [y], rs, dn ++ [(⟨y.n, a2, aQ (b.now + n) y.nl, c2, some ⟨Wa.heap.size, 0, none⟩, [], 0⟩ : Hx)], _, HMN, rfl, by simp, HN.out⟩
        case measure => simp [intOf];omega
    · have HCH : Hid (eO (b.now + n) y = ⟨y.n, none, aQ (b.now + n) y.tl, 0, none, aQ (b.now + n) y.nl, 0⟩) := by
       have : eO (b.now + n) y = ⟨y.n, none, aQ (b.now + n) y.tl, 0, none, aQ (b.now + n) y.nl, 0⟩ := by unfold eO;rw [if_neg hz]
       exact this
      have hpos : 0 < la := by rw [← HLa.out];exact List.length_pos_iff.2 hz
      have HZ : Hid ((eO (b.now + n) y).tl ≠ []) := by rw [Hid, HCH.out];exact hz
      have hgt : decide ((0 : Int) < (la : Int)) = true := by simp;omega
      have hz0 : ((la : Int) == 0) = false := beq_false_of_ne (by omega);have HTc : Hid (dC W2.heap.size w8 (⟨y.n, a1, aQ (b.now + n) y.tl, c1, a2, aQ (b.now + n) y.nl, c2⟩ : Hx)) := ⟨by show aG _ _ (.slice a1 (aQ (b.now + n) y.tl).length c1) _;rw [HLa.out];exact HO1'.out, by show aG _ _ (.slice a2 (aQ (b.now + n) y.nl).length c2) _;rw [HLb.out];exact HO2.out⟩
      have HDk : Hid ((⟨y.n, a1, aQ (b.now + n) y.tl, c1, a2, aQ (b.now + n) y.nl, c2⟩ : Hx).bs.Nodup) := by
       simp only [Hid, Hx.bs];rw [List.nodup_append];exact ⟨fA _, fA _, fun q hq r hr e => HDis.out q hq r hr e⟩
      have HSz : Hid _ := HS.out.zL M8;have HLk : Hid ((eO (b.now + n) y).Like (⟨y.n, a1, aQ (b.now + n) y.tl, c1, a2, aQ (b.now + n) y.nl, c2⟩ : Hx)) := by rw [Hid, HCH.out];exact ⟨rfl, rfl, rfl⟩
      clear hz M8
      go_wp2_with (at_builtin;refine wpList_append_own _ rfl (.tmp 73) (.tmp 75) 27 rfl Wn.heap.size 42 j0 _ 3 64 Tryz.underlying27 hih hy0 hy1 hy2 rfl (by decide) _ dn.length (aN Hx.cells dn) rfl (HSz.out.h.alloc _) ⟨w8.heap.size, 0, none⟩ 1 1 (Hx.cells (⟨y.n, a1, aQ (b.now + n) y.tl, c1, a2, aQ (b.now + n) y.nl, c2⟩ : Hx)) rfl rfl ?qc1 (jI _) ?qc3 ?qc4 ?qc5 ?_)
      case qc1 =>
       intro j u h;rw [Addr.add_lit, Nat.zero_add]
       match j, h with
       | 0, h => simp [Hx.cells] at h;subst h;exact aH (wnq w8 _) rfl
       | 1, h => simp [Hx.cells] at h;subst h;first | exact aH (wnq w8 _) rfl | (rw [HLb.out];exact aH (wnq w8 _) rfl) | (rw [HLa.out];exact aH (wnq w8 _) rfl)
       | 2, h => simp [Hx.cells] at h;subst h;first | exact aH (wnq w8 _) rfl | (rw [HLb.out];exact aH (wnq w8 _) rfl)
      case qc3 => have := HSz.out.len;unfold maxLen;omega
      case qc4 => have := HSz.out.len;omega
      case qc5 => have := HSz.out.n.size;(try simp);omega
      intro v' w6 hown hgr _;have HN : Hid _ := (HSz.out.zL (aB (br _ _) _)).grow HLk.out HZ.out (HTc.out.zL (aB (br _ _) _)) HDk.out HW.out hown hgr;clear hown hgr;go_wp2_with fail
      go_roundw
      case rel => exact ⟨d0 ++ [y], rs, dn ++ [(⟨y.n, a1, aQ (b.now + n) y.tl, c1, a2, aQ (b.now + n) y.nl, c2⟩ : Hx)], _, HMN, rfl, by simp, HN.out⟩
      case measure => simp [intOf];omega
   | nil =>
    have hd0 : x.hl = d0 := by simpa using hm.out
    have hge : x.hl.length <= d0.length := by rw [hd0];exact nlq _
    have ho := iB Hx.cells_length hS.h;obtain ⟨ah, ch, hv⟩ := bJ.slice ho;have HO : Hid (bJ 42 3 Hx.cells wr Wn.heap.size (.slice ah dn.length ch) dn) := by rw [hv] at ho;exact ho
    have xf : ∀ i, wr.frozen? ⟨w2.heap.size, i, none⟩ = false := fun i => by simp [World.frozen?, Xr]
    have Xs := cB Xr 2 (.slice ah dn.length ch);have bs : cA (fun k => k = w2.heap.size) wr (wr.setCell ⟨w2.heap.size, 2, none⟩ (.slice ah dn.length ch)) := (cA.refl (fun k => k = w2.heap.size) wr).set (g := w2.heap.size) rfl _ _;have hXlt := (bP HXn.out);have hRn := dA (bD HRn.out hS.n) bs (fun e => by have e' : w.heap.size + 1 = w2.heap.size := e;omega);have HNs : Hid _ := bs.under (aD HNn.out hS.n) (nlq _) (fun k hk => by have hk' : k = w2.heap.size := hk;omega);have HSs : Hid (dB w1.heap.size (wr.setCell ⟨w2.heap.size, 2, none⟩ (.slice ah dn.length ch)) ⟨b.now + n, x.fa, x.fl, x.fc, ah, dn, ch⟩) := dB.butBook (P := w2.heap.size) ⟨(HSn.out.zL hS.n).f, HO.out.weak hzn, fun z hz => (hS.t z hz).weak hzn, HSn.out.c⟩ bs Xr
    have HLs : Hid (aL (eY b n) dn) := by
     have e : gG (b.now + n) b.hl = gG (b.now + n) x.hl := tY _ HLK.out;rw [Hid, eY, HC.out, if_pos rfl, e, hd0];exact hS.k
    have hzws : w1.heap.size <= wr.heap.size := Nat.le_trans hzn hS.n.size;have hszs : (wr.setCell ⟨w2.heap.size, 2, none⟩ (.slice ah dn.length ch)).heap.size = wr.heap.size := by simp
    obtain ⟨Ws, hWs⟩ : ∃ Ws, wr.setCell ⟨w2.heap.size, 2, none⟩ (.slice ah dn.length ch) = Ws := ⟨_, rfl⟩;rw [hWs] at Xs bs hRn HNs HSs hszs;have hws : w1.heap.size <= Ws.heap.size := by omega
    obtain ⟨z0, z1, z2⟩ := aJ Xs;have HRs : Hid _ := hRn;have hdl : dn.length <= 16 := by have := hS.len;rw [hd0] at hxl;omega
    rw [hv];clear ho hS hm hml hd0 hv Xr Xs bs hRn hszs;go_wp2_with fail
    clear hWs;refine (iI ⟨b.now + n, x.fa, x.fl, x.fc, ah, dn, ch⟩ Ws (bJ.xs Fx.cells_length HSs.out.f) (by show x.fl.length <= _;rw [HE2.out];exact hnf) (bJ.xs Hx.cells_length HSs.out.h) (by show dn.length <= _;omega) (fun h m => ⟨dB.inn HSs.out h m, (HLs.out.fit (MU (fun h m => (hg h m).2))) h m⟩)).mono ?_;rintro e wf ⟨⟨y, rfl, e1, e2, hlk, hA⟩, hbf⟩;have Rf := bD HRs.out hbf;obtain ⟨r0, r1, r2⟩ := aJ Rf;have rf : ∀ i, wf.frozen? ⟨w.heap.size + 1, i, none⟩ = false := fun i => by simp [World.frozen?, Rf]
    have HNf : Hid _ := aD HNs.out hbf;have hsf := hbf.size;have HY : Hid (y.now = gA b n /\ y.fl = b.fl /\ aL (eY b n) y.hl /\ dB w1.heap.size wf y) := ⟨by rw [e1];unfold gA;rw [HC.out];rfl, by rw [e2];exact HE2.out, HLs.out.trans hlk, hA.weak hws⟩;clear z0 z1 z2 xf x2 Rf e1 e2 hlk hA hbf;go_wp2_with fail
    exact bpr (v := .tuple #[y.val, .int .i64 0]) (by simp [results, Tryz.results32, go_sem, r0, r1, r2]) rfl (HEnd.out wf y HY.out.1 HY.out.2.1 HNf.out HY.out.2.2.2 _ HY.out.2.2.1 HC.out)
end Go.Proofs.YtiojdbffjdoniaaGreatDoor
