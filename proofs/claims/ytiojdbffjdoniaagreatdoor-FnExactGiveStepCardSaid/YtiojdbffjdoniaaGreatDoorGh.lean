import Derived.Test.YtiojdbffjdoniaaGreatDoorGg
import Derived.Test.YtiojdbffjdoniaaGreatDoorHa
namespace Go.Proofs.YtiojdbffjdoniaaGreatDoor
open Go.RowKit
theorem EA {b b' : Bk} (hn : b'.now = b.now) (hf : b'.fl = b.fl) (h : aI b.hl b'.hl) : aS b' = aS b := by
 unfold aS iF; rw [hn, hf, sO h, uU h, uY h, h.len]
theorem rJ {b b' : Bk} (hn : b'.now = b.now) (hf : b'.fl = b.fl) (h : aI b.hl b'.hl) (x : Wx) : tC b' x = tC b x := by
 have e0 : ∀ d i k, oL b' x d i k = oL b x d i k := fun d i k => by
  unfold oL; rw [hf, hn, AK h]
 have e1 : ∀ (d i : Int) (k : Nat), jB b' x d i k = jB b x d i k := fun d i k => by
  unfold jB; rw [show (fun (j : Nat) => oL b' x d i (j : Int)) = fun (j : Nat) => oL b x d i (j : Int) from funext fun j => e0 d i j]
 have e2 : ∀ (d : Int) (i : Nat), jG b' x d i = jG b x d i := fun d i => by
  unfold jG; rw [show (fun (j : Nat) => jB b' x d (j : Int) x.ll.length) = fun (j : Nat) => jB b x d (j : Int) x.ll.length from funext fun j => e1 d j _]
 have e3 : ∀ n : Nat, fL b' x n = fL b x n := fun n => by
  unfold fL; rw [show (fun (j : Nat) => jG b' x (j : Int) x.wl.length) = fun (j : Nat) => jG b x (j : Int) x.wl.length from funext fun j => e2 j _]
 unfold tC; rw [EA hn hf h, hf, e3]
theorem mM {b b' : Bk} (hn : b'.now = b.now) (hf : b'.fl = b.fl) (h : aI b.hl b'.hl) (f : Bool) (x : Wx) : gU b' f x = gU b f x /\ fV b' f x = fV b f x := by
 have e : gU b' f x = gU b f x := by
  unfold gU; rw [hf, h.len, rJ hn hf h]
 refine ⟨e, ?_⟩; unfold fV; rw [e, rJ hn hf h]
theorem LI {l m : List Hx} (h : aI l m) (i : Nat) {u v : Hx} (g : u.Like v) : aI (l.take i ++ u :: l.drop i) (m.take i ++ v :: m.drop i) := by
 have hm : l.map Hx.key = m.map Hx.key := h.map Hx.key (fun a b e => by simp [Hx.key, e.n, e.t, e.x]); refine qP ?_; rw [List.map_append, List.map_append, List.map_cons, List.map_cons, List.map_take, List.map_take, List.map_drop, List.map_drop, hm]
 simp [Hx.key, g.n, g.t, g.x]
theorem t9 {b b' : Bk} (hn : b'.now = b.now) (hf : b'.fl = b.fl) (h : aI b.hl b'.hl) (nm : ByteArray) (i : Nat) (f : Bool) (x : Wx) : aI (jU b nm i f x) (jU b' nm i f x) := by
 unfold jU; rw [(mM hn hf h f x).1, rJ hn hf h]
 split
 · split
   · exact h
   · exact LI h i ⟨rfl, rfl, rfl⟩
 · exact h
theorem IH {b b' : Bk} {i : Nat} {f : Bool} (x : Wx) (hbk : aS b = true) (hp : lE b x.n b' i f) :
 gU b' f x = cW b x /\ fV b' f x = fV b (decide (0 <= j5 b.hl x.n)) x /\ aI (fJ b x) (jU b' x.n i f x) := by
 have hat := uF hbk hp
 have hfd : decide (0 <= j5 b.hl x.n) = f := by
  rw [hat]
  cases f with
  | true => simp
  | false => simp
 obtain ⟨g1, g2⟩ := mM hp.now hp.fl hp.lk f x; have g3 := t9 hp.now hp.fl hp.lk x.n i f x; have hi : nB b.hl x.n = i := zC hp.at'.le (fun j h hj => hp.at'.lo j h hj) (fun h => hp.at'.hi i h (nlq _)); unfold cW fJ; rw [hfd, hi]; exact ⟨g1, g2, g3⟩
theorem KL {b b1 : Bk} (hn : b1.now = b.now) (hf : b1.fl = b.fl) (h : aI b.hl b1.hl) (x : Wx) : cW b1 x = cW b x /\ fV b1 (decide (0 <= j5 b1.hl x.n)) x = fV b (decide (0 <= j5 b.hl x.n)) x /\ aI (fJ b x) (fJ b1 x) := by
 have hp : nB b1.hl x.n = nB b.hl x.n := by
  rw [p9, p9, h.map Hx.key (fun a b e => by simp [Hx.key, e.n, e.t, e.x])]
 unfold cW fJ; rw [mB h x.n, hp]; exact ⟨(mM hn hf h _ x).1, (mM hn hf h _ x).2, t9 hn hf h _ _ _ x⟩
theorem rP {z : Nat} {w : World} {x x' : Wx} (g : dO z w x x') (b : Bk) : tC b x' = tC b x := by
 have e0 : ∀ d i k, oL b x' d i k = oL b x d i k := fun d i k => by
  unfold oL; rw [qI g, g.n]
 have e1 : ∀ (d i : Int) (k : Nat), jB b x' d i k = jB b x d i k := fun d i k => by
  unfold jB; rw [show (fun (j : Nat) => oL b x' d i (j : Int)) = fun (j : Nat) => oL b x d i (j : Int) from funext fun j => e0 d i j]
 have e2 : ∀ (d : Int) (i : Nat), jG b x' d i = jG b x d i := fun d i => by
  unfold jG; rw [g.ll, show (fun (j : Nat) => jB b x' d (j : Int) x.ll.length) = fun (j : Nat) => jB b x d (j : Int) x.ll.length from funext fun j => e1 d j _]
 have e3 : ∀ n : Nat, fL b x' n = fL b x n := fun n => by
  unfold fL; rw [g.likes.len, show (fun (j : Nat) => jG b x' (j : Int) x.wl.length) = fun (j : Nat) => jG b x (j : Int) x.wl.length from funext fun j => e2 j _]
 unfold tC; rw [xE g, g.l, e3]
theorem LO {z : Nat} {w : World} {x x' : Wx} (g : dO z w x x') (b : Bk) : cW b x' = cW b x /\ fV b (decide (0 <= j5 b.hl x'.n)) x' = fV b (decide (0 <= j5 b.hl x.n)) x /\ fJ b x' = fJ b x := by
 have ec : ∀ f, gU b f x' = gU b f x := fun f => by
  unfold gU; rw [xE g, rP g]
 have et : ∀ c : Co, I1 x.n x' c = I1 x.n x c := fun c => by
  unfold I1; rw [qI g]
 refine ⟨?_, ?_, ?_⟩
 · unfold cW
   rw [g.n, ec]
 · unfold fV
   rw [g.n, ec, rP g]
 · unfold fJ jU
   rw [g.n, ec, rP g]
   split
   · split
     · rfl
     · rw [et]
   · rfl
def GK (b : Bk) (x : Wx) : List Hx := if aS b then fJ b x else []
theorem LU {b : Bk} {x : Wx} (hfit : ∀ h ∈ b.hl, h.Fit) (hf : x.Fit) : (∀ h ∈ GK b x, h.Fit) /\ (GK b x).length <= 64 := by
 unfold GK
 split
 · rename_i hbk
   have h16 := i8 hbk; unfold fJ jU
   split
   · split
     · exact ⟨hfit, by omega⟩
     · rename_i c r hc
       refine ⟨fun h hm => ?_, by simp; omega⟩
       rcases lma.1 hm with hm | hm
       · exact hfit h (List.mem_of_mem_take hm)
       · rcases List.mem_cons.1 hm with rfl | hm
         · refine ⟨?_, by simp [I1], hf.sn⟩
           have := lY x c.i c.k c.d
           show (aR x c.i c.k c.d).length <= _
           omega
         · exact hfit h (List.mem_of_mem_drop hm)
   · exact ⟨hfit, by omega⟩
 · exact ⟨fun h hm => by simp at hm, by simp⟩
theorem EG {l m : List Hx} (h : aI l m) (nm : ByteArray) (t : List Bx) : iK nm t m = iK nm t l := by
 have e := h.map (fun h => !(rX nm h.n && (dK t h.tl || dK t h.nl))) (fun a c g => by rw [g.n, g.t, g.x]); have a : ∀ k : List Hx, iK nm t k = (k.map (fun h => !(rX nm h.n && (dK t h.tl || dK t h.nl)))).all id := fun k => by rw [List.all_map]; rfl
 rw [a m, a l, e]
theorem JS {a c : Hx} (tl : List Bx) (h : a.Like c) : (DX tl a).Like (DX tl c) := ⟨h.n, h.t, rfl⟩
theorem DI {b b' : Bk} (hn : b'.now = b.now) (hf : b'.fl = b.fl) (h : aI b.hl b'.hl) (nm : ByteArray) (i : Nat) (f : Bool) (tl : List Bx) : gX b' nm i f tl = gX b nm i f tl /\ aI (jA b nm i f tl) (jA b' nm i f tl) := by
 have e0 := EG h nm tl
 by_cases hi : i < b.hl.length
 · have hi' : i < b'.hl.length := by rw [h.len]; exact hi
   have hl := h.like i hi; have e1 : b.hl[i]? = some b.hl[i] := lge hi; have e2 : b'.hl[i]? = some b'.hl[i] := lge hi'
   have ec : gX b' nm i f tl = gX b nm i f tl := by
    unfold gX; rw [hn, hf, e0, e1, e2]
    simp only
    rw [hl.x]
   refine ⟨ec, ?_⟩; unfold jA; rw [ec, e1, e2]
   split
   · exact h.set i (JS tl hl)
   · exact h
 · have e1 : b.hl[i]? = none := List.getElem?_eq_none (by omega)
   have e2 : b'.hl[i]? = none := List.getElem?_eq_none (by rw [h.len]; omega)
   have ec : gX b' nm i f tl = gX b nm i f tl := by
    unfold gX; rw [hn, hf, e1, e2]
   refine ⟨ec, ?_⟩; unfold jA; rw [ec, e1, e2]
   split
   · exact h
   · exact h
theorem yS (b : Bk) (nm : ByteArray) (i : Nat) (tl : List Bx) : gX b nm i false tl = if (aN b.fl tl && eK b.now tl) = false then 2 else 6 := rfl
theorem tL (b : Bk) (nm : ByteArray) (i : Nat) (tl : List Bx) : jA b nm i false tl = b.hl := by
 unfold jA; rw [if_neg]; rw [yS]
 split <;> decide
theorem KA {b b' : Bk} {nm : ByteArray} {i : Nat} {f : Bool} (tl : List Bx) (hbk : aS b = true) (hp : lE b nm b' i f) :
 gX b' nm i f tl = dH b nm tl /\ aI (fM b nm tl) (jA b' nm i f tl) := by
 have hat := uF hbk hp; obtain ⟨g1, g2⟩ := DI hp.now hp.fl hp.lk nm i f tl; unfold dH fM; rw [hat]
 cases f with
 | true => simpa using ⟨g1, g2⟩
 | false =>
  have e : decide ((0 : Int) <= (if false = true then (i : Int) else -1)) = false := by simp
  rw [e, tL, yS]; rw [tL, tL] at g2; rw [tL]; exact ⟨g1.trans (yS b nm i tl), g2⟩
theorem DQ {b b1 : Bk} (hn : b1.now = b.now) (hf : b1.fl = b.fl) (h : aI b.hl b1.hl) (nm : ByteArray) (tl : List Bx) : dH b1 nm tl = dH b nm tl /\ aI (fM b nm tl) (fM b1 nm tl) := by
 unfold dH fM; rw [mB h nm]; exact DI hn hf h nm _ _ tl
def GP (b : Bk) (nm : ByteArray) (tl : List Bx) : List Hx := if aS b then fM b nm tl else []
theorem MY {b : Bk} {nm : ByteArray} {tl : List Bx} (hfit : ∀ h ∈ b.hl, h.Fit) (hnt : tl.length <= 1048576) : (∀ h ∈ GP b nm tl, h.Fit) /\ (GP b nm tl).length <= 64 := by
 unfold GP
 split
 · rename_i hbk
   have h16 := i8 hbk; unfold fM jA
   split
   · split
     · rename_i x hx
       refine ⟨fun h hm => ?_, by simp; omega⟩
       rcases List.mem_or_eq_of_mem_set hm with hm | rfl
       · exact hfit h hm
       · have := hfit x (List.mem_of_getElem? hx)
         exact ⟨this.tn, by simpa [DX] using hnt, this.sn⟩
     · exact ⟨hfit, by omega⟩
   · exact ⟨hfit, by omega⟩
 · exact ⟨fun h hm => by simp at hm, by simp⟩
end Go.Proofs.YtiojdbffjdoniaaGreatDoor
namespace Go.Proofs.YtiojdbffjdoniaaGreatDoor
set_option maxRecDepth 100000
set_option maxHeartbeats 4000000
open Go.RowKit Go.Shelf
attribute [local go_sem] Oper.semAt_some
def eW (b : Bk) (v : Ev) : Int := if v.k = 4 then iN b 1 else b.now
def eR (b : Bk) (v : Ev) : List Hx := if v.k = 1 then fJ b v.x else if v.k = 2 then fM b v.n v.tl else if v.k = 3 then eE b v.n v.t else if v.k = 4 then fX b 1 else b.hl
def eQ (b : Bk) (v : Ev) : Int := if v.k = 1 then cW b v.x else if v.k = 2 then dH b v.n v.tl else if v.k = 3 then cJ b v.n else if v.k = 4 then cQ b 1 else 2
theorem KO (b : Bk) (v : Ev) (w : World) (hL : oG w) (hq : fP w b) (hx : gW w v.x) (ht : iL w v.ta v.tl) (hnt : v.tl.length <= 1048576) :
 Calls Tryz.prog 26 #[b.val, tD v] w fun e w' => (∃ u, e = .returned u /\ mU b (eQ b v) (eW b v) (eR b v) w.heap.size u w') /\ Below w.heap.size w w' := by
 have hft : ∀ h ∈ b.hl, h.Fit := fun h m => (hq.hgood h m).2
 by_cases h1 : v.k = 1
 · have ee : tD v = .iface 119 v.x.val := by simp [tD, h1]
   have e1 : eQ b v = cW b v.x := by simp [eQ, h1]
   have e2 : eW b v = b.now := by simp [eW, h1]
   have e3 : eR b v = fJ b v.x := by simp [eR, h1]
   rw [ee, e1, e2, e3]
   exact gV _ (.inl ⟨_, _, rfl⟩) b v.x.n (Q0 v.x.n v.x) _ _ _ w hL hq.hf hq.hnf hq.hcap hq.hc2 hq.hs hq.hh hq.hnh hq.hgood
    (fun W _ => DF v.x W)
    (fun T W hB hT => KI v.x T b v.x.n W hT (hx.zL hB) hq.hnf hq.hs hft)
    (fun b' i f b'' c hbk hp hr => by
     obtain ⟨r1, r2, r3, r4⟩ := hr; obtain ⟨q1, q2, q3⟩ := IH v.x hbk hp
     exact ⟨r1.trans q1, r2.trans hp.now, r3.trans hp.fl, q3.trans r4⟩)
 by_cases h2 : v.k = 2
 · have ee : tD v = .iface 121 (DS v.n v.ta v.tl.length v.tc) := by simp [tD, h2]
   have e1 : eQ b v = dH b v.n v.tl := by simp [eQ, h2]
   have e2 : eW b v = b.now := by simp [eW, h2]
   have e3 : eR b v = fM b v.n v.tl := by simp [eR, h2]
   rw [ee, e1, e2, e3]
   exact gV _ (.inl ⟨_, _, rfl⟩) b v.n (RE v.n v.tl) _ _ _ w hL hq.hf hq.hnf hq.hcap hq.hc2 hq.hs hq.hh hq.hnh hq.hgood
    (fun W _ => zI _ _ _ _ W)
    (fun T W hB hT => DV v.n v.tl v.ta v.tc T b v.n W hT (ht.zL hB) hnt hq.hnf hft)
    (fun b' i f b'' c hbk hp hr => by
     obtain ⟨r1, r2, r3, r4⟩ := hr; obtain ⟨q1, q2⟩ := KA v.tl hbk hp
     exact ⟨r1.trans q1, r2.trans hp.now, r3.trans hp.fl, q2.trans r4⟩)
 by_cases h3 : v.k = 3
 · have ee : tD v = .iface 123 (EL v.n v.t) := by simp [tD, h3]
   have e1 : eQ b v = cJ b v.n := by simp [eQ, h3]
   have e2 : eW b v = b.now := by simp [eW, h3]
   have e3 : eR b v = eE b v.n v.t := by simp [eR, h3]
   rw [ee, e1, e2, e3]
   exact gV _ (.inl ⟨_, _, rfl⟩) b v.n (PE v.t) _ _ _ w hL hq.hf hq.hnf hq.hcap hq.hc2 hq.hs hq.hh hq.hnh hq.hgood
    (fun W _ => z7 _ _ W)
    (fun T W hB hT => KC v.n v.t T b v.n W hT hft)
    (fun b' i f b'' c hbk hp hr => by
     obtain ⟨r1, r2⟩ := hr; obtain ⟨q1, q2, q3, q4⟩ := FI (took := v.t) hbk hp; rw [r2]
     exact ⟨r1.trans q1, q2, q3, q4⟩)
 by_cases h4 : v.k = 4
 · have ee : tD v = .iface 125 (.agg #[.int .i64 1]) := by simp [tD, h4]
   have e1 : eQ b v = cQ b 1 := by simp [eQ, h4]
   have e2 : eW b v = iN b 1 := by simp [eW, h4]
   have e3 : eR b v = fX b 1 := by simp [eR, h4]
   rw [ee, e1, e2, e3]
   exact gV _ (.inl ⟨_, _, rfl⟩) b ⟨#[]⟩ (O6 1) _ _ _ w hL hq.hf hq.hnf hq.hcap hq.hc2 hq.hs hq.hh hq.hnh hq.hgood
    (fun W _ => (CS 1 W).mono (fun e w' h => ⟨h.1, by rw [h.2]; exact br _ _⟩))
    (fun T W _ hT => JB 1 T b ⟨#[]⟩ W hT hft)
    (fun b' i f b'' c _ hp hr => by
     obtain ⟨h1, h2, h3, h4⟩ := hr; obtain ⟨g1, g2, g3⟩ := xN 1 hp.now hp.lk
     exact ⟨h1.trans g1, h2.trans g2, h3.trans hp.fl, g3.trans h4⟩)
 · have ee : tD v = .nilIface := by simp [tD, h1, h2, h3, h4]
   have e1 : eQ b v = 2 := by simp [eQ, h1, h2, h3, h4]
   have e2 : eW b v = b.now := by simp [eW, h4]
   have e3 : eR b v = b.hl := by simp [eR, h1, h2, h3, h4]
   rw [ee, e1, e2, e3]
   exact gV _ (.inr rfl) b ⟨#[]⟩ RB _ _ _ w hL hq.hf hq.hnf hq.hcap hq.hc2 hq.hs hq.hh hq.hnh hq.hgood
    (fun W _ => DU W)
    (fun T W _ hT => M9 T b ⟨#[]⟩ W hT)
    (fun b' i f b'' c _ hp hr => by
     obtain ⟨r1, r2⟩ := hr; rw [r2]
     exact ⟨r1, hp.now, hp.fl, hp.lk⟩)
def GS (b : Bk) (v : Ev) (Z : Nat) (j : Nat) (u : Value) (w : World) : Prop :=
 match j with
 | 0 => u = b.val
 | 1 => u = v.val
 | 2 => u = tD v
 | 3 => mU b (eQ b v) (eW b v) (eR b v) Z u w
 | 4 => qC b (eW b v) (eR b v) Z u w
 | 5 => u = .int .i64 (if aS b then eQ b v else 1)
 | _ => True
theorem GS.zL {b : Bk} {v : Ev} {Z : Nat} (j : Nat) (u : Value) (w w' : World) (h : GS b v Z j u w) (hb : Below w.heap.size w w') : GS b v Z j u w' := by
 unfold GS at h ⊢
 split
 all_goals first
  | exact h
  | exact mU.zL h hb
  | exact qC.zL h hb
  | trivial
theorem yE (b : Bk) (v : Ev) (w : World) (hL : oG w) (hq : fP w b) (hx : gW w v.x) (ht : iL w v.ta v.tl) (hnt : v.tl.length <= 1048576) :
 Calls Tryz.prog 6 #[b.val, v.val] w fun e w' => (∃ u, e = .returned u /\ mU b (eQ b v) (eW b v) (eR b v) w.heap.size u w') /\ Below w.heap.size w w' := by
 have N0 : Below w.heap.size w (((w.alloc b.obj).alloc v.obj).alloc (.cells #[.int .i64 0, .slice none 0 0, .slice none 0 0] 29)) := aA (aA (aA (br _ _) _) _) _; have A0 := (halq ((w.alloc b.obj).alloc v.obj) (.cells #[.int .i64 0, .slice none 0 0, .slice none 0 0] 29) w.heap.size (by simp; omega)).trans ((halq (w.alloc b.obj) v.obj w.heap.size (by simp)).trans (wnq w b.obj)); have T0 := (halq ((w.alloc b.obj).alloc v.obj) (.cells #[.int .i64 0, .slice none 0 0, .slice none 0 0] 29) (w.alloc b.obj).heap.size (by simp)).trans (wnq (w.alloc b.obj) v.obj); have R0 := wnq ((w.alloc b.obj).alloc v.obj) (.cells #[.int .i64 0, .slice none 0 0, .slice none 0 0] 29); simp only [wsa] at T0 R0
 go_enter Tryz.func6, Tryz.ntmps6
 go_wp2_with fail
 obtain ⟨W0, hW0⟩ : ∃ W0, ((w.alloc b.obj).alloc v.obj).alloc (.cells #[.int .i64 0, .slice none 0 0, .slice none 0 0] 29) = W0 := ⟨_, rfl⟩; rw [hW0] at N0 A0 T0 R0 ⊢; have hz1 : w.heap.size + 1 + 1 < W0.heap.size := (bH R0); have HA0 : Hid (W0.heap[w.heap.size]? = some b.obj) := A0; have HT0 : Hid (W0.heap[w.heap.size + 1]? = some v.obj) := T0; have HR0 : Hid _ := R0; clear hW0 A0 T0 R0; refine wpIn_wide.1 (aP (F := Fence.wide) (n := 0) (by kernel_rfl) 6 [some 6, some 7, some 8, some 9, some 10, some 11] (by decide) (GS b v W0.heap.size) GS.zL (by kernel_rfl) (by kernel_rfl) (by kernel_rfl) ?step ?fin)
 case step =>
  intro ii o vs w' hi' ho hB hd
  match ii, hi' with
  | 0, _ =>
   simp at ho; subst ho; have A1 := aY HA0.out hB; obtain ⟨k0, k1, k2⟩ := aJ A1; clear A1; simp only [aE, Act.put]; gi_wp2; exact ⟨_, by simp [aH], rfl, br _ _⟩
  | 1, _ =>
   simp at ho; subst ho; have T1 := aY HT0.out hB; obtain ⟨e0, e1, e2, e3, e4, e5, e6, e7, e8, e9, e10, e11⟩ := iU T1; clear T1; simp only [aE, Act.put]; gi_wp2; exact ⟨_, by simp [aH], rfl, br _ _⟩
  | 2, _ =>
   simp at ho; subst ho; have d1 : vs 1 = v.val := Zq hd 1; simp only [aE, Act.put]; rw [d1]; gi_wp2_with fail
   refine ⟨trivial, rfl, ?_⟩; refine (cw.2 (A8 v w')).mono ?_; rintro e w5 ⟨rfl, hb5⟩; obtain ⟨ev, hev⟩ : ∃ ev, tD v = ev := ⟨_, rfl⟩; have HEv : Hid (tD v = ev) := hev; rw [hev]; clear hev; gi_wp2; exact ⟨_, by simp [aH, d1], HEv.out.symm, hb5⟩
  | 3, _ =>
   simp at ho; subst ho; have d0 : vs 0 = b.val := Zq hd 0; have d2 : vs 2 = tD v := Zq hd 2; obtain ⟨ev, hev⟩ : ∃ ev, tD v = ev := ⟨_, rfl⟩; have HEv : Hid (tD v = ev) := hev; rw [hev] at d2; clear hev; simp only [aE, Act.put]; rw [d0, d2]; gi_wp2_with fail
   refine ⟨trivial, rfl, ?_⟩; rw [← HEv.out]; refine (cw.2 (KO b v w' (hL.zL (aC N0 hB)) (hq.zL (aC N0 hB)) (hx.zL (aC N0 hB)) (ht.zL (aC N0 hB)) hnt)).mono ?_; rintro e w5 ⟨⟨u, rfl, hT5⟩, hb5⟩; have HT5 : Hid _ := hT5.weak (z' := W0.heap.size) hB.size; clear hT5; gi_wp2; exact ⟨_, by simp [aH, d0, d2, HEv.out], HT5.out, hb5⟩
  | 4, _ =>
   simp at ho; subst ho; have hT4 : mU b (eQ b v) (eW b v) (eR b v) W0.heap.size (vs 3) w' := Zq hd 3
   rcases hT4 with ⟨hbk, d4⟩ | ⟨hbk, b'', d4, e1, e2, e3, e4⟩
   · have HB : Hid _ := hbk
     clear hbk; simp only [aE, Act.put]; rw [d4]; gi_wp2; exact ⟨_, by simp [aH, d4], .inl ⟨HB.out, rfl⟩, br _ _⟩
   have HB : Hid _ := hbk; have HP : Hid (b''.now = eW b v /\ b''.fl = b.fl /\ aI (eR b v) b''.hl /\ fT W0.heap.size w' b'') := ⟨e1, e2, e3, e4⟩; clear hbk e1 e2 e3 e4; simp only [aE, Act.put]; rw [d4]; gi_wp2; exact ⟨_, by simp [aH, d4], .inr ⟨HB.out, b'', rfl, HP.out⟩, br _ _⟩
  | 5, _ =>
   simp at ho; subst ho; have hT4 : mU b (eQ b v) (eW b v) (eR b v) W0.heap.size (vs 3) w' := Zq hd 3
   rcases hT4 with ⟨hbk, d4⟩ | ⟨hbk, b'', d4, e1, e2, e3, e4⟩
   · have HB : Hid _ := hbk
     clear hbk; simp only [aE, Act.put]; rw [d4]; gi_wp2; exact ⟨.int .i64 1, by simp [aH, d4], by unfold GS; rw [HB.out]; rfl, br _ _⟩
   have HB : Hid _ := hbk; clear hbk e1 e2 e3 e4; simp only [aE, Act.put]; rw [d4]; gi_wp2; exact ⟨.int .i64 (eQ b v), by simp [aH, d4], by unfold GS; rw [HB.out]; rfl, br _ _⟩
  | q + 6, h => exact absurd h (by omega)
 case fin =>
  intro vs w1 hB hp; have d5 : qC b (eW b v) (eR b v) W0.heap.size (vs 4) w1 := hp 4 (by decide); have d6 : vs 5 = .int .i64 (if aS b then eQ b v else 1) := hp 5 (by decide); have N1 := aC N0 hB; have R1 := aY HR0.out hB; have hs1 := hB.size; obtain ⟨r0, r1, r2⟩ := aJ R1; have rf : ∀ i, w1.frozen? ⟨w.heap.size + 1 + 1, i, none⟩ = false := fun i => by simp [World.frozen?, R1]
  have hS : ∀ u v x : Value, bC (fun k => k = w.heap.size + 1 + 1) w1 (((w1.setCell ⟨w.heap.size + 1 + 1, 0, none⟩ u).setCell ⟨w.heap.size + 1 + 1, 1, none⟩ v).setCell ⟨w.heap.size + 1 + 1, 2, none⟩ x) := fun u v x => (((bC.refl (fun k => k = w.heap.size + 1 + 1) w1).set (g := w.heap.size + 1 + 1) rfl _ _).set (g := w.heap.size + 1 + 1) rfl _ _).set (g := w.heap.size + 1 + 1) rfl _ _; have hN6 := fun u v x => (hS u v x).under N1 (nlq _) (fun k hk => by rw [hk]; omega); clear hp hB R1; simp only [lds, List.drop_zero, aE, Act.put]; rw [d6]; clear d6; generalize vs 0 = v0; generalize vs 1 = v1; generalize vs 2 = v2; generalize vs 3 = v3
  rcases d5 with ⟨hbk, d5⟩ | ⟨hbk, b'', d5, e1, e2, e3, e4⟩
  · have HB : Hid _ := hbk
    rw [d5, hbk]; clear d5 hbk; gi_wp2_with fail
    go_wp2_with fail
    exact bpr (v := .tuple #[Bk.val ⟨0, none, [], 0, none, [], 0⟩, .int .i64 1]) (by simp [results, Tryz.results6, go_sem, r0, r1, r2]) rfl ⟨⟨_, rfl, .inl ⟨HB.out, rfl⟩⟩, hN6 _ _ _⟩
  · have HB : Hid _ := hbk
    have HP : Hid (b''.now = eW b v /\ b''.fl = b.fl /\ aI (eR b v) b''.hl) := ⟨e1, e2, e3⟩; rw [d5, hbk]; clear d5 hbk e1 e2 e3; obtain ⟨cc, hcc⟩ : ∃ cc, eQ b v = cc := ⟨_, rfl⟩; simp only [if_true]; rw [hcc]; have HCC : Hid (eQ b v = cc) := hcc; clear hcc; gi_wp2_with fail
    go_wp2_with fail
    exact bpr (v := .tuple #[b''.val, .int .i64 cc]) (by simp [results, Tryz.results6, go_sem, r0, r1, r2]) rfl ⟨⟨_, rfl, .inr ⟨HB.out, b'', by rw [HCC.out], HP.out.1, HP.out.2.1, HP.out.2.2, (e4.but (hS _ _ _) (fun k hk => by rw [hk]; omega)).weak (by omega)⟩⟩, hN6 _ _ _⟩
set_option maxHeartbeats 8000000
theorem lR.zL {b : Bk} {w w' : World} (h : lR b w) (hb : Below w.heap.size w w') : lR b w' := fun W hW => h W (aC hb hW)
theorem zF (b : Bk) (v : Ev) (w : World) (hok : lR b w) (hq : fP w b) (hx : gW w v.x) (ht : iL w v.ta v.tl) (hnt : v.tl.length <= 1048576) :
 Calls Tryz.prog 7 #[b.val, v.val] w fun e w' => nT b (eW b v) (eR b v) (eQ b v) w.heap.size e w' /\ Below w.heap.size w w' := by
 have N0 : Below w.heap.size w (((w.alloc b.obj).alloc v.obj).alloc (.cells #[.int .i64 0, .slice none 0 0, .slice none 0 0] 29)) := aA (aA (aA (br _ _) _) _) _; have A0 := (halq ((w.alloc b.obj).alloc v.obj) (.cells #[.int .i64 0, .slice none 0 0, .slice none 0 0] 29) w.heap.size (by simp; omega)).trans ((halq (w.alloc b.obj) v.obj w.heap.size (by simp)).trans (wnq w b.obj)); have T0 := (halq ((w.alloc b.obj).alloc v.obj) (.cells #[.int .i64 0, .slice none 0 0, .slice none 0 0] 29) (w.alloc b.obj).heap.size (by simp)).trans (wnq (w.alloc b.obj) v.obj); have R0 := wnq ((w.alloc b.obj).alloc v.obj) (.cells #[.int .i64 0, .slice none 0 0, .slice none 0 0] 29); simp only [wsa] at T0 R0; obtain ⟨W0, hW0⟩ : ∃ W0, ((w.alloc b.obj).alloc v.obj).alloc (.cells #[.int .i64 0, .slice none 0 0, .slice none 0 0] 29) = W0 := ⟨_, rfl⟩; rw [hW0] at N0 A0 T0 R0; have hz1 : w.heap.size + 1 + 1 < W0.heap.size := (bH R0); obtain ⟨k0, k1, k2⟩ := aJ A0; have HA0 : Hid (W0.heap[w.heap.size]? = some b.obj) := A0; have HT0 : Hid (W0.heap[w.heap.size + 1]? = some v.obj) := T0; have HR0 : Hid _ := R0; clear A0 T0 R0
 go_enter Tryz.func7, Tryz.ntmps7
 go_wp2_with fail
 clear hW0 k0 k1 k2; refine (hok W0 N0).mono ?_; rintro e w1 ⟨rfl, hb1⟩; have N1 := aC N0 hb1; have hs1 := hb1.size; have HA1 : Hid (w1.heap[w.heap.size]? = some b.obj) := aY HA0.out hb1; have HT1 : Hid (w1.heap[w.heap.size + 1]? = some v.obj) := aY HT0.out hb1; have HR1 : Hid _ := aY HR0.out hb1; clear hb1 HA0 HT0 HR0 N0; have hset : ∀ (X : World) (u v x : Value), bC (fun k => k = w.heap.size + 1 + 1) X (((X.setCell ⟨w.heap.size + 1 + 1, 0, none⟩ u).setCell ⟨w.heap.size + 1 + 1, 1, none⟩ v).setCell ⟨w.heap.size + 1 + 1, 2, none⟩ x) := fun X u v x => (((bC.refl (fun k => k = w.heap.size + 1 + 1) X).set (g := w.heap.size + 1 + 1) rfl _ _).set (g := w.heap.size + 1 + 1) rfl _ _).set (g := w.heap.size + 1 + 1) rfl _ _
 cases hbk : aS b with
 | false =>
  have HBK : Hid _ := hbk; obtain ⟨r0, r1, r2⟩ := aJ HR1.out; have rf : ∀ i, w1.frozen? ⟨w.heap.size + 1 + 1, i, none⟩ = false := fun i => by simp [World.frozen?, HR1.out]
  clear hbk; go_wp2_with fail
  exact bpr (v := .tuple #[Bk.val ⟨0, none, [], 0, none, [], 0⟩, .int .i64 1]) (by simp [results, Tryz.results7, go_sem, r0, r1, r2]) rfl ⟨.inl ⟨HBK.out, rfl⟩, (hset w1 _ _ _).under N1 (nlq _) (fun k hk => by rw [hk]; omega)⟩
 | true =>
  have HBK : Hid (aS b = true) := hbk
  have HEnd : Hid (∀ (X : World) (y : Bk) (c : Int), y.now = eW b v -> y.fl = b.fl -> aI (eR b v) y.hl -> eQ b v = c -> Below w1.heap.size w1 X -> cS w1.heap.size X y -> nT b (eW b v) (eR b v) (eQ b v) w.heap.size (.returned (.tuple #[y.val, .int .i64 c])) (((X.setCell ⟨w.heap.size + 1 + 1, 0, none⟩ (.int .i64 y.now)).setCell ⟨w.heap.size + 1 + 1, 1, none⟩ (.slice y.fa y.fl.length y.fc)).setCell ⟨w.heap.size + 1 + 1, 2, none⟩ (.slice y.ha y.hl.length y.hc)) /\ Below w.heap.size w (((X.setCell ⟨w.heap.size + 1 + 1, 0, none⟩ (.int .i64 y.now)).setCell ⟨w.heap.size + 1 + 1, 1, none⟩ (.slice y.fa y.fl.length y.fc)).setCell ⟨w.heap.size + 1 + 1, 2, none⟩ (.slice y.ha y.hl.length y.hc))) := fun X y c h1 h2 h3 h4 hX hS => by
   refine ⟨.inr ⟨HBK.out, y, by rw [h4], h1, h2, h3, (hS.but (hset X _ _ _) (fun k hk => by rw [hk]; omega)).weak (by omega)⟩, (hset X _ _ _).under (aC N1 hX) (nlq _) (fun k hk => by rw [hk]; omega)⟩
  have HRes : Hid (∀ X, Below w1.heap.size w1 X -> X.cell? ⟨w.heap.size + 1 + 1, 0, none⟩ = some (.int .i64 0) /\ X.cell? ⟨w.heap.size + 1 + 1, 1, none⟩ = some (.slice none 0 0) /\ X.cell? ⟨w.heap.size + 1 + 1, 2, none⟩ = some (.slice none 0 0) /\ ∀ i, X.frozen? ⟨w.heap.size + 1 + 1, i, none⟩ = false) := fun X hX => by
   have R := aY HR1.out hX; exact ⟨aK R rfl, aK R rfl, aK R rfl, fun i => by simp [World.frozen?, R]⟩
  obtain ⟨k0, k1, k2⟩ := aJ HA1.out; obtain ⟨e0, e1, e2, e3, e4, e5, e6, e7, e8, e9, e10, e11⟩ := iU HT1.out; have HN1 : Hid (Below w.heap.size w w1) := N1; clear hbk HA1 HT1 HR1
  by_cases h1 : v.k = 1
  · have HV : Hid (eW b v = b.now /\ eR b v = fJ b v.x /\ eQ b v = cW b v.x) := ⟨by simp [eW, h1], by simp [eR, h1], by simp [eQ, h1]⟩
    rw [h1] at e0; clear N1 h1; go_wp2_with fail
    refine (yR b v.x w1 (hok.zL HN1.out) (hq.zL HN1.out) (hx.zL HN1.out)).mono ?_; rintro e w2 ⟨hT, hb2⟩
    rcases hT with ⟨hf, _⟩ | ⟨_, y, rfl, y1, y2, y3, hS⟩
    · rw [HBK.out] at hf; cases hf
    obtain ⟨d, iw, kk, hv⟩ : ∃ d i k, fV b (decide (0 <= j5 b.hl v.x.n)) v.x = fY d i k := by
     obtain ⟨d, i, k, h, _⟩ := CN b (decide (0 <= j5 b.hl v.x.n)) v.x; exact ⟨d, i, k, h⟩
    obtain ⟨c, hc⟩ : ∃ c, cW b v.x = c := ⟨_, rfl⟩; rw [hv, hc]; clear k0 k1 k2 e0 e1 e2 e3 e4 e5 e6 e7 e8 e9 e10 e11 hv; have HY : Hid (y.now = eW b v /\ y.fl = b.fl /\ aI (eR b v) y.hl /\ eQ b v = c) := ⟨by rw [HV.out.1]; exact y1, y2, by rw [HV.out.2.1]; exact y3, by rw [HV.out.2.2]; exact hc⟩; clear y1 y2 y3 hc; have P1 := wnq w2 (.cells #[.int .i64 y.now, .slice y.fa y.fl.length y.fc, .slice y.ha y.hl.length y.hc] 29); have hB3 : Below w2.heap.size w2 ((w2.alloc (.cells #[.int .i64 y.now, .slice y.fa y.fl.length y.fc, .slice y.ha y.hl.length y.hc] 29)).alloc (gO d iw kk)) := aA (aA (br _ _) _) _; have HS3 : Hid _ := hS.zL hB3; have HB3 : Hid _ := aC hb2 hB3; obtain ⟨r0, r1, r2, rf⟩ := HRes.out _ (aC hb2 hB3); go_wp2_with fail
    exact bpr (v := .tuple #[y.val, .int .i64 c]) (by simp [results, Tryz.results7, go_sem, r0, r1, r2]) rfl (HEnd.out _ y c HY.out.1 HY.out.2.1 HY.out.2.2.1 HY.out.2.2.2 HB3.out HS3.out)
  by_cases h2 : v.k = 2
  · have HV : Hid (eW b v = b.now /\ eR b v = fM b v.n v.tl /\ eQ b v = dH b v.n v.tl) := ⟨by simp [eW, h2], by simp [eR, h2], by simp [eQ, h2]⟩
    rw [h2] at e0; clear N1 h2 h1; go_wp2_with fail
    refine (wG b v.n v.tl v.ta v.tc w1 (hok.zL HN1.out) ⟨(hq.zL HN1.out).hf, hq.hnf, hq.hcap, hq.hc2, hq.hs, (hq.zL HN1.out).hh, hq.hnh, (hq.zL HN1.out).hgood, ht.zL HN1.out, hnt⟩).mono ?_; rintro e w2 ⟨hT, hb2⟩
    rcases hT with ⟨hf, _⟩ | ⟨_, y, rfl, y1, y2, y3, hS⟩
    · rw [HBK.out] at hf; cases hf
    obtain ⟨c, hc⟩ : ∃ c, dH b v.n v.tl = c := ⟨_, rfl⟩; rw [hc]; clear k0 k1 k2 e0 e1 e2 e3 e4 e5 e6 e7 e8 e9 e10 e11; have HY : Hid (y.now = eW b v /\ y.fl = b.fl /\ aI (eR b v) y.hl /\ eQ b v = c) := ⟨by rw [HV.out.1]; exact y1, y2, by rw [HV.out.2.1]; exact y3, by rw [HV.out.2.2]; exact hc⟩; clear y1 y2 y3 hc; obtain ⟨r0, r1, r2, rf⟩ := HRes.out _ hb2; have HS3 : Hid _ := hS; have HB3 : Hid _ := hb2; clear hS hb2; go_wp2_with fail
    exact bpr (v := .tuple #[y.val, .int .i64 c]) (by simp [results, Tryz.results7, go_sem, r0, r1, r2]) rfl (HEnd.out _ y c HY.out.1 HY.out.2.1 HY.out.2.2.1 HY.out.2.2.2 HB3.out HS3.out)
  by_cases h3 : v.k = 3
  · have HV : Hid (eW b v = b.now /\ eR b v = eE b v.n v.t /\ eQ b v = cJ b v.n) := ⟨by simp [eW, h3], by simp [eR, h3], by simp [eQ, h3]⟩
    rw [h3] at e0; clear N1 h3 h1 h2; go_wp2_with fail
    refine (zJ b v.n v.t w1 (hok.zL HN1.out) (hq.zL HN1.out).hf hq.hnf (hq.zL HN1.out).hh hq.hnh (hq.zL HN1.out).hgood).mono ?_; rintro e w2 ⟨hT, hb2⟩
    rcases hT with ⟨hf, _⟩ | ⟨_, y, rfl, y1, y2, y3, hS⟩
    · rw [HBK.out] at hf; cases hf
    obtain ⟨c, hc⟩ : ∃ c, cJ b v.n = c := ⟨_, rfl⟩; rw [hc]; clear k0 k1 k2 e0 e1 e2 e3 e4 e5 e6 e7 e8 e9 e10 e11; have HY : Hid (y.now = eW b v /\ y.fl = b.fl /\ aI (eR b v) y.hl /\ eQ b v = c) := ⟨by rw [HV.out.1]; exact y1, y2, by rw [HV.out.2.1]; exact y3, by rw [HV.out.2.2]; exact hc⟩; clear y1 y2 y3 hc; obtain ⟨r0, r1, r2, rf⟩ := HRes.out _ hb2; have HS3 : Hid _ := hS; have HB3 : Hid _ := hb2; clear hS hb2; go_wp2_with fail
    exact bpr (v := .tuple #[y.val, .int .i64 c]) (by simp [results, Tryz.results7, go_sem, r0, r1, r2]) rfl (HEnd.out _ y c HY.out.1 HY.out.2.1 HY.out.2.2.1 HY.out.2.2.2 HB3.out HS3.out)
  by_cases h4 : v.k = 4
  · have HV : Hid (eW b v = iN b 1 /\ eR b v = fX b 1 /\ eQ b v = cQ b 1) := ⟨by simp [eW, h4], by simp [eR, h4], by simp [eQ, h4]⟩
    rw [h4] at e0; clear N1 h4 h1 h2 h3; go_wp2_with fail
    refine (yW b 1 w1 (hok.zL HN1.out) (hq.zL HN1.out).hf hq.hnf (hq.zL HN1.out).hh hq.hnh (hq.zL HN1.out).hgood).mono ?_; rintro e w2 ⟨hT, hb2⟩
    rcases hT with ⟨hf, _⟩ | ⟨_, y, rfl, y1, y2, y3, hS⟩
    · rw [HBK.out] at hf; cases hf
    obtain ⟨c, hc⟩ : ∃ c, cQ b 1 = c := ⟨_, rfl⟩; rw [hc]; clear k0 k1 k2 e0 e1 e2 e3 e4 e5 e6 e7 e8 e9 e10 e11; have HY : Hid (y.now = eW b v /\ y.fl = b.fl /\ aI (eR b v) y.hl /\ eQ b v = c) := ⟨by rw [HV.out.1]; exact y1, y2, by rw [HV.out.2.1]; exact y3, by rw [HV.out.2.2]; exact hc⟩; clear y1 y2 y3 hc; obtain ⟨r0, r1, r2, rf⟩ := HRes.out _ hb2; have HS3 : Hid _ := hS; have HB3 : Hid _ := hb2; clear hS hb2; go_wp2_with fail
    exact bpr (v := .tuple #[y.val, .int .i64 c]) (by simp [results, Tryz.results7, go_sem, r0, r1, r2]) rfl (HEnd.out _ y c HY.out.1 HY.out.2.1 HY.out.2.2.1 HY.out.2.2.2 HB3.out HS3.out)
  have HV : Hid (eW b v = b.now /\ eR b v = b.hl /\ eQ b v = 2) := ⟨by simp [eW, h4], by simp [eR, h1, h2, h3, h4], by simp [eQ, h1, h2, h3, h4]⟩; have q1 : (v.k == 1) = false := beq_false_of_ne h1; have q2 : (v.k == 2) = false := beq_false_of_ne h2; have q3 : (v.k == 3) = false := beq_false_of_ne h3; have q4 : (v.k == 4) = false := beq_false_of_ne h4; clear N1 h1 h2 h3 h4; go_wp2_with fail
  refine (iI b w1 (hq.zL HN1.out).hf hq.hnf (hq.zL HN1.out).hh hq.hnh (hq.zL HN1.out).hgood).mono ?_; rintro e w2 ⟨⟨y, rfl, y1, y2, y3, hS⟩, hb2⟩; clear k0 k1 k2 e0 e1 e2 e3 e4 e5 e6 e7 e8 e9 e10 e11; have HY : Hid (y.now = eW b v /\ y.fl = b.fl /\ aI (eR b v) y.hl /\ eQ b v = 2) := ⟨by rw [HV.out.1]; exact y1, y2, by rw [HV.out.2.1]; exact y3, HV.out.2.2⟩; clear y1 y2 y3; obtain ⟨r0, r1, r2, rf⟩ := HRes.out _ hb2; have HS3 : Hid _ := hS; have HB3 : Hid _ := hb2; clear hS hb2; go_wp2_with fail
  exact bpr (v := .tuple #[y.val, .int .i64 2]) (by simp [results, Tryz.results7, go_sem, r0, r1, r2]) rfl (HEnd.out _ y 2 HY.out.1 HY.out.2.1 HY.out.2.2.1 HY.out.2.2.2 HB3.out HS3.out)
end Go.Proofs.YtiojdbffjdoniaaGreatDoor
namespace Go.Proofs.YtiojdbffjdoniaaGreatDoor
open Go.RowKit
theorem dO.keep {z : Nat} {w w' : World} {x x' : Wx} (h : dO z w x x') (hk : ∀ k, z <= k -> k < w.heap.size -> w'.heap[k]? = w.heap[k]?) : dO z w' x x' := by
 obtain ⟨h1, h2, h3, h4, h5, h6, h7, h8, h9, p, r, e1, e2, hz, hpr, ⟨f1, R1, v1⟩, M, hlt, ⟨f2, R2, v2⟩⟩ := h; refine ⟨h1, h2, h3, h4, h5, h6, h7, h8, h9, p, r, e1, e2, hz, hpr, ⟨f1, R1.of_block (hk p hz R1.lt), v1⟩, ⟨M.1, fun j hj hjk => ?_⟩, hlt, ⟨f2, R2.of_block (hk r (by omega) R2.lt), v2⟩⟩; obtain ⟨a, b, g, e, hg, f3, R3, v3⟩ := M.2 j hj hjk; exact ⟨a, b, g, e, hg, f3, R3.of_block (hk g (by omega) R3.lt), v3⟩
theorem dO.laEnd {z : Nat} {w : World} {x x' : Wx} (h : dO z w x x') : ∀ p, x'.la = some ⟨p, 0, none⟩ -> p < w.heap.size := by
 obtain ⟨h1, h2, h3, h4, h5, h6, h7, h8, h9, p, r, e1, e2, hz, hpr, R1, M, hlt, R2⟩ := h; intro q e; rw [e2] at e
 cases e
 exact R2.lt
def Q8 (b : Bk) (x : Wx) (R : Value -> World -> Prop) (j : Nat) (v : Value) (w : World) : Prop :=
 match j with
 | 0 => v = b.val
 | 1 => ∃ b1 : Bk, v = b1.val /\ eL w b b1
 | 2 => v = x.val
 | 3 => ∃ (x1 : Wx) (z : Nat), v = x1.val /\ dO z w x x1
 | 4 => R v w
 | _ => True
theorem OD {S : Nat -> Prop} {w w' : World} {k : Nat} {o : Obj} (h : w.heap[k]? = some o) (hb : pI S w w') (hs : ¬ S k) : w'.heap[k]? = some o := (hb.block _ (bH h) hs).trans h
theorem pI.but {S : Nat -> Prop} {w w' : World} (h : pI S w w') : bC S w w' := ⟨h.os, h.tape, h.output, h.size, h.block⟩
end Go.Proofs.YtiojdbffjdoniaaGreatDoor
