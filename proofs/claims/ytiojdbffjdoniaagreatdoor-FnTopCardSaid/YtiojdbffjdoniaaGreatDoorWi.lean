import Derived.Test.YtiojdbffjdoniaaGreatDoorTurn
namespace Go.Proofs.YtiojdbffjdoniaaGreatDoor
open Go.RowKit
structure Cx where
 x : Int
 y : Int
abbrev Cx.val (c : Cx) : Value := .agg #[.int .i64 c.x, .int .i64 c.y]
def Cx.cells (c : Cx) : List Value := [.int .i64 c.x, .int .i64 c.y]
theorem Cx.cells_length (c : Cx) : c.cells.length = 2 := rfl
structure Yx where
 a : Option Addr
 l : List Cx
 c : Nat
abbrev Yx.val (y : Yx) : Value := .agg #[.slice y.a y.l.length y.c]
def Yx.cells (y : Yx) : List Value := [.slice y.a y.l.length y.c]
theorem Yx.cells_length (y : Yx) : y.cells.length = 1 := rfl
def Yx.In (w : World) (y : Yx) : Prop := Xs 2 Cx.cells w y.a y.l
theorem Yx.In.zL {w w' : World} {y : Yx} (h : y.In w) (hb : Below w.heap.size w w') : y.In w' := Xs.zL h hb
def kM (i : Int) : List Value := [.int .i64 i]
structure Wx where
 n : ByteArray
 q : Int
 s : Int
 f : Int
 b : Int
 l : Int
 wa : Option Addr
 wl : List Yx
 wc : Nat
 la : Option Addr
 ll : List Int
 lc : Nat
abbrev Wx.val (x : Wx) : Value := .agg #[.string x.n, .int .i64 x.q, .int .i64 x.s, .int .i64 x.f, .int .i64 x.b, .int .i64 x.l, .slice x.wa x.wl.length x.wc, .slice x.la x.ll.length x.lc]
structure Wx.In (w : World) (x : Wx) : Prop where
 ws : Xs 1 Yx.cells w x.wa x.wl
 yn : ∀ y ∈ x.wl, y.In w
 ls : Xs 1 kM w x.la x.ll
theorem Wx.In.zL {w w' : World} {x : Wx} (h : x.In w) (hb : Below w.heap.size w w') : x.In w' := ⟨h.ws.zL hb, fun y m => (h.yn y m).zL hb, h.ls.zL hb⟩
structure Wx.Fit (x : Wx) : Prop where
 wn : x.wl.length <= 1048576
 yn : ∀ y ∈ x.wl, y.l.length <= 1048576
 ln : x.ll.length <= 1048576
 sn : x.n.size <= 9223372036854775807
def dX (c : Cx) : Bool := eK c.x c.y
def gK (a b : Cx) : Bool := decide (-1 <= b.x - a.x /\ b.x - a.x <= 1 /\ -1 <= b.y - a.y /\ b.y - a.y <= 1 /\ ¬ (b.x = a.x /\ b.y = a.y))
def fK : List Cx -> Bool
 | a :: b :: r => gK a b && fK (b :: r)
 | _ => true
theorem lY : ∀ l : List Cx, fK l = true ↔ ∀ i (h : i + 1 < l.length), gK l[i] l[i + 1] = true
 | [] => by simp [fK]
 | [a] => by simp [fK]
 | a :: b :: r => by
  rw [fK, bat, lY (b :: r)]
  constructor
  · rintro ⟨h, ht⟩ i hi
    cases i with
    | zero => exact h
    | succ i => exact ht i (by simpa using hi)
  · intro h
    exact ⟨h 0 (by simp), fun i hi => h (i + 1) (by simpa using hi)⟩
theorem rB (l : List Cx) (i : Nat) (h : i + 1 < l.length) (hb : gK l[i] l[i + 1] = false) : fK l = false := by
 rw [Bool.eq_false_iff];intro hp;have := (lY l).1 hp i h;rw [hb] at this;cases this
theorem gJ {α : Type} (p : α -> Bool) (l : List α) (k : Nat) (h : k < l.length) (hp : p l[k] = false) : l.all p = false := by
 rw [Bool.eq_false_iff];intro ha;have := lat.1 ha l[k] (lgm h);rw [hp] at this;cases this
theorem kG {α : Type} (p : α -> Bool) (l : List α) (k : Nat) (h : k < l.length) : (l.take (k + 1)).all p = ((l.take k).all p && p l[k]) := by
 rw [List.take_succ_eq_append_getElem h, List.all_append];simp only [List.all_cons, List.all_nil, Bool.and_true]
def uM (n : Nat) : Bool := decide (2 <= n /\ n <= 40)
def iW (l : List Cx) (j : Nat) : Cx := l[j]?.getD ⟨0, 0⟩
theorem gR (l : List Cx) (j : Nat) (h : j < l.length) : iW l j = l[j] := by simp [iW, h]
def sW (fl : List Fx) (l : List Cx) : Bool := qV fl (iW l 0).x (iW l 0).y && qV fl (iW l (l.length - 1)).x (iW l (l.length - 1)).y
def gF (fl : List Fx) (l : List Cx) : Bool := uM l.length && (l.all dX && (fK l && sW fl l))
def nL (n : Nat) : Bool := decide (1 <= n /\ n <= 3)
def BO (n : Nat) : Bool := decide (1 <= n /\ n <= 6)
def mO (fl : List Fx) (l : List Yx) : Bool := nL l.length && l.all fun y => gF fl y.l
def s5 (i : Int) : Bool := decide (1 <= i /\ i <= 6)
def iF (l : List Int) : Bool := BO l.length && l.all s5
def mS (x : Wx) : Bool := decide (1 <= x.q /\ x.q <= x.s /\ x.s <= 50 /\ 0 <= x.f /\ x.f <= x.b /\ x.b <= 10000)
def rC (i : Int) : Bool := decide (0 <= i /\ i <= 300)
def dH (fl : List Fx) (x : Wx) : Bool := aW fl && (bL x.n && (mS x && (rC x.l && (mO fl x.wl && iF x.ll))))
def gO (x : Wx) (late : Int) : Bool := dS x.q 1 50 && dS x.s 1 50 && dS x.f 0 10000 && dS x.b 0 10000 && dS late 0 300
def pD (k n lev : Int) : Int := min lev (min k (n - 1 - k))
def j6 (x : Wx) (cs : List Cx) (lev late : Int) (k : Nat) : Bx :=
 let here := pD k cs.length lev
 let bef := if k = 0 then here else pD ((k : Int) - 1) cs.length lev
 ⟨(iW cs k).x, (iW cs k).y, min bef here, max bef here, x.f + late + k * x.q, x.b + late + ((k : Int) + 1) * x.s - 1⟩
def pT (x : Wx) (cs : List Cx) (lev late : Int) : List Bx := (List.range (min cs.length 40)).map (j6 x cs lev late)
def FA (l : List Yx) (j : Nat) : Yx := l[j]?.getD ⟨none, [], 0⟩
theorem GV (l : List Yx) (j : Nat) (h : j < l.length) : FA l j = l[j] := by simp [FA, h]
def EJ (l : List Int) (j : Nat) : Int := l[j]?.getD 0
theorem GH (l : List Int) (j : Nat) (h : j < l.length) : EJ l j = l[j] := by simp [EJ, h]
def jZ (n : Nat) (i : Int) : Bool := decide (0 <= i /\ i < n)
def aS (x : Wx) (way lev late : Int) : List Bx :=
 if jZ x.wl.length way && (jZ x.ll.length lev && gO x late) then pT x (FA x.wl way.toNat).l (EJ x.ll lev.toNat) late else []
set_option maxRecDepth 100000
set_option maxHeartbeats 1000000
abbrev OH (lo hi : Int) : Value := .agg #[.int .i64 lo, .int .i64 hi]
theorem lS (lo hi n : Int) (w : World) :
 Calls Tryz.prog 197 #[OH lo hi, .int .i64 n] w fun e w' => e = .returned (.bool (dS n lo hi)) /\ Below w.heap.size w w' := by
 go_enter Tryz.func197, Tryz.ntmps197
 go_wp2
 all_goals go_ret
 all_goals refine ⟨aC ?_, aB (br _ _) _⟩
 all_goals (rw [Bool.eq_iff_iff];simp only [dS, dte, Bool.false_eq_true, false_iff];omega)
theorem uO (lo hi : Int) (w : World) :
 Calls Tryz.prog 218 #[OH lo hi] w fun e w' => e = .returned (.bool (decide (hi < lo))) /\ Below w.heap.size w w' := by
 go_enter Tryz.func218, Tryz.ntmps218
 go_wp2
 all_goals go_ret
 all_goals refine ⟨aC ?_, aB (br _ _) _⟩
 all_goals rfl
theorem sE (n : Int) (w : World) :
 Calls Tryz.prog 196 #[.int .i64 n] w fun e w' => e = .returned (OH 0 n) /\ Below w.heap.size w w' := by
 go_enter Tryz.func196, Tryz.ntmps196
 go_wp2
 refine bpr (v := OH 0 n) ?_ rfl ⟨rfl, aB (br _ _) _⟩
 simp [results, Tryz.results196, go_sem]
theorem vS (a b c d : Int) (w : World) :
 Calls Tryz.prog 217 #[OH a b, OH c d] w fun e w' => e = .returned (.bool (dS a c d && dS b c d)) /\ Below w.heap.size w w' := by
 obtain ⟨v1, h1⟩ : ∃ v, dS a c d = v := ⟨_, rfl⟩;rw [h1];have hB0 : Below w.heap.size w ((w.alloc (.cells #[.int .i64 a, .int .i64 b] 255)).alloc (.cells #[.int .i64 c, .int .i64 d] 255)) := aB (aB (br _ _) _) _
 go_enter Tryz.func217, Tryz.ntmps217
 go_wp2_with fail
 refine (lS _ _ _ _).mono ?_;rintro e w1 ⟨rfl, hb1⟩;rw [h1];have k1 : w1.cell? ⟨w.heap.size, 1, none⟩ = some (.int .i64 b) := (hb1.cell (p := ⟨w.heap.size, 1, none⟩) (by simp;omega)).trans (by simp);have k2 : w1.cell? ⟨w.heap.size + 1, 0, none⟩ = some (.int .i64 c) := (hb1.cell (p := ⟨w.heap.size + 1, 0, none⟩) (by simp)).trans (by simp);have k3 : w1.cell? ⟨w.heap.size + 1, 1, none⟩ = some (.int .i64 d) := (hb1.cell (p := ⟨w.heap.size + 1, 1, none⟩) (by simp)).trans (by simp);have hB1 := aD hB0 hb1
 cases v1 with
 | false =>
  go_wp2
  go_ret;exact ⟨rfl, hB1⟩
 | true =>
  go_wp2_with fail
  refine (lS _ _ _ _).mono ?_;rintro e w2 ⟨rfl, hb2⟩;go_wp2
  go_ret;exact ⟨rfl, aD hB1 hb2⟩
abbrev J2 (q s f b : Int) : Value := .agg #[.int .i64 q, .int .i64 s, .int .i64 f, .int .i64 b]
abbrev Wx.obj (x : Wx) : Obj := .cells #[.string x.n, .int .i64 x.q, .int .i64 x.s, .int .i64 x.f, .int .i64 x.b, .int .i64 x.l, .slice x.wa x.wl.length x.wc, .slice x.la x.ll.length x.lc] 33
def nP (q s f b : Int) : Bool := dS q 1 50 && dS s 1 50 && (dS f 0 10000 && dS b 0 10000)
def zA (q s f b : Int) : Bool := !decide (s < q) && !decide (b < f)
theorem sJ (q s f b : Int) (w : World) :
 Calls Tryz.prog 193 #[J2 q s f b] w fun e w' => e = .returned (.bool (nP q s f b)) /\ Below w.heap.size w w' := by
 unfold nP;obtain ⟨v1, h1⟩ : ∃ v, (dS q 1 50 && dS s 1 50) = v := ⟨_, rfl⟩;rw [h1];have hB0 : Below w.heap.size w (w.alloc (.cells #[.int .i64 q, .int .i64 s, .int .i64 f, .int .i64 b] 257)) := aB (br _ _) _
 go_enter Tryz.func193, Tryz.ntmps193
 go_wp2_with fail
 refine (vS _ _ _ _ _).mono ?_;rintro e w1 ⟨rfl, hb1⟩;rw [h1];have k1 : w1.cell? ⟨w.heap.size, 2, none⟩ = some (.int .i64 f) := (hb1.cell (p := ⟨w.heap.size, 2, none⟩) (by simp)).trans (by simp);have k2 : w1.cell? ⟨w.heap.size, 3, none⟩ = some (.int .i64 b) := (hb1.cell (p := ⟨w.heap.size, 3, none⟩) (by simp)).trans (by simp);have hB1 := aD hB0 hb1
 cases v1 with
 | false =>
  go_wp2
  go_ret;exact ⟨rfl, hB1⟩
 | true =>
  go_wp2_with fail
  refine (vS _ _ _ _ _).mono ?_;rintro e w2 ⟨rfl, hb2⟩;go_wp2
  go_ret;exact ⟨rfl, aD hB1 hb2⟩
theorem AB (q s f b : Int) (w : World) :
 Calls Tryz.prog 194 #[J2 q s f b] w fun e w' => e = .returned (.bool (zA q s f b)) /\ Below w.heap.size w w' := by
 unfold zA;obtain ⟨v1, h1⟩ : ∃ v, decide (s < q) = v := ⟨_, rfl⟩;rw [h1];have hB0 : Below w.heap.size w (w.alloc (.cells #[.int .i64 q, .int .i64 s, .int .i64 f, .int .i64 b] 257)) := aB (br _ _) _
 go_enter Tryz.func194, Tryz.ntmps194
 go_wp2_with fail
 refine (uO _ _ _).mono ?_;rintro e w1 ⟨rfl, hb1⟩;rw [h1];have k1 : w1.cell? ⟨w.heap.size, 2, none⟩ = some (.int .i64 f) := (hb1.cell (p := ⟨w.heap.size, 2, none⟩) (by simp)).trans (by simp);have k2 : w1.cell? ⟨w.heap.size, 3, none⟩ = some (.int .i64 b) := (hb1.cell (p := ⟨w.heap.size, 3, none⟩) (by simp)).trans (by simp);have hB1 := aD hB0 hb1
 cases v1 with
 | true =>
  go_wp2
  go_ret;exact ⟨rfl, hB1⟩
 | false =>
  go_wp2_with fail
  refine (uO _ _ _).mono ?_;rintro e w2 ⟨rfl, hb2⟩;go_wp2
  go_ret;exact ⟨rfl, aD hB1 hb2⟩
theorem oR (x : Wx) (w : World) :
 Calls Tryz.prog 192 #[x.val] w fun e w' => e = .returned (J2 x.q x.s x.f x.b) /\ Below w.heap.size w w' := by
 go_enter Tryz.func192, Tryz.ntmps192
 go_wp2
 refine bpr (v := J2 x.q x.s x.f x.b) ?_ rfl ⟨rfl, aB (aB (br _ _) _) _⟩
 simp [results, Tryz.results192, go_sem]
theorem E2 (x : Wx) : mS x = (nP x.q x.s x.f x.b && zA x.q x.s x.f x.b) := by
 rw [Bool.eq_iff_iff];simp only [mS, nP, zA, dS, bat, Bool.not_eq_true', dte, decide_eq_false_iff_not];omega
theorem IU (x : Wx) (w : World) :
 Calls Tryz.prog 191 #[x.val] w fun e w' => e = .returned (.bool (mS x)) /\ Below w.heap.size w w' := by
 rw [E2];obtain ⟨v1, h1⟩ : ∃ v, nP x.q x.s x.f x.b = v := ⟨_, rfl⟩;rw [h1];have hB0 : Below w.heap.size w (w.alloc x.obj) := aB (br _ _) _;have hO : (w.alloc x.obj).heap[w.heap.size]? = some x.obj := wnq w x.obj
 go_enter Tryz.func191, Tryz.ntmps191
 go_wp2_with fail
 refine (oR x _).mono ?_;rintro e w1 ⟨rfl, hb1⟩;have hO1 := (hb1.block _ (bP hO)).trans hO;have hB1 := aD hB0 hb1;go_wp2_with fail
 refine (sJ _ _ _ _ _).mono ?_;rintro e w2 ⟨rfl, hb2⟩;rw [h1];have hO2 := (hb2.block _ (bP hO1)).trans hO1;have hB2 := aD hB1 hb2
 cases v1 with
 | false =>
  go_wp2
  go_ret;exact ⟨rfl, hB2⟩
 | true =>
  obtain ⟨k0, k1, k2, k3, k4, k5, k6, k7⟩ := fQ hO2;go_wp2_with fail
  refine (oR x _).mono ?_;rintro e w3 ⟨rfl, hb3⟩;have hB3 := aD hB2 hb3;clear k0 k1 k2 k3 k4 k5 k6 k7;go_wp2_with fail
  refine (AB _ _ _ _ _).mono ?_;rintro e w4 ⟨rfl, hb4⟩;go_wp2
  go_ret;exact ⟨rfl, aD hB3 hb4⟩
theorem II (x : Wx) (w : World) :
 Calls Tryz.prog 195 #[x.val] w fun e w' => e = .returned (.bool (rC x.l)) /\ Below w.heap.size w w' := by
 have hB0 : Below w.heap.size w (w.alloc x.obj) := aB (br _ _) _;have hO : (w.alloc x.obj).heap[w.heap.size]? = some x.obj := wnq w x.obj;have k5 : (w.alloc x.obj).cell? ⟨w.heap.size, 5, none⟩ = some (.int .i64 x.l) := aH hO rfl;have hne : Nonempty (bO (w.alloc x.obj)) := ⟨⟨_, br _ _⟩⟩;have f5 := bO.cell k5
 go_enter Tryz.func195, Tryz.ntmps195
 go_wp2_with fail
 refine aR (by kernel_rfl) (by kernel_rfl) ?_
 repeat (go_big_quiet_step (first | (go_at_call 196;exact bO.call _ (sE _ _)) | (go_at_call 197;exact bO.call _ (lS _ _ _ _))))
 refine wpQuiet_nil ?_;rintro _ ⟨s, rfl⟩;have hb1 := s.h;go_wp2
 go_ret;exact ⟨aC rfl, aD hB0 hb1⟩
theorem Tryz.info171 : (Tryz.prog.info? 171).map (fun i => (i.zero, i.size, i.bytes)) = some (some (.agg #[.int .i64 0, .int .i64 0]), 2, 16) := by kernel_rfl
theorem Tryz.info174 : (Tryz.prog.info? 174).map (fun i => (i.zero, i.size, i.bytes)) = some (some (.agg #[.slice none 0 0]), 1, 24) := by kernel_rfl
theorem Tryz.info3 : (Tryz.prog.info? 3).map (fun i => (i.zero, i.size, i.bytes)) = some (some (.int .i64 0), 1, 8) := by kernel_rfl
theorem mR {w : World} {bl o : Nat} {f : Cx} (h : aM w bl o f.cells) : w.cell? ⟨bl, o, none⟩ = some (.int .i64 f.x) /\ w.cell? ⟨bl, o + 1, none⟩ = some (.int .i64 f.y) :=
 ⟨h 0 _ rfl, h 1 _ rfl⟩
theorem GR {w : World} {bl o : Nat} {f : Yx} (h : aM w bl o f.cells) : w.cell? ⟨bl, o, none⟩ = some (.slice f.a f.l.length f.c) := h 0 _ rfl
theorem GJ {w : World} {bl o : Nat} {i : Int} (h : aM w bl o (kM i)) : w.cell? ⟨bl, o, none⟩ = some (.int .i64 i) := h 0 _ rfl
end Go.Proofs.YtiojdbffjdoniaaGreatDoor
namespace Go.Proofs.YtiojdbffjdoniaaGreatDoor
set_option maxRecDepth 100000
set_option maxHeartbeats 2000000
open Go.RowKit Go.Shelf
attribute [local go_sem] Oper.semAt_some
abbrev PC := { p : Cx × Cx // dX p.1 = true /\ dX p.2 = true }
theorem G6 {l : List Cx} (h : l.all dX = true) (j : Nat) : dX (iW l j) = true := by
 by_cases hj : j < l.length
 · rw [gR l j hj];exact lat.1 h _ (lgm hj)
 · simp [iW, Nat.le_of_not_lt hj];decide
def lN (l : List Cx) (h : l.all dX = true) (j : Nat) : PC := ⟨(iW l j, iW l (j + 1)), G6 h j, G6 h (j + 1)⟩
theorem rK {w w' : World} {bl o B : Nat} {c : List Value} (h : aM w bl o c) (hb : Below B w w') (hl : bl < B) : aM w' bl o c := fun j v hj => (hb.cell (p := ⟨bl, o + j, none⟩) hl).trans (h j v hj)
theorem JL (n : Nat) (lp Bs n₀ bl off cap : Nat) (l : List Cx) (hok : l.all dX = true) (hl1 : 1 <= l.length) (hlen : l.length <= 1048576) (hb : bl < n₀) (hBn : Bs < n₀)
 (J Jx : List PC -> World -> Prop) (W : World) (hJa : AbidesFrom W.heap.size J)
 (hY : ∀ pre (x : PC) W, J pre W -> pre.length < l.length - 1 -> YieldAt Fence.wide (n - 1) Tryz.prog lp #[x.1.1.val, x.1.2.val] W fun e W' =>
  (e = .returned (.bool true) /\ J (pre ++ [x]) W' /\ Below n₀ W W') ∨ (e = .returned (.bool false) /\ Jx (pre ++ [x]) W'))
 (hBs : W.cell? ⟨Bs, 0, none⟩ = some (.slice (some ⟨bl, off, none⟩) l.length cap)) (hc : ∀ j (h : j < l.length), aM W bl (off + j * 2) l[j].cells) (h0 : J [] W) :
 CallsIn Fence.wide n Tryz.prog 243 #[.func (.yield lp) #[] #[], .pointer (some ⟨Bs, 0, none⟩)] W fun e W' => (∃ v, e = .returned v) /\
  ((∃ ys, ys = bM (lN l hok) (l.length - 1) /\ J ys W') ∨ (∃ pre, (∃ k, k <= l.length - 1 /\ pre = bM (lN l hok) k) /\ Jx pre W')) := by
 refine callsIn_of_wp Tryz.func243 rfl trivial ?_ rfl;simp only [Tryz.ntmps243, lsz, llc, lln, Nat.reduceAdd, Nat.reduceSub, ars, arz, lpt, lap, lna, lca];gi_wp2
 gi_loopw [3] (fun i wr => ∃ k : Nat, k + 1 <= l.length /\ i = .int .i64 ((k : Int) + 1) /\ J (bM (lN l hok) k) wr /\ Below n₀ W wr)
  (fun i _ => l.length - (intOf i).toNat)
 case atStart => exact ⟨0, hl1, rfl, h0, br _ _⟩
 case round =>
  obtain ⟨k, hk, rfl, hJs, hnx⟩ := hrel;have hcb := (hnx.cell (p := ⟨Bs, 0, none⟩) hBn).trans hBs
  by_cases hlt : k + 1 < l.length
  · have hJd : J (bM (lN l hok) k) wr.drew := hJa _ _ _ none hJs (l9 wr) (fun r e => by cases e)
    obtain ⟨fn, tmps, assign, body, hy, hR⟩ := hY _ (lN l hok k) wr.drew hJd (by rw [c9];omega)
    dsimp only [lN] at hy
    have hW : Below n₀ wr wr.drew := (br _ _).drew;have hba : aM wr bl (off + k * 2) (iW l k).cells := by rw [gR l k (by omega)];exact rK (hc k (by omega)) hnx hb
    have hbb : aM wr bl (off + (k + 1) * 2) (iW l (k + 1)).cells := by rw [gR l (k + 1) hlt];exact rK (hc (k + 1) hlt) hnx hb
    generalize iW l k = a at hy hba;generalize iW l (k + 1) = b at hy hbb;obtain ⟨c0, c1⟩ := mR hba;obtain ⟨d0, d1⟩ := mR hbb;have hi0 : (0 : Int) <= (k : Int) := by omega
    have hi1 : (k : Int) < (l.length : Int) := by omega
    have hi2 : (k : Int) + 1 < (l.length : Int) := by omega
    have hi3 : (0 : Int) <= (k : Int) + 1 := by omega
    have HNX : Hid (Below n₀ W wr.drew) := hnx.trans hW;have HR := hR;clear hR hc hBs h0 hJs hJd hnx hW hY hJa hba hbb;gi_wp2_with fail
    refine gT 10 (by kernel_rfl) (by kernel_rfl) ?_;simp only [lts, List.take_zero, lds, List.drop_zero]
    repeat (go_big_quiet_step (fail))
    refine wpQuiet_nil ?_;clear c0 c1 d0 d1;gi_wp2_with fail
    refine ⟨fun h => (by cases h), ?_⟩;refine RoundIn.mono HR ?_;rintro e W3 (⟨rfl, hJ3, hk3⟩ | ⟨rfl, hJx3⟩)
    · clear HR hy
      gi_wp2
      go_roundw
      case rel => exact ⟨k + 1, by omega, by go_num, by rw [cX];exact hJ3, HNX.out.trans hk3⟩
      case measure => simp [intOf];omega
    · clear HR hy
      gi_wp2;refine bpr (results_none rfl _ _ _) rfl ?_;exact ⟨⟨_, rfl⟩, .inr ⟨_, ⟨k + 1, by omega, (cX _ _).symm⟩, hJx3⟩⟩
  · have hke : k = l.length - 1 := by omega
    gi_wp2
    go_end0
    exact ⟨⟨_, rfl⟩, .inl ⟨_, rfl, by rw [← hke];exact hJs⟩⟩
theorem KV (F : Fence) (n : Nat) (hf : F.fn 239) (hro : F.round = none) (a : Option Addr) (len cap : Nat) (w : World) :
 CallsIn F n Tryz.prog 239 #[.slice a len cap] w fun e w' => e = .returned (.func (.func 243) #[] #[.pointer (some ⟨w.heap.size, 0, none⟩)]) /\ w' = w.alloc (.cells #[.slice a len cap] 168) := by
 refine callsIn_of_wp Tryz.func239 rfl hf ?_ hro;simp only [Tryz.ntmps239, lsz, llc, lln, Nat.reduceAdd, Nat.reduceSub, ars, arz, lpt, lap, lna, lca];gi_wp2;go_ret;exact ⟨rfl, rfl⟩
theorem CT (n : Nat) (Bs bl off cap : Nat) (l : List Cx) (hok : l.all dX = true) (hl1 : 1 <= l.length) (hlen : l.length <= 1048576) (w : World)
 (hBs : w.cell? ⟨Bs, 0, none⟩ = some (.slice (some ⟨bl, off, none⟩) l.length cap)) (hc : ∀ j (h : j < l.length), aM w bl (off + j * 2) l[j].cells) :
 SeqStopsK Fence.wide n Tryz.prog 243 #[.pointer (some ⟨Bs, 0, none⟩)] (fun x : PC => #[x.1.1.val, x.1.2.val]) (Below w.heap.size) (fun ys => ys = bM (lN l hok) (l.length - 1)) (fun pre => ∃ k, k <= l.length - 1 /\ pre = bM (lN l hok) k) (l.length - 1) w := fun lp J Jx W hW hJ _ hY h0 => by
 have hb : bl < w.heap.size := aA (mR (hc 0 (by omega))).1;have hBn : Bs < w.heap.size := aA hBs;exact JL n lp Bs w.heap.size bl off cap l hok hl1 hlen hb hBn J Jx W hJ hY ((hW.cell (p := ⟨Bs, 0, none⟩) hBn).trans hBs) (fun j h => rK (hc j h) hW hb) h0
theorem FP {l : List Cx} {hok : l.all dX = true} (h : ∀ x ∈ bM (lN l hok) (l.length - 1), gK x.1.1 x.1.2 = true) : fK l = true := by
 refine (lY l).2 fun i hi => ?_;have := h (lN l hok i) (by simp only [bM, List.mem_map, List.mem_range];exact ⟨i, by omega, rfl⟩);simp only [lN] at this
 rwa [gR l i (by omega), gR l (i + 1) hi] at this
theorem FH {l : List Cx} {hok : l.all dX = true} {k : Nat} (hk : k <= l.length - 1) {x : PC} (hx : x ∈ bM (lN l hok) k) (h : gK x.1.1 x.1.2 = false) : fK l = false := by
 simp only [bM, List.mem_map, List.mem_range] at hx;obtain ⟨i, hi, rfl⟩ := hx;simp only [lN] at h;rw [gR l i (by omega), gR l (i + 1) (by omega)] at h;exact rB l i (by omega) h
def s6 (w : World) (bl : Nat) (c : Cx) : Prop := w.cell? ⟨bl, 0, none⟩ = some (.int .i64 c.x) /\ w.cell? ⟨bl, 1, none⟩ = some (.int .i64 c.y)
theorem s6.zL {w w' : World} {bl : Nat} {c : Cx} (h : s6 w bl c) (hb : Below w.heap.size w w') : s6 w' bl c := ⟨(hb.cell (aA h.1)).trans h.1, (hb.cell (aA h.2)).trans h.2⟩
theorem wN {W W' : World} {row : Option Nat} {bl : Nat} {b : Cx} (h : s6 W bl b) (hg : W.grownBy W' row) (hrow : ∀ r, row = some r -> ∃ o : Obj, W.heap[r]? = some o /\ o.isCells = false) : s6 W' bl b :=
 ⟨cell_kept h.1 hg hrow, cell_kept h.2 hg hrow⟩
theorem C9 (W : World) (g : Nat) (hg : g = W.heap.size) (b : Cx) (t : Nat) : s6 (W.alloc (.cells #[.int .i64 b.x, .int .i64 b.y] t)) g b := by
 subst hg
 constructor <;> simp
end Go.Proofs.YtiojdbffjdoniaaGreatDoor
