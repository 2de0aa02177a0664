import Derived.Test.YtiojdbffjdoniaaGreatDoorSq
import Derived.RangeFuncNested
import Derived.RangeFuncBound
import Derived.RangeFuncCalls
import Derived.RangeFuncLeaves
namespace Go.Proofs.YtiojdbffjdoniaaGreatDoor
open Go.RowKit
structure aU (X : Nat -> Prop) (A A' : World) : Prop where
 size : A.heap.size <= A'.heap.size
 c : ∀ (k : Nat) (o : Obj), ¬ X k -> A.heap[k]? = some o -> o.isCells = true -> A'.heap[k]? = some o
theorem aU.refl (X : Nat -> Prop) (A : World) : aU X A A := ⟨nlq _, fun _ _ _ h _ => h⟩
theorem aU.trans {X : Nat -> Prop} {A B C : World} (h : aU X A B) (g : aU X B C) : aU X A C := ⟨Nat.le_trans h.size g.size, fun k o hx hk ho => g.c k o hx (h.c k o hx hk ho) ho⟩
theorem aU.of_below {X : Nat -> Prop} {A B : World} (h : Below A.heap.size A B) : aU X A B := ⟨h.size, fun k _ _ hk _ => (h.block k (bP hk)).trans hk⟩
theorem aU.putObj {X : Nat -> Prop} {W : World} {l : Nat} {o : Obj} (o' : Obj) (ho : W.heap[l]? = some o) (hc : o.isCells = false) : aU X W (W.putObj l o') := by
 refine ⟨by simp, fun k u _ hk hu => ?_⟩;have hne : k ≠ l := fun e => by subst e;rw [ho] at hk;cases hk;rw [hc] at hu;cases hu
 exact (World.putObj_heap_other hne).trans hk
theorem GM {X : Nat -> Prop} {A B C : World} (h : aU X A B) (g : aU X B C) : aU X A C := h.trans g
theorem GD {X : Nat -> Prop} {w : World} (W : World) (l : Nat) (o o' : Obj) (_ : w.heap.size <= l) (ho : W.heap[l]? = some o) (hc : o.isCells = false) (_ : o.isWalk = false) : aU X W (W.putObj l o') := aU.putObj o' ho hc
theorem aU.setCell {X : Nat -> Prop} (W : World) (b j : Nat) (v : Value) (hx : X b) : aU X W (W.setCell ⟨b, j, none⟩ v) :=
 ⟨by show W.heap.size <= (W.heap.modify _ _).size;rw [Array.size_modify];exact nlq _, fun k _ hk h _ => (Below.heap_setCell W _ v k (fun e => hk (by cases e;exact hx))).trans h⟩
theorem aU.cell {X : Nat -> Prop} {A A' : World} (h : aU X A A') {p : Addr} {v : Value} (hx : ¬ X p.block) (hc : A.cell? p = some v) : A'.cell? p = some v := by
 obtain ⟨o, ho, hoc⟩ := cells_of_cell hc;have h' := h.c _ _ hx ho hoc;unfold World.cell? at hc ⊢;rw [ho] at hc;rw [h'];exact hc
theorem KeepsFrom.mono {B B' : Nat} {W W' : World} (h : KeepsFrom B W W') (hB : B <= B') : KeepsFrom B' W W' := ⟨h.size, fun k o hk => h.same k o (Nat.le_trans hB hk)⟩
theorem gS {B l : Nat} {W : World} {o : Obj} (o' : Obj) (_ : W.heap[l]? = some o) (hB : l < B) : KeepsFrom B W (W.putObj l o') := ⟨by simp, fun k _ hk h _ => (World.putObj_heap_other (by omega)).trans h⟩
def QS {α : Type} (F : Fence) (n : Nat) (P : Program) (g : Nat) (lb : Array Value) (encs : α -> Array Value) (X : Nat -> Prop) (S Sp : List α -> Prop) (N : Nat) (w : World) : Prop :=
 ∀ (l : Nat) (J Jx : List α -> World -> Prop) (W : World), Below w.heap.size w W -> OwnFrom W.heap.size J -> OwnFrom W.heap.size Jx ->
  (∀ pre x W1, J pre W1 -> pre.length < N -> YieldAt F (n - 1) P l (encs x) W1 fun e W' =>
   KeepsFrom W.heap.size W1 W' /\ ((e = .returned (.bool true) /\ J (pre ++ [x]) W' /\ aU X W1 W') ∨ (e = .returned (.bool false) /\ Jx (pre ++ [x]) W'))) ->
  J [] W ->
  CallsIn F n P g (#[.func (.yield l) #[] #[]] ++ lb) W fun e W' => (∃ v, e = .returned v) /\ ((∃ xs, S xs /\ J xs W') ∨ (∃ pre, Sp pre /\ Jx pre W'))
structure gX (B : Nat) (r : Loop) (W : World) : Prop where
 l : W.heap[B + 1]? = some (.loop r)
 d : W.heap[B]? = some (.deferred (some []))
theorem gX.grown {B : Nat} {r : Loop} {A A' : World} {row : Option Nat} (h : gX B r A) (hg : A.grownBy A' row) (hr : ∀ q, row = some q -> B + 2 <= q) : gX B r A' :=
 ⟨(hg.block _ (bP h.l) (fun e => by have := hr _ e.symm;omega)).trans h.l, (hg.block _ (bP h.d) (fun e => by have := hr _ e.symm;omega)).trans h.d⟩
theorem gX.keeps {B : Nat} {r : Loop} {A A' : World} (h : gX B r A) (hk : KeepsFrom B A A') : gX B r A' := ⟨hk.same _ _ (by omega) h.l rfl, hk.same _ _ (nlq _) h.d rfl⟩
theorem gX.put {B : Nat} {r : Loop} {A : World} (h : gX B r A) (r' : Loop) : gX B r' (A.putObj (B + 1) (.loop r')) :=
 ⟨World.putObj_heap_same (bP h.l), (World.putObj_heap_other (by omega)).trans h.d⟩
section
variable {F : Fence} {n : Nat} {P : Program}
theorem j4 {α : Type} {g : Operand} {ps : Array Tmp} {assign body : Code} {Q : Exit -> Act -> World -> Prop} {a : Act} {w : World}
 (hro : F.round = none) (h1 : 1 <= n) {gf : Nat} {lb : Array Value} (hg : a.eval g = .func (.func gf) #[] lb) (hFg : F.fn gf) (eg : ∀ args w, (callFunc gf args).run P w = .ok (.enter gf args) w)
 {encs : α -> Array Value} {X : Nat -> Prop} {S Sp : List α -> Prop} {N : Nat} {w0 : World} (hseq : QS F (n - 1) P gf lb encs X S Sp N w0) (hb0 : Below w0.heap.size w0 w) (hps : ∀ x, (encs x).size = ps.size)
 (I : List α -> World -> Prop) (Ix : Code -> List α -> World -> Prop) (hI : OwnFrom w.heap.size I) (hIx : ∀ c, OwnFrom w.heap.size (Ix c)) (h0 : I [] w) (Ax : α -> Act -> World -> Prop) (hAx : ∀ x a', OwnFrom w.heap.size (fun (_ : Unit) W => Ax x a' W))
 (hassign : ∀ (l : Nat) (pre : List α) (x : α) (W : World) (K : Act -> World -> Prop), I pre W -> (∀ a' W', KeepsFrom w.heap.size W W' -> aU X W W' -> I pre W' -> Ax x a' W' -> K a' W') ->
  assign.wpIn (F.inRound l) (n - 1 - 1) P (Exit.then K (fun _ _ _ => False)) { tmps := (ps.zip (encs x)).foldl (fun t (p, v) => t.setIfInBounds p v) a.tmps, defers := [] } W)
 (hbody : ∀ (l : Nat) (pre : List α) (x : α) (a' : Act) (W : World), w.heap.size <= l -> (∃ r, W.heap[l]? = some (.loop r)) -> I pre W -> Ax x a' W -> pre.length < N -> body.wpIn (F.inRound l) (n - 1 - 1) P (ownPostG w.heap.size (aU X) I Ix (pre ++ [x]) W) a' W)
 (hdone : ∀ (D : Nat) (xs : List α) (W : World), w.heap.size <= D -> S xs -> I xs W -> W.heap[D]? = some (.deferred (some [])) -> Q .normal { a with defers := { target := .collected D, args := #[] } :: a.defers } W)
 (hstop : ∀ (D : Nat) (c : Code) (pre : List α) (W : World), w.heap.size <= D -> Sp pre -> Ix c pre W -> W.heap[D]? = some (.deferred (some [])) -> c.wpIn F n P Q { a with defers := { target := .collected D, args := #[] } :: a.defers } W) :
 (Code.rangeFunc g ps assign body).wpIn F n P Q a w := by
 refine wpIn_rangeFunc fun fn hfn => ?_;rw [hro];obtain ⟨B, hB⟩ : ∃ B, B = w.heap.size := ⟨_, rfl⟩;obtain ⟨re, hre⟩ : ∃ re : LoopState -> Option Code -> Loop, re = fun st pe => { state := st, pending := pe, fn, tmps := a.tmps, params := ps, assign, body, defers := B } := ⟨_, rfl⟩;have hst : ∀ s p, (re s p).state = s := fun s p => by rw [hre]
 obtain ⟨W1, hW1⟩ : ∃ W1, W1 = (w.alloc (.deferred (some []))).alloc (.loop (re .ready none)) := ⟨_, rfl⟩;have hs1 : W1.heap.size = B + 2 := by rw [hW1, hB];simp
 have hr1 : gX B (re .ready none) W1 := by
  rw [hW1, hB];have a1 := wnq (w.alloc (.deferred (some []))) (.loop (re .ready none));rw [wsa] at a1;exact ⟨a1, (halq _ _ _ (by simp)).trans (wnq w _)⟩
 have hI1 : I [] W1 := by rw [hW1];exact hI.alloc _ (hI.alloc _ h0)
 have hb1 : Below w0.heap.size w0 W1 := by rw [hW1];exact hb0.trans ((((br _ w).alloc (nlq _) _).alloc (by simp) _).mono hb0.size)
 rw [← hB] at hI hIx hAx hassign hbody hdone hstop;refine ⟨B + 1, [{ target := .collected B, args := #[] }], W1, { target := .fn (.func gf) lb, args := #[.func (.yield (B + 1)) #[] #[]] }, W1, gf, #[.func (.yield (B + 1)) #[] #[]] ++ lb, W1, ?_, ?_, ?_, ?_, fun _ => h1, ?_⟩
 · rw [hW1, hre, hB];exact run_enterLoop_outer _ _ _ _ _
 · simp only [resolve, hg]
   simp [go_sem]
 · intro f' hf';simp [Target.leads] at hf';subst hf';exact hFg
 · simp [invoke, go_sem, eg]
 have wide : ∀ {row : Option Nat} {A : World}, (∀ r, row = some r -> W1.heap.size <= r /\ ∃ o : Obj, A.heap[r]? = some o /\ o.isCells = false) -> ∀ r, row = some r -> B <= r /\ ∃ o : Obj, A.heap[r]? = some o /\ o.isCells = false :=
  fun h r e => ⟨by have := (h r e).1;omega, (h r e).2⟩
 have low : ∀ {row : Option Nat} {A : World}, (∀ r, row = some r -> W1.heap.size <= r /\ ∃ o : Obj, A.heap[r]? = some o /\ o.isCells = false) -> ∀ r, row = some r -> B + 2 <= r := fun h r e => by have := (h r e).1;omega
 refine (hseq (B + 1) (fun pre W => I pre W /\ gX B (re .ready none) W) (fun pre W => ∃ c, Ix c pre W /\ gX B (re .done (some c)) W) W1 hb1
  (fun s A _ row hs hg' hr => ⟨hI s A _ row hs.1 hg' (wide hr), hs.2.grown hg' (low hr)⟩) (fun s A _ row ⟨c, hc, hs⟩ hg' hr => ⟨c, hIx c s A _ row hc hg' (wide hr), hs.grown hg' (low hr)⟩) ?_ ⟨hI1, hr1⟩).mono ?_
 · rintro pre x Wr ⟨hi, hrest⟩ hlen
   have hy := run_yield (P := P) (args := encs x) hrest.l (by rw [hre];exact hps x);rw [hre] at hy;refine ⟨fn, _, assign, body, hy, roundIn_of_wpIn hfn (hassign _ pre x Wr _ hi fun a' Wa ka kx hia hax => ?_)⟩;have ra := hrest.keeps ka;refine ⟨_, run_beginRound ra.l (hst _ _), ?_⟩;have eb : ({ re .ready none with state := .busy } : Loop) = re .busy none := by rw [hre]
   rw [eb];have rb := ra.put (re .busy none);have kb : KeepsFrom (B + 2) Wa (Wa.putObj (B + 1) (.loop (re .busy none))) := gS _ ra.l (by omega);have kxb : aU X Wa (Wa.putObj (B + 1) (.loop (re .busy none))) := aU.putObj _ ra.l rfl
   have fin : ∀ (j : Option Code) (W3 : World), KeepsFrom B (Wa.putObj (B + 1) (.loop (re .busy none))) W3 ->
    (Instr.endRound (B + 1) j).run P W3 = .ok (.bool j.isNone) (W3.putObj (B + 1) (.loop (re (if j.isNone then .ready else .done) j))) /\ gX B (re .busy none) W3 /\ KeepsFrom W1.heap.size Wr (W3.putObj (B + 1) (.loop (re (if j.isNone then .ready else .done) j))) := fun j W3 k3 => by
    have r3 := rb.keeps k3;have he := run_endRound (P := P) j r3.l;refine ⟨by rw [he, hre], r3, ?_⟩;rw [hs1];exact (((KeepsFrom.mono ka (by omega)).trans kb).trans (KeepsFrom.mono k3 (by omega))).trans (gS _ r3.l (by omega))
   refine wpIn_mono (hbody _ pre x a' _ (by omega) ⟨_, rb.l⟩ (hI.putObj _ hia (by omega) ra.l rfl) ((hAx x a').putObj (s := ()) _ hax (by omega) ra.l rfl) hlen) ?_;rintro e a3 W3 hp
   have out : ∀ c : Code, KeepsFrom B (Wa.putObj (B + 1) (.loop (re .busy none))) W3 /\ Ix c (pre ++ [x]) W3 -> ∃ v w', (Instr.endRound (B + 1) (some c)).run P W3 = .ok v w' /\ (KeepsFrom W1.heap.size Wr w' /\
    ((Ending.returned v = .returned (.bool true) /\ (I (pre ++ [x]) w' /\ gX B (re .ready none) w') /\ aU X Wr w') ∨ (Ending.returned v = .returned (.bool false) /\ ∃ c, Ix c (pre ++ [x]) w' /\ gX B (re .done (some c)) w'))) := fun c hp => by
    obtain ⟨he, r3, kf⟩ := fin (some c) W3 hp.1;exact ⟨_, _, he, kf, .inr ⟨rfl, c, (hIx c).putObj _ hp.2 (by omega) r3.l rfl, r3.put _⟩⟩
   cases e with
   | normal =>
    obtain ⟨k3, kx3, i3⟩ := hp;obtain ⟨he, r3, kf⟩ := fin none W3 k3;exact ⟨_, _, he, kf, .inl ⟨rfl, ⟨hI.putObj _ i3 (by omega) r3.l rfl, r3.put _⟩, ((kx.trans kxb).trans kx3).trans (aU.putObj _ r3.l rfl)⟩⟩
   | ret => exact out _ hp
   | exit id => exact out _ hp
   | goto t => exact out _ hp
   | panic ch => exact hp.elim
   | outgrown => exact hp.elim
 · rintro e W2 ⟨⟨v, rfl⟩, ⟨xs, hS, hi, hr⟩ | ⟨pre, hSp, c, hi, hr⟩⟩
   · exact ⟨_, _, run_endLoop (P := P) hr.l (by rw [hst];simp), by simpa only [hre, lca, lna] using hdone B xs _ (nlq _) hS (hI.putObj _ hi (by omega) hr.l rfl) (hr.put _).d⟩
   · exact ⟨_, _, run_endLoop (P := P) hr.l (by rw [hst];simp), by simpa only [hre, lca, lna] using hstop B c pre _ (nlq _) hSp ((hIx c).putObj _ hi (by omega) hr.l rfl) (hr.put _).d⟩
theorem nO (hd : F.depth = none) {m m' : Nat} {l : Nat} {f : FuncId} {tmps : Array Value} {assign body : Code} {w : World} {R : Ending -> World -> Prop} (h : RoundIn F m P l f tmps assign body w R) : RoundIn F m' P l f tmps assign body w R :=
 ⟨h.1, fun c cs _ => h.2 c cs (fun d e => by rw [hd] at e;cases e)⟩
theorem oP {m l : Nat} {f : FuncId} {tmps : Array Value} {assign body : Code} {w : World} {R : Ending -> World -> Prop} (l' : Nat) (h : RoundIn F m P l f tmps assign body w R) : RoundIn (F.inRound l') m P l f tmps assign body w R := h
end
structure dD (X : Nat -> Obj -> Prop) (A A' : World) : Prop where
 size : A.heap.size <= A'.heap.size
 c : ∀ (k : Nat) (o : Obj), ¬ X k o -> A.heap[k]? = some o -> o.isCells = true -> A'.heap[k]? = some o
theorem dD.refl (X : Nat -> Obj -> Prop) (A : World) : dD X A A := ⟨nlq _, fun _ _ _ h _ => h⟩
theorem dD.trans {X : Nat -> Obj -> Prop} {A B C : World} (h : dD X A B) (g : dD X B C) : dD X A C := ⟨Nat.le_trans h.size g.size, fun k o hx hk ho => g.c k o hx (h.c k o hx hk ho) ho⟩
theorem dD.of_below {X : Nat -> Obj -> Prop} {A B : World} (h : Below A.heap.size A B) : dD X A B := ⟨h.size, fun k _ _ hk _ => (h.block k (bP hk)).trans hk⟩
theorem dD.putObj {X : Nat -> Obj -> Prop} {W : World} {l : Nat} {o : Obj} (o' : Obj) (ho : W.heap[l]? = some o) (hc : o.isCells = false) : dD X W (W.putObj l o') := by
 refine ⟨by simp, fun k u _ hk hu => ?_⟩;have hne : k ≠ l := fun e => by subst e;rw [ho] at hk;cases hk;rw [hc] at hu;cases hu
 exact (World.putObj_heap_other hne).trans hk
theorem GF {X : Nat -> Obj -> Prop} {A B C : World} (h : dD X A B) (g : dD X B C) : dD X A C := h.trans g
theorem NR {X : Nat -> Obj -> Prop} {w : World} (W : World) (l : Nat) (o o' : Obj) (_ : w.heap.size <= l) (ho : W.heap[l]? = some o) (hc : o.isCells = false) (_ : o.isWalk = false) : dD X W (W.putObj l o') := dD.putObj o' ho hc
theorem dD.of_keepX {X : Nat -> Obj -> Prop} {A B : World} (h : aU (fun _ => False) A B) : dD X A B := ⟨h.size, fun k o _ hk ho => h.c k o (fun e => e) hk ho⟩
def QL {α : Type} (F : Fence) (n : Nat) (P : Program) (g : Nat) (lb : Array Value) (encs : α -> Array Value) (Kp : World -> World -> Prop) (S Sp : List α -> Prop) (N : Nat) (w : World) : Prop :=
 ∀ (l : Nat) (J Jx : List α -> World -> Prop) (W : World), Below w.heap.size w W -> OwnFrom W.heap.size J -> OwnFrom W.heap.size Jx ->
  (∀ pre x W1, J pre W1 -> pre.length < N -> YieldAt F (n - 1) P l (encs x) W1 fun e W' =>
   KeepsFrom W.heap.size W1 W' /\ ((e = .returned (.bool true) /\ J (pre ++ [x]) W' /\ Kp W1 W') ∨ (e = .returned (.bool false) /\ Jx (pre ++ [x]) W'))) ->
  J [] W ->
  CallsIn F n P g (#[.func (.yield l) #[] #[]] ++ lb) W fun e W' => (∃ v, e = .returned v) /\ ((∃ xs, S xs /\ J xs W') ∨ (∃ pre, Sp pre /\ Jx pre W'))
section
variable {F : Fence} {n : Nat} {P : Program}
theorem oG {α : Type} {g : Operand} {ps : Array Tmp} {assign body : Code} {Q : Exit -> Act -> World -> Prop} {a : Act} {w : World}
 (hro : F.round = none) (h1 : 1 <= n) {gf : Nat} {lb : Array Value} (hg : a.eval g = .func (.func gf) #[] lb) (hFg : F.fn gf) (eg : ∀ args w, (callFunc gf args).run P w = .ok (.enter gf args) w)
 {encs : α -> Array Value} {Kp : World -> World -> Prop} {S Sp : List α -> Prop} {N : Nat} {w0 : World} (hseq : QL F (n - 1) P gf lb encs Kp S Sp N w0) (hb0 : Below w0.heap.size w0 w) (hKt : ∀ {A B C : World}, Kp A B -> Kp B C -> Kp A C) (hKb : ∀ {W : World} {l : Nat} {o : Obj} (o' : Obj), W.heap[l]? = some o -> o.isCells = false -> Kp W (W.putObj l o')) (hps : ∀ x, (encs x).size = ps.size)
 (I : List α -> World -> Prop) (Ix : Code -> List α -> World -> Prop) (hI : OwnFrom w.heap.size I) (hIx : ∀ c, OwnFrom w.heap.size (Ix c)) (h0 : I [] w) (Ax : α -> Act -> World -> Prop) (hAx : ∀ x a', OwnFrom w.heap.size (fun (_ : Unit) W => Ax x a' W))
 (hassign : ∀ (l : Nat) (pre : List α) (x : α) (W : World) (K : Act -> World -> Prop), I pre W -> (∀ a' W', KeepsFrom w.heap.size W W' -> Kp W W' -> I pre W' -> Ax x a' W' -> K a' W') ->
  assign.wpIn (F.inRound l) (n - 1 - 1) P (Exit.then K (fun _ _ _ => False)) { tmps := (ps.zip (encs x)).foldl (fun t (p, v) => t.setIfInBounds p v) a.tmps, defers := [] } W)
 (hbody : ∀ (l : Nat) (pre : List α) (x : α) (a' : Act) (W : World), w.heap.size <= l -> (∃ r, W.heap[l]? = some (.loop r)) -> I pre W -> Ax x a' W -> pre.length < N -> body.wpIn (F.inRound l) (n - 1 - 1) P (ownPostG w.heap.size Kp I Ix (pre ++ [x]) W) a' W)
 (hdone : ∀ (D : Nat) (xs : List α) (W : World), w.heap.size <= D -> S xs -> I xs W -> W.heap[D]? = some (.deferred (some [])) -> Q .normal { a with defers := { target := .collected D, args := #[] } :: a.defers } W)
 (hstop : ∀ (D : Nat) (c : Code) (pre : List α) (W : World), w.heap.size <= D -> Sp pre -> Ix c pre W -> W.heap[D]? = some (.deferred (some [])) -> c.wpIn F n P Q { a with defers := { target := .collected D, args := #[] } :: a.defers } W) :
 (Code.rangeFunc g ps assign body).wpIn F n P Q a w := by
 refine wpIn_rangeFunc fun fn hfn => ?_;rw [hro];obtain ⟨B, hB⟩ : ∃ B, B = w.heap.size := ⟨_, rfl⟩;obtain ⟨re, hre⟩ : ∃ re : LoopState -> Option Code -> Loop, re = fun st pe => { state := st, pending := pe, fn, tmps := a.tmps, params := ps, assign, body, defers := B } := ⟨_, rfl⟩;have hst : ∀ s p, (re s p).state = s := fun s p => by rw [hre]
 obtain ⟨W1, hW1⟩ : ∃ W1, W1 = (w.alloc (.deferred (some []))).alloc (.loop (re .ready none)) := ⟨_, rfl⟩;have hs1 : W1.heap.size = B + 2 := by rw [hW1, hB];simp
 have hr1 : gX B (re .ready none) W1 := by
  rw [hW1, hB];have a1 := wnq (w.alloc (.deferred (some []))) (.loop (re .ready none));rw [wsa] at a1;exact ⟨a1, (halq _ _ _ (by simp)).trans (wnq w _)⟩
 have hI1 : I [] W1 := by rw [hW1];exact hI.alloc _ (hI.alloc _ h0)
 have hb1 : Below w0.heap.size w0 W1 := by rw [hW1];exact hb0.trans ((((br _ w).alloc (nlq _) _).alloc (by simp) _).mono hb0.size)
 rw [← hB] at hI hIx hAx hassign hbody hdone hstop;refine ⟨B + 1, [{ target := .collected B, args := #[] }], W1, { target := .fn (.func gf) lb, args := #[.func (.yield (B + 1)) #[] #[]] }, W1, gf, #[.func (.yield (B + 1)) #[] #[]] ++ lb, W1, ?_, ?_, ?_, ?_, fun _ => h1, ?_⟩
 · rw [hW1, hre, hB];exact run_enterLoop_outer _ _ _ _ _
 · simp only [resolve, hg]
   simp [go_sem]
 · intro f' hf';simp [Target.leads] at hf';subst hf';exact hFg
 · simp [invoke, go_sem, eg]
 have wide : ∀ {row : Option Nat} {A : World}, (∀ r, row = some r -> W1.heap.size <= r /\ ∃ o : Obj, A.heap[r]? = some o /\ o.isCells = false) -> ∀ r, row = some r -> B <= r /\ ∃ o : Obj, A.heap[r]? = some o /\ o.isCells = false :=
  fun h r e => ⟨by have := (h r e).1;omega, (h r e).2⟩
 have low : ∀ {row : Option Nat} {A : World}, (∀ r, row = some r -> W1.heap.size <= r /\ ∃ o : Obj, A.heap[r]? = some o /\ o.isCells = false) -> ∀ r, row = some r -> B + 2 <= r := fun h r e => by have := (h r e).1;omega
 refine (hseq (B + 1) (fun pre W => I pre W /\ gX B (re .ready none) W) (fun pre W => ∃ c, Ix c pre W /\ gX B (re .done (some c)) W) W1 hb1
  (fun s A _ row hs hg' hr => ⟨hI s A _ row hs.1 hg' (wide hr), hs.2.grown hg' (low hr)⟩) (fun s A _ row ⟨c, hc, hs⟩ hg' hr => ⟨c, hIx c s A _ row hc hg' (wide hr), hs.grown hg' (low hr)⟩) ?_ ⟨hI1, hr1⟩).mono ?_
 · rintro pre x Wr ⟨hi, hrest⟩ hlen
   have hy := run_yield (P := P) (args := encs x) hrest.l (by rw [hre];exact hps x);rw [hre] at hy;refine ⟨fn, _, assign, body, hy, roundIn_of_wpIn hfn (hassign _ pre x Wr _ hi fun a' Wa ka kx hia hax => ?_)⟩;have ra := hrest.keeps ka;refine ⟨_, run_beginRound ra.l (hst _ _), ?_⟩;have eb : ({ re .ready none with state := .busy } : Loop) = re .busy none := by rw [hre]
   rw [eb];have rb := ra.put (re .busy none);have kb : KeepsFrom (B + 2) Wa (Wa.putObj (B + 1) (.loop (re .busy none))) := gS _ ra.l (by omega);have kxb : Kp Wa (Wa.putObj (B + 1) (.loop (re .busy none))) := hKb _ ra.l rfl
   have fin : ∀ (j : Option Code) (W3 : World), KeepsFrom B (Wa.putObj (B + 1) (.loop (re .busy none))) W3 ->
    (Instr.endRound (B + 1) j).run P W3 = .ok (.bool j.isNone) (W3.putObj (B + 1) (.loop (re (if j.isNone then .ready else .done) j))) /\ gX B (re .busy none) W3 /\ KeepsFrom W1.heap.size Wr (W3.putObj (B + 1) (.loop (re (if j.isNone then .ready else .done) j))) := fun j W3 k3 => by
    have r3 := rb.keeps k3;have he := run_endRound (P := P) j r3.l;refine ⟨by rw [he, hre], r3, ?_⟩;rw [hs1];exact (((KeepsFrom.mono ka (by omega)).trans kb).trans (KeepsFrom.mono k3 (by omega))).trans (gS _ r3.l (by omega))
   refine wpIn_mono (hbody _ pre x a' _ (by omega) ⟨_, rb.l⟩ (hI.putObj _ hia (by omega) ra.l rfl) ((hAx x a').putObj (s := ()) _ hax (by omega) ra.l rfl) hlen) ?_;rintro e a3 W3 hp
   have out : ∀ c : Code, KeepsFrom B (Wa.putObj (B + 1) (.loop (re .busy none))) W3 /\ Ix c (pre ++ [x]) W3 -> ∃ v w', (Instr.endRound (B + 1) (some c)).run P W3 = .ok v w' /\ (KeepsFrom W1.heap.size Wr w' /\
    ((Ending.returned v = .returned (.bool true) /\ (I (pre ++ [x]) w' /\ gX B (re .ready none) w') /\ Kp Wr w') ∨ (Ending.returned v = .returned (.bool false) /\ ∃ c, Ix c (pre ++ [x]) w' /\ gX B (re .done (some c)) w'))) := fun c hp => by
    obtain ⟨he, r3, kf⟩ := fin (some c) W3 hp.1;exact ⟨_, _, he, kf, .inr ⟨rfl, c, (hIx c).putObj _ hp.2 (by omega) r3.l rfl, r3.put _⟩⟩
   cases e with
   | normal =>
    obtain ⟨k3, kx3, i3⟩ := hp;obtain ⟨he, r3, kf⟩ := fin none W3 k3;exact ⟨_, _, he, kf, .inl ⟨rfl, ⟨hI.putObj _ i3 (by omega) r3.l rfl, r3.put _⟩, hKt (hKt (hKt kx kxb) kx3) (hKb _ r3.l rfl)⟩⟩
   | ret => exact out _ hp
   | exit id => exact out _ hp
   | goto t => exact out _ hp
   | panic ch => exact hp.elim
   | outgrown => exact hp.elim
 · rintro e W2 ⟨⟨v, rfl⟩, ⟨xs, hS, hi, hr⟩ | ⟨pre, hSp, c, hi, hr⟩⟩
   · exact ⟨_, _, run_endLoop (P := P) hr.l (by rw [hst];simp), by simpa only [hre, lca, lna] using hdone B xs _ (nlq _) hS (hI.putObj _ hi (by omega) hr.l rfl) (hr.put _).d⟩
   · exact ⟨_, _, run_endLoop (P := P) hr.l (by rw [hst];simp), by simpa only [hre, lca, lna] using hstop B c pre _ (nlq _) hSp ((hIx c).putObj _ hi (by omega) hr.l rfl) (hr.put _).d⟩
end
end Go.Proofs.YtiojdbffjdoniaaGreatDoor
