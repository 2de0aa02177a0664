import Derived.Test.YtficfhcmbhlagabGreatWf
import Derived.Test.YtficfhcmbhlagabGreatWq
import Derived.Test.YtficfhcmbhlagabGreatWs
namespace Go.Proofs.YtficfhcmbhlagabGreat
open Go.RowKit
set_option maxRecDepth 100000 in
set_option maxHeartbeats 2000000 in
theorem eqWish_like (x : Wx) (wa : Option Addr) (m : List Yx) (wc : Nat) (la : Option Addr) (lc : Nat) (w : World) (hi : x.In w) (hf : x.Fit) (hws : Xs 1 Yx.cells w wa m) (hmi : ∀ y ∈ m, y.In w) (hls : Xs 1 icells w la x.ll) (hlk : YLikes x.wl m) :
    Calls Tryz.prog 27 #[x.val, .agg #[.string x.n, .int .i64 x.q, .int .i64 x.s, .int .i64 x.f, .int .i64 x.b, .int .i64 x.l, .slice wa m.length wc, .slice la x.ll.length lc]] w fun e w' => e = .returned (.bool true) ∧ Below w.heap.size w w' := by
  have hB0 : Below w.heap.size w ((w.alloc x.obj).alloc (.cells #[.string x.n, .int .i64 x.q, .int .i64 x.s, .int .i64 x.f, .int .i64 x.b, .int .i64 x.l, .slice wa m.length wc, .slice la x.ll.length lc] 56)) := balloc (balloc (Below.refl _ _) _) _
  have hO1 := (Below.heap_alloc (w.alloc x.obj) (.cells #[.string x.n, .int .i64 x.q, .int .i64 x.s, .int .i64 x.f, .int .i64 x.b, .int .i64 x.l, .slice wa m.length wc, .slice la x.ll.length lc] 56) w.heap.size (by simp)).trans (World.alloc_heap_new w x.obj)
  have hO2 := World.alloc_heap_new (w.alloc x.obj) (.cells #[.string x.n, .int .i64 x.q, .int .i64 x.s, .int .i64 x.f, .int .i64 x.b, .int .i64 x.l, .slice wa m.length wc, .slice la x.ll.length lc] 56)
  rw [World.size_alloc] at hO2
  go_enter Tryz.func27, Tryz.ntmps27
  go_wp2_with fail
  refine (eqWayS_like x.wl m _ _ _ _ _ (hi.ws.later hB0) (hws.later hB0) hf.wn (fun y hy => ⟨(hi.yn y hy).later hB0, hf.yn y hy⟩) (fun y hy => (hmi y hy).later hB0) hlk).mono ?_
  rintro e w1 ⟨rfl, hb1⟩
  have A1 := (hb1.block _ (Array.getElem?_eq_some_iff.1 hO1).1).trans hO1
  have A2 := (hb1.block _ (Array.getElem?_eq_some_iff.1 hO2).1).trans hO2
  have hN := bstep hB0 hb1
  have k7 : w1.cell? ⟨w.heap.size, 7, none⟩ = some (.slice x.la x.ll.length x.lc) := objc A1 rfl
  have j7 : w1.cell? ⟨w.heap.size + 1, 7, none⟩ = some (.slice la x.ll.length lc) := objc A2 rfl
  clear hb1 hB0 hO1 hO2 A1 A2
  go_wp2_with fail
  refine (eqIntS_same x.ll _ _ _ _ _ (hi.ls.later hN) (hls.later hN) hf.ln).mono ?_
  rintro e w2 ⟨rfl, hb2⟩
  go_wp2
  go_ret
  exact ⟨rfl, bstep hN hb2⟩
theorem YLikes.symm {l m : List Yx} (h : YLikes l m) : YLikes m l := ⟨h.len.symm, fun k hk => (h.like k (by have := h.len; omega)).symm⟩
theorem YLikes.trans {l m n : List Yx} (h : YLikes l m) (g : YLikes m n) : YLikes l n := ⟨g.len.trans h.len, fun k hk => (g.like k (by have := h.len; omega)).trans (h.like k hk)⟩
set_option maxRecDepth 100000 in
theorem eqWish_copy {x x2 x3 : Wx} {z2 z3 : Nat} {w : World} (h : CopyW z2 w x x2) (g : CopyW z3 w x x3) (hf : x.Fit) :
    Calls Tryz.prog 27 #[x2.val, x3.val] w fun e w' => e = .returned (.bool true) ∧ Below w.heap.size w w' := by
  have hl := g.inn.ls
  have e := g.ll.trans h.ll.symm
  rw [e] at hl
  have := eqWish_like x2 x3.wa x3.wl x3.wc x3.la x3.lc w h.inn (h.fit hf) g.inn.ws g.inn.yn hl (h.likes.symm.trans g.likes)
  have ev : x3.val = .agg #[.string x2.n, .int .i64 x2.q, .int .i64 x2.s, .int .i64 x2.f, .int .i64 x2.b, .int .i64 x2.l, .slice x3.wa x3.wl.length x3.wc, .slice x3.la x2.ll.length x3.lc] := by
    show Value.agg _ = _
    rw [g.n, g.q, g.s, g.f, g.b, g.l, h.n, h.q, h.s, h.f, h.b, h.l, ← e]
  rw [ev]
  exact this
set_option maxRecDepth 100000 in
theorem specWish_copy {fl : List Fx} {af : Option Addr} {cf : Nat} {x x' : Wx} {z : Nat} {w : World} (h : CopyW z w x x') (hf : x.Fit) (hfl : Xs 3 Fx.cells w af fl) (hnf : fl.length ≤ 1048576) (hs : ∀ f ∈ fl, f.n.size ≤ 9223372036854775807) :
    Calls Tryz.prog 54 #[.slice af fl.length cf, x'.val] w fun e w' => e = .returned (.bool (wishB fl x)) ∧ Below w.heap.size w w' := by
  rw [← wish_like h fl]
  exact specWish_any fl x' af cf w hfl hnf hs h.inn (h.fit hf)
set_option maxRecDepth 100000 in
theorem implWish_copy {fl : List Fx} {af : Option Addr} {cf : Nat} {x x' : Wx} {z : Nat} {w : World} (h : CopyW z w x x') (hf : x.Fit) (hfl : Xs 3 Fx.cells w af fl) (hnf : fl.length ≤ 1048576) (hcap : fl.length ≤ cf) (hc2 : cf ≤ 1048576) (hs : ∀ f ∈ fl, f.n.size ≤ 9223372036854775807) :
    Calls Tryz.prog 95 #[.slice af fl.length cf, x'.val] w fun e w' => e = .returned (.bool (wishB fl x)) ∧ Below w.heap.size w w' := by
  rw [← wish_like h fl]
  exact implWish_any fl x' af cf w hfl hnf hcap (Nat.le_trans hc2 (by decide)) hs h.inn (h.fit hf)
end Go.Proofs.YtficfhcmbhlagabGreat
