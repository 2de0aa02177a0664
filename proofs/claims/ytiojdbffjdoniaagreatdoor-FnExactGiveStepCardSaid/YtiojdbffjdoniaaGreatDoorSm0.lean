import Derived.Test.YtiojdbffjdoniaaGreatDoorWi
namespace Go.Proofs.YtiojdbffjdoniaaGreatDoor
open Go.RowKit
theorem aK {w : World} {z j : Nat} {cs : Array Value} {t : TypeId} {v : Value} (h : w.heap[z]? = some (.cells cs t)) (hj : cs[j]? = some v) : w.cell? ⟨z, j, none⟩ = some v := by simp [World.cell?, h, hj]
theorem aF.weak {w : World} {base base' : Nat} {v : Value} {l : List Bx} (h : aF w base v l) (hb : base' <= base) : aF w base' v l := by
 rcases h with h | ⟨g, cap, h1, h2, h3, h4⟩
 · exact .inl h
 · exact .inr ⟨g, cap, h1, by omega, h3, h4⟩
abbrev Bk.obj (b : Bk) : Obj := .cells #[.int .i64 b.now, .slice b.fa b.fl.length b.fc, .slice b.ha b.hl.length b.hc] 29
structure Ev where
 k : Int
 n : ByteArray
 t : Bool
 x : Wx
 ta : Option Addr
 tl : List Bx
 tc : Nat
abbrev Ev.val (v : Ev) : Value := .agg #[.int .i64 v.k, .string v.n, .bool v.t, .string v.x.n, .int .i64 v.x.q, .int .i64 v.x.s, .int .i64 v.x.f, .int .i64 v.x.b, .int .i64 v.x.l, .slice v.x.wa v.x.wl.length v.x.wc, .slice v.x.la v.x.ll.length v.x.lc, .slice v.ta v.tl.length v.tc]
abbrev Ev.obj (v : Ev) : Obj := .cells #[.int .i64 v.k, .string v.n, .bool v.t, .string v.x.n, .int .i64 v.x.q, .int .i64 v.x.s, .int .i64 v.x.f, .int .i64 v.x.b, .int .i64 v.x.l, .slice v.x.wa v.x.wl.length v.x.wc, .slice v.x.la v.x.ll.length v.x.lc, .slice v.ta v.tl.length v.tc] 36
end Go.Proofs.YtiojdbffjdoniaaGreatDoor
