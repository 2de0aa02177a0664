import Derived.Test.YtficfhcmbhlagabPlain
import Derived.Test.YtficfhcmbhlagabBook
namespace Go.Proofs.Ytficfhcmbhlagab
open Go.RowKit
theorem objc {w : World} {z j : Nat} {cs : Array Value} {t : TypeId} {v : Value} (h : w.heap[z]? = some (.cells cs t)) (hj : cs[j]? = some v) : w.cell? ⟨z, j, none⟩ = some v := by simp [World.cell?, h, hj]
theorem OwnBx.weak {w : World} {base base' : Nat} {v : Value} {l : List Bx} (h : OwnBx w base v l) (hb : base' ≤ base) : OwnBx w base' v l := by
  rcases h with h | ⟨g, cap, h1, h2, h3, h4⟩
  · exact .inl h
  · exact .inr ⟨g, cap, h1, by omega, h3, h4⟩
abbrev Bk.obj (b : Bk) : Obj := .cells #[.int .i64 b.now, .slice b.fa b.fl.length b.fc, .slice b.ha b.hl.length b.hc] 33
end Go.Proofs.Ytficfhcmbhlagab
