import Derived.RangeFuncBox
import Derived.Test.YtaokdhebbnkheaaWk
import Derived.Test.YtaokdhebbnkheaaWc
import Derived.Test.YtaokdhebbnkheaaAny2
import Derived.Test.YtaokdhebbnkheaaCopy
import Derived.Test.YtaokdhebbnkheaaPlain
import Derived.Test.YtaokdhebbnkheaaIter
namespace Go.Proofs.Ytaokdhebbnkheaa
open Go.RowKit
theorem tubeL_upto (x : Wx) (cs : List Cx) (lev late : Int) : tubeL x cs lev late = upto (boxOf x cs lev late) (min cs.length 40) := rfl
theorem boxOf_eq (x : Wx) (cs : List Cx) (lev late : Int) (k : Nat) (c : Cx) (hc : cget cs k = c) (a lv lo hi i o : Int) (hlv : lv = levL k cs.length lev) (ha : a = if k = 0 then lv else levL ((k : Int) - 1) cs.length lev) (hlo : lo = min a lv) (hhi : hi = max a lv) (hi2 : i = x.f + late + k * x.q) (ho : o = x.b + late + ((k : Int) + 1) * x.s - 1) : boxOf x cs lev late k = ⟨c.x, c.y, lo, hi, i, o⟩ := by
  unfold boxOf
  rw [hc, hlo, hhi, hi2, ho, ha, hlv]
theorem own_below {w w' : World} {base : Nat} {e : TypeId} {size : Nat} {v : Value} {n : Nat} {xs : List Value} (h : w.ownsRow base e size v n xs) (hb : Below w.heap.size w w') : w'.ownsRow base e size v n xs := by
  obtain ⟨h0, ⟨hv, hn⟩ | ⟨g, cap, cur, hv, hbb, hg, hr⟩⟩ := h
  · exact ⟨h0, .inl ⟨hv, hn⟩⟩
  · exact ⟨h0, .inr ⟨g, cap, cur, hv, hbb, (hb.block _ (Array.getElem?_eq_some_iff.1 hg).1).trans hg, hr⟩⟩
/-- No reckoning with the wish wraps round. -/
structure Wx.Small (x : Wx) : Prop where
  q1 : 1 ≤ x.q
  q2 : x.q ≤ 50
  s1 : 1 ≤ x.s
  s2 : x.s ≤ 50
  f1 : 0 ≤ x.f
  f2 : x.f ≤ 10000
  b1 : 0 ≤ x.b
  b2 : x.b ≤ 10000
end Go.Proofs.Ytaokdhebbnkheaa
