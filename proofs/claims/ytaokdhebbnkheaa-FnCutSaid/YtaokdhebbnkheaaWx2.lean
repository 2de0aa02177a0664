import Derived.Test.YtaokdhebbnkheaaWu
import Derived.Test.YtaokdhebbnkheaaAny
namespace Go.Proofs.Ytaokdhebbnkheaa
open Go.RowKit Go.Shelf
attribute [local go_sem] Oper.semAt_some
theorem small_of {x : Wx} {late : Int} (h : smallB x late = true) : x.Small ∧ 0 ≤ late ∧ late ≤ 300 := by
  simp only [smallB, inB, Bool.and_eq_true, decide_eq_true_eq] at h
  exact ⟨⟨by omega, by omega, by omega, by omega, by omega, by omega, by omega, by omega⟩, by omega, by omega⟩
end Go.Proofs.Ytaokdhebbnkheaa
