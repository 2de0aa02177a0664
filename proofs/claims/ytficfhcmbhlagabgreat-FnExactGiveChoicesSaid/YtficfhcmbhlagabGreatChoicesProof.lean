import Derived.Test.YtficfhcmbhlagabGreatRows
import Derived.Test.YtficfhcmbhlagabGreatCh18
import Derived.Test.YtficfhcmbhlagabGreatOpenB
import Derived.ProofKit
import Derived.OpenShut
import Derived.ShutString
import Derived.ChangeOld
namespace Go.Proofs.YtficfhcmbhlagabGreat
open Go.ChangeShapes Go.WideShapes Go.ChangeAt Go.RowKit
theorem Tryz.own : ownKnob Tryz.prog.godebug = none := by kernel_rfl
theorem Tryz.laidOut : laidOutB Tryz.prog = true := by kernel_rfl
set_option maxRecDepth 100000 in
theorem choices_lifted (os : Os) (started : os.Started) (H : Type) (enc : TypeId × Value → H) :
    ReturnsInHanded {} Tryz.checked os 5 .any (Rows.fnExactGiveChoicesSpec.pre6 enc Tryz.prog Tryz.f5 Rows.fnExactGiveChoicesRow.domain false) (Rows.fnExactGiveChoicesSpec.post enc Tryz.prog Tryz.f5 false true false false) := by
  refine returnsInHanded_of_change (C := Tryz.checked) Tryz.own started (by kernel_rfl) Tryz.func5
    (ChangeSpec.witness6 (enc := enc) (C := Tryz.checked) false ⟨#[], #[.agg #[.int .i64 0, .slice none 0 0, .slice none 0 0], .agg #[.string ByteArray.empty, .int .i64 0, .int .i64 0, .int .i64 0, .int .i64 0, .int .i64 0, .slice none 0 0, .slice none 0 0]], []⟩ 8 (by kernel_rfl) (by kernel_rfl) (by kernel_rfl) (by kernel_rfl)) ?_
  intro W base args ds gs before hval0 hW hcnd _
  have hval : ∀ (j : Nat) t v, Tryz.f5.params[j]? = some t → args[j]? = some v → Value.okWide Tryz.prog W .any base t v := hval0
  have hW' := hW
  obtain ⟨p, q, hA0, hV, rfl, hfz, hnd⟩ := hW
  have hA : DataW.TrodAll enc Tryz.prog W 0 (fun _ => true) true Tryz.f5.params.toList args.toList ds p := hA0
  rw [Tryz.params5] at hA hval
  obtain ⟨v0, vs0, d0, ds0, p0, q0, hargs, rfl, rfl, h0, r0⟩ := trodAll_cons hA
  obtain ⟨v1, vs1, d1, ds1, p1, q1, rfl, rfl, rfl, h1, r1⟩ := trodAll_cons r0
  obtain ⟨rfl, rfl, rfl⟩ := trodAll_nil r1
  obtain rfl : args = #[v0, v1] := by cases args; simp_all
  obtain ⟨rfl, rfl⟩ := trodVars_none hV
  obtain ⟨cs, rfl, hsz⟩ := okWide_struct Tryz.underlying25 (hval 0 25 v0 rfl rfl)
  rw [Tryz.cells25] at hsz
  obtain ⟨ct, rfl, hsy⟩ := okWide_struct Tryz.underlying50 (hval 1 50 v1 rfl rfl)
  rw [Tryz.cells50] at hsy
  have k0 := h0
  have k1 := h1
  have lt0 : ∀ x ∈ p0, x.block < W.heap.size := by obtain ⟨m, hm⟩ := k0; exact DataW.trod_lt m _ _ _ hm
  have lt1 : ∀ x ∈ p1, x.block < W.heap.size := by obtain ⟨m, hm⟩ := k1; exact DataW.trod_lt m _ _ _ hm
  obtain ⟨b, e0, bf, nf', sf, bh, nh, sh⟩ : ∃ b : Bk, cs.toList = [.int .i64 b.now, .slice b.fa b.fl.length b.fc, .slice b.ha b.hl.length b.hc] ∧ Xs 3 Fx.cells W b.fa b.fl ∧ b.fl.length ≤ maxLen ∧ (∀ f ∈ b.fl, f.n.size ≤ maxLen) ∧ Xs 3 Hx.cells W b.ha b.hl ∧ b.hl.length ≤ maxLen ∧ ∀ h ∈ b.hl, h.In W ∧ h.Wide := by
    obtain ⟨fuel, hf⟩ := h0
    exact open_book (by simpa using hsz) (by simpa [Value.cells] using hf)
  obtain ⟨x, e1, hxi, hxw⟩ : ∃ f : Wx, ct.toList = [.string f.n, .int .i64 f.q, .int .i64 f.s, .int .i64 f.f, .int .i64 f.b, .int .i64 f.l, .slice f.wa f.wl.length f.wc, .slice f.la f.ll.length f.lc] ∧ f.In W ∧ f.Wide := by
    obtain ⟨fuel, hf⟩ := h1
    exact open_wish (by simpa using hsy) (by simpa [Value.cells] using hf)
  obtain rfl : cs = #[.int .i64 b.now, .slice b.fa b.fl.length b.fc, .slice b.ha b.hl.length b.hc] := by cases cs; simp_all
  obtain rfl : ct = #[.string x.n, .int .i64 x.q, .int .i64 x.s, .int .i64 x.f, .int .i64 x.b, .int .i64 x.l, .slice x.wa x.wl.length x.wc, .slice x.la x.ll.length x.lc] := by cases ct; simp_all
  unfold maxLen at nf' sf nh
  clear hA0 hval0
  refine (lawChoices_any b x W bf (by omega) (fun f hf => by have := sf f hf; omega) bh (by omega) (fun h hm => (sh h hm).2) (fun h hm => (sh h hm).1) hxi hxw).mono fun e W' ⟨he, bel⟩ => ?_
  subst he
  exact ⟨_, rfl, _, _, _, [], _, [], hW', trodAll_mk1 (shut_bool Tryz.underlying4 _), (trodAll_cons_mk (Below.trod Tryz.laidOut (by kernel_rfl) (of_decide_eq_true (by kernel_rfl)) k0 bel lt0) (trodAll_cons_mk (Below.trod Tryz.laidOut (by kernel_rfl) (of_decide_eq_true (by kernel_rfl)) k1 bel lt1) trodAll_mk0)), rfl, bel.frame _, fun h => by cases h⟩
theorem choices_holds : Rows.FnExactGiveChoicesSaid :=
  OpenClaim.holds_of_wide 5 Tryz.f5 rfl rfl rfl rfl rfl rfl rfl ⟨rfl, rfl, rfl, rfl, rfl⟩ rfl rfl rfl rfl rfl (by kernel_rfl) Tryz.func5 (by kernel_rfl)
    (of_decide_eq_true (by kernel_rfl)) (by unfold Func.isWrapper; first | (rw [if_pos (by decide +kernel)]; kernel_rfl) | (rw [if_neg (by decide +kernel)]; exact ⟨rfl, rfl⟩))
    (fun os started H enc _ => choices_lifted os started H enc)
end Go.Proofs.YtficfhcmbhlagabGreat
