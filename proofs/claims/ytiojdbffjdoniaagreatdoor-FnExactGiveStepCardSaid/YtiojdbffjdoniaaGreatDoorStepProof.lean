import Derived.Test.YtiojdbffjdoniaaGreatDoorCd
import Derived.Test.YtiojdbffjdoniaaGreatDoorOpenE
import Derived.Test.YtiojdbffjdoniaaGreatDoorHg
namespace Go.Proofs.YtiojdbffjdoniaaGreatDoor
set_option maxRecDepth 100000
open Go.ChangeShapes Go.WideShapes Go.ChangeAt Go.RowKit
theorem CH (os : Os) (started : os.Started) (H : Type) (enc : TypeId × Value -> H) :
 ReturnsInHanded {} Tryz.checked os 4 .any (fun w args => (Rows.fnExactGiveStepSpec.pre enc Tryz.prog Tryz.f4 [] false w args /\ laidMetH Tryz.prog [("errors.errorType", Rows.laid_errors_errorType)] w) /\ sizedMet enc Tryz.prog Tryz.f4 (OpenSpec.ofChange Rows.fnExactGiveStepSpec) false w args)
  (Rows.fnExactGiveStepSpec.post enc Tryz.prog Tryz.f4 false true false false) := by
 refine returnsInHanded_of_change_and (C := Tryz.checked) (X := fun w _ => laidMetH Tryz.prog [("errors.errorType", Rows.laid_errors_errorType)] w) (fun _ _ _ hh h => h.of_heap hh) Tryz.own started (by kernel_rfl) Tryz.func4
  (ChangeSpec.witness_at (enc := enc) (C := Tryz.checked) (os := os) (X := fun w _ => laidMetH Tryz.prog [("errors.errorType", Rows.laid_errors_errorType)] w) false ({ World.holding Tryz.prog os ⟨#[], #[], []⟩ with heap := (World.holding Tryz.prog os ⟨#[], #[], []⟩).heap.modify 0 fun
   | .cells _ t frozen => .cells #[.iface 283 (.agg #[.pointer (some ⟨1, 115, none⟩)])] t frozen
   | o => o } : World) #[.agg #[.int .i64 0, .slice none 0 0, .slice none 0 0], .agg #[.int .i64 0, .string ByteArray.empty, .bool false, .string ByteArray.empty, .int .i64 0, .int .i64 0, .int .i64 0, .int .i64 0, .int .i64 0, .slice none 0 0, .slice none 0 0, .slice none 0 0]] 8 rfl (by kernel_rfl) (by kernel_rfl) (by kernel_rfl) (by kernel_rfl) (by kernel_rfl) (vT os _)) ?_
 intro W base args ds gs before hval0 hW _ _ hLd _; have hval : ∀ (j : Nat) t v, Tryz.f4.params[j]? = some t -> args[j]? = some v -> Value.okWide Tryz.prog W .any base t v := hval0; have hW' := hW; obtain ⟨p, q, hA0, hV, rfl, hfz, hnd⟩ := hW; have hA : DataW.TrodAll enc Tryz.prog W 0 (fun _ => true) true Tryz.f4.params.toList args.toList ds p := hA0; rw [Tryz.params4] at hA hval; obtain ⟨v0, vs0, d0, ds0, p0, q0, hargs, rfl, rfl, h0, r0⟩ := trodAll_cons hA; obtain ⟨v1, vs1, d1, ds1, p1, q1, rfl, rfl, rfl, h1, r1⟩ := trodAll_cons r0; obtain ⟨rfl, rfl, rfl⟩ := trodAll_nil r1; obtain rfl : args = #[v0, v1] := by cases args; simp_all
 obtain ⟨rfl, rfl⟩ := trodVars_none hV; obtain ⟨cs, rfl, hsz⟩ := okWide_struct Tryz.underlying49 (hval 0 49 v0 rfl rfl); rw [Tryz.cells49] at hsz; obtain ⟨ct1, rfl, hsy1⟩ := okWide_struct Tryz.underlying55 (hval 1 55 v1 rfl rfl); rw [Tryz.cells55] at hsy1; have hLaid := OT hLd; have k0 := h0; have lt0 : ∀ x ∈ p0, x.block < W.heap.size := by obtain ⟨m, hm⟩ := k0; exact DataW.trod_lt m _ _ _ hm
 have k1 := h1; have lt1 : ∀ x ∈ p1, x.block < W.heap.size := by obtain ⟨m, hm⟩ := k1; exact DataW.trod_lt m _ _ _ hm
 obtain ⟨b, e0, bf, nf', sf, bh, nh, sh⟩ : ∃ b : Bk, cs.toList = [.int .i64 b.now, .slice b.fa b.fl.length b.fc, .slice b.ha b.hl.length b.hc] /\ Xs 3 Fx.cells W b.fa b.fl /\ b.fl.length <= maxLen /\ (∀ f ∈ b.fl, f.n.size <= maxLen) /\ Xs 3 Hx.cells W b.ha b.hl /\ b.hl.length <= maxLen /\ ∀ h ∈ b.hl, h.In W /\ h.Wide := by
  obtain ⟨fuel, hf⟩ := h0; exact J1 (by simpa using hsz) (by simpa [Value.cells] using hf)
 obtain rfl : cs = #[.int .i64 b.now, .slice b.fa b.fl.length b.fc, .slice b.ha b.hl.length b.hc] := by cases cs; simp_all
 obtain ⟨v, e1, hxi, hxw, hvn, hvt, hvl⟩ : ∃ f : Ev, ct1.toList = [.int .i64 f.k, .string f.n, .bool f.t, .string f.x.n, .int .i64 f.x.q, .int .i64 f.x.s, .int .i64 f.x.f, .int .i64 f.x.b, .int .i64 f.x.l, .slice f.x.wa f.x.wl.length f.x.wc, .slice f.x.la f.x.ll.length f.x.lc, .slice f.ta f.tl.length f.tc] /\ f.x.In W /\ f.x.Wide /\ f.n.size <= maxLen /\ iL W f.ta f.tl /\ f.tl.length <= maxLen := by
  obtain ⟨fuel, hf⟩ := h1; exact F3 (by simpa using hsy1) (by simpa [Value.cells] using hf)
 obtain rfl : ct1 = #[.int .i64 v.k, .string v.n, .bool v.t, .string v.x.n, .int .i64 v.x.q, .int .i64 v.x.s, .int .i64 v.x.f, .int .i64 v.x.b, .int .i64 v.x.l, .slice v.x.wa v.x.wl.length v.x.wc, .slice v.x.la v.x.ll.length v.x.lc, .slice v.ta v.tl.length v.tc] := by cases ct1; simp_all
 unfold maxLen at nf' sf nh hvn hvl; clear hA0 hval0; refine (CW b v W hLaid bf (by omega) (fun f hf => by have := sf f hf; omega) bh (by omega) (fun h hm => (sh h hm).2) (fun h hm => (sh h hm).1) hxi hxw (by omega) hvt (by omega)).mono fun e W' ⟨he, bel⟩ => ?_; subst he; exact ⟨_, rfl, _, _, _, [], _, [], hW', trodAll_mk1 (shut_bool Tryz.underlying4 _), (trodAll_cons_mk (Below.trod Tryz.laidOut (by kernel_rfl) (of_decide_eq_true (by kernel_rfl)) k0 bel lt0) (trodAll_cons_mk (Below.trod Tryz.laidOut (by kernel_rfl) (of_decide_eq_true (by kernel_rfl)) k1 bel lt1) trodAll_mk0)), rfl, bel.frame _, fun h => by cases h⟩
theorem GE : Rows.FnExactGiveStepSaid :=
 OpenClaim.holds_of_wide 4 Tryz.f4 rfl rfl rfl rfl rfl rfl rfl ⟨rfl, rfl, rfl, rfl, rfl⟩ rfl rfl rfl rfl rfl (by kernel_rfl) Tryz.func4 (by kernel_rfl)
  (of_decide_eq_true (by kernel_rfl)) (by unfold Func.isWrapper; first | (rw [if_pos (by decide +kernel)]; kernel_rfl) | (rw [if_neg (by decide +kernel)]; exact ⟨rfl, rfl⟩))
  (fun os started H enc _ => CH os started H enc)
theorem step_card : Rows.FnExactGiveStepCardSaid :=
 Claim7.holds_tied_plain_at .later [] [.handle] true (true, "7d0bfffb0c5c78bef9bf61c728080c2d2c8bd733177353e16298e1b6ee533c25") true
  GE (fun _ h => by cases h) (by kernel_rfl) (fun _ h => by cases h) fnExactGiveStep_row_tie rfl ⟨rfl, rfl⟩ (by kernel_rfl) rfl
  (fun f fn hf hfn => by
   obtain rfl : f = 4 := Option.some.inj ((show Tryz.prog.funcNamed "loop.example/lapgive/laws.FnExactGiveStep" = some 4 by kernel_rfl).symm.trans hf) |>.symm; obtain rfl : fn = Tryz.f4 := (Option.some.inj (Tryz.func4.symm.trans hfn)).symm
   exact ⟨by kernel_rfl, fun j t ht => by
    rw [Tryz.params4] at ht
    rcases j with _ | _ | j
    · obtain rfl : t = 49 := by simpa using ht.symm
      exact (show Tryz.prog.wantsStandIn 49 = false by kernel_rfl)
    · obtain rfl : t = 55 := by simpa using ht.symm
      exact (show Tryz.prog.wantsStandIn 55 = false by kernel_rfl)
    · simp at ht⟩)
  (by kernel_rfl)
end Go.Proofs.YtiojdbffjdoniaaGreatDoor
