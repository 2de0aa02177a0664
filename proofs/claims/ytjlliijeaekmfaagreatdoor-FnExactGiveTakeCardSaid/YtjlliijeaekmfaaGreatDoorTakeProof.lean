import Derived.Test.YtjlliijeaekmfaaGreatDoorCd
import Derived.Test.YtjlliijeaekmfaaGreatDoorOpenW
import Derived.Test.YtjlliijeaekmfaaGreatDoorGi
namespace Go.Proofs.YtjlliijeaekmfaaGreatDoor
set_option maxRecDepth 100000
open Go.ChangeShapes Go.WideShapes Go.ChangeAt Go.RowKit
theorem take_lifted (os : Os) (started : os.Started) (H : Type) (enc : TypeId × Value -> H) :
 ReturnsInHanded {} Tryz.checked os 3 .any (fun w args => (Rows.fnExactGiveTakeSpec.pre enc Tryz.prog Tryz.f3 [] false w args /\ laidMetH Tryz.prog [("errors.errorType", Rows.laid_errors_errorType)] w) /\ sizedMet enc Tryz.prog Tryz.f3 (OpenSpec.ofChange Rows.fnExactGiveTakeSpec) false w args)
  (Rows.fnExactGiveTakeSpec.post enc Tryz.prog Tryz.f3 false true false false) := by
 refine returnsInHanded_of_change_and (C := Tryz.checked) (X := fun w _ => laidMetH Tryz.prog [("errors.errorType", Rows.laid_errors_errorType)] w) (fun _ _ _ hh h => h.of_heap hh) Tryz.own started (by kernel_rfl) Tryz.func3
  (ChangeSpec.witness_at (enc := enc) (C := Tryz.checked) (os := os) (X := fun w _ => laidMetH Tryz.prog [("errors.errorType", Rows.laid_errors_errorType)] w) false ({ World.holding Tryz.prog os ⟨#[], #[], []⟩ with heap := (World.holding Tryz.prog os ⟨#[], #[], []⟩).heap.modify 0 fun
   | .cells _ t frozen => .cells #[.iface 272 (.agg #[.pointer (some ⟨1, 95, none⟩)])] t frozen
   | o => o } : World) #[.agg #[.int .i64 0, .slice none 0 0, .slice none 0 0], .agg #[.string ByteArray.empty, .int .i64 0, .int .i64 0, .int .i64 0, .int .i64 0, .int .i64 0, .slice none 0 0, .slice none 0 0]] 8 rfl (by kernel_rfl) (by kernel_rfl) (by kernel_rfl) (by kernel_rfl) (by kernel_rfl) (laidWorld_met os _)) ?_
 intro W base args ds gs before hval0 hW _ _ hLd _; have hval : ∀ (j : Nat) t v, Tryz.f3.params[j]? = some t -> args[j]? = some v -> Value.okWide Tryz.prog W .any base t v := hval0; have hW' := hW; obtain ⟨p, q, hA0, hV, rfl, hfz, hnd⟩ := hW; have hA : DataW.TrodAll enc Tryz.prog W 0 (fun _ => true) true Tryz.f3.params.toList args.toList ds p := hA0; rw [Tryz.params3] at hA hval; obtain ⟨v0, vs0, d0, ds0, p0, q0, hargs, rfl, rfl, h0, r0⟩ := trodAll_cons hA; obtain ⟨v1, vs1, d1, ds1, p1, q1, rfl, rfl, rfl, h1, r1⟩ := trodAll_cons r0; obtain ⟨rfl, rfl, rfl⟩ := trodAll_nil r1; obtain rfl : args = #[v0, v1] := by cases args; simp_all
 obtain ⟨rfl, rfl⟩ := trodVars_none hV; obtain ⟨cs, rfl, hsz⟩ := okWide_struct Tryz.underlying25 (hval 0 25 v0 rfl rfl); rw [Tryz.cells25] at hsz; obtain ⟨ct1, rfl, hsy1⟩ := okWide_struct Tryz.underlying29 (hval 1 29 v1 rfl rfl); rw [Tryz.cells29] at hsy1; have hLaid := laid_of hLd; have k0 := h0; have lt0 : ∀ x ∈ p0, x.block < W.heap.size := by obtain ⟨m, hm⟩ := k0; exact DataW.trod_lt m _ _ _ hm
 have k1 := h1; have lt1 : ∀ x ∈ p1, x.block < W.heap.size := by obtain ⟨m, hm⟩ := k1; exact DataW.trod_lt m _ _ _ hm
 obtain ⟨b, e0, bf, nf', sf, bh, nh, sh⟩ : ∃ b : Bk, cs.toList = [.int .i64 b.now, .slice b.fa b.fl.length b.fc, .slice b.ha b.hl.length b.hc] /\ Xs 3 Fx.cells W b.fa b.fl /\ b.fl.length <= maxLen /\ (∀ f ∈ b.fl, f.n.size <= maxLen) /\ Xs 3 Hx.cells W b.ha b.hl /\ b.hl.length <= maxLen /\ ∀ h ∈ b.hl, h.In W /\ h.Wide := by
  obtain ⟨fuel, hf⟩ := h0; exact open_book (by simpa using hsz) (by simpa [Value.cells] using hf)
 obtain rfl : cs = #[.int .i64 b.now, .slice b.fa b.fl.length b.fc, .slice b.ha b.hl.length b.hc] := by cases cs; simp_all
 obtain ⟨x, e1, hxi, hxw⟩ : ∃ f : Wx, ct1.toList = [.string f.n, .int .i64 f.q, .int .i64 f.s, .int .i64 f.f, .int .i64 f.b, .int .i64 f.l, .slice f.wa f.wl.length f.wc, .slice f.la f.ll.length f.lc] /\ f.In W /\ f.Wide := by
  obtain ⟨fuel, hf⟩ := h1; exact open_wish (by simpa using hsy1) (by simpa [Value.cells] using hf)
 obtain rfl : ct1 = #[.string x.n, .int .i64 x.q, .int .i64 x.s, .int .i64 x.f, .int .i64 x.b, .int .i64 x.l, .slice x.wa x.wl.length x.wc, .slice x.la x.ll.length x.lc] := by cases ct1; simp_all
 unfold maxLen at nf' sf nh; clear hA0 hval0; refine (lawTake_any b x W hLaid bf (by omega) (fun f hf => by have := sf f hf; omega) bh (by omega) (fun h hm => (sh h hm).2) (fun h hm => (sh h hm).1) hxi hxw).mono fun e W' ⟨he, bel⟩ => ?_; subst he; exact ⟨_, rfl, _, _, _, [], _, [], hW', trodAll_mk1 (shut_bool Tryz.underlying4 _), (trodAll_cons_mk (Below.trod Tryz.laidOut (by kernel_rfl) (of_decide_eq_true (by kernel_rfl)) k0 bel lt0) (trodAll_cons_mk (Below.trod Tryz.laidOut (by kernel_rfl) (of_decide_eq_true (by kernel_rfl)) k1 bel lt1) trodAll_mk0)), rfl, bel.frame _, fun h => by cases h⟩
theorem take_holds : Rows.FnExactGiveTakeSaid :=
 OpenClaim.holds_of_wide 3 Tryz.f3 rfl rfl rfl rfl rfl rfl rfl ⟨rfl, rfl, rfl, rfl, rfl⟩ rfl rfl rfl rfl rfl (by kernel_rfl) Tryz.func3 (by kernel_rfl)
  (of_decide_eq_true (by kernel_rfl)) (by unfold Func.isWrapper; first | (rw [if_pos (by decide +kernel)]; kernel_rfl) | (rw [if_neg (by decide +kernel)]; exact ⟨rfl, rfl⟩))
  (fun os started H enc _ => take_lifted os started H enc)
theorem take_card : Rows.FnExactGiveTakeCardSaid :=
 Claim7.holds_tied_plain_at .later [] [.handle] true (true, "081325eef47229f229dfc7ca89896d38939e2367b6cda975eb4db658182fc478") true
  take_holds (fun _ h => by cases h) (by kernel_rfl) (fun _ h => by cases h) fnExactGiveTake_row_tie rfl ⟨rfl, rfl⟩ (by kernel_rfl) rfl
  (fun f fn hf hfn => by
   obtain rfl : f = 3 := Option.some.inj ((show Tryz.prog.funcNamed "loop.example/lapgive/laws.FnExactGiveTake" = some 3 by kernel_rfl).symm.trans hf) |>.symm; obtain rfl : fn = Tryz.f3 := (Option.some.inj (Tryz.func3.symm.trans hfn)).symm
   exact ⟨by kernel_rfl, fun j t ht => by
    rw [Tryz.params3] at ht
    rcases j with _ | _ | j
    · obtain rfl : t = 25 := by simpa using ht.symm
      exact (show Tryz.prog.wantsStandIn 25 = false by kernel_rfl)
    · obtain rfl : t = 29 := by simpa using ht.symm
      exact (show Tryz.prog.wantsStandIn 29 = false by kernel_rfl)
    · simp at ht⟩)
  (by kernel_rfl)
end Go.Proofs.YtjlliijeaekmfaaGreatDoor
