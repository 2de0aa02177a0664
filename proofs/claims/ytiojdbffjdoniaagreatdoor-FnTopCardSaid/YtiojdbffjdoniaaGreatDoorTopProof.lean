import Derived.Deep.Slices
import Derived.Test.YtiojdbffjdoniaaGreatDoorCe
import Derived.Test.YtiojdbffjdoniaaGreatDoorTf
namespace Go.Proofs.YtiojdbffjdoniaaGreatDoor
set_option maxRecDepth 100000
open Go.ChangeShapes Go.WideShapes Go.ChangeAt Go.RowKit Go.Deep
theorem D9 : Tryz.prog.cellsOf 5 = 1 := by kernel_rfl
section
variable {H : Type} {enc : TypeId × Value -> H} {w : World} {base : Nat} {spare : Nat -> Bool} {held : Bool}
theorem ES {fuel : Nat} {a : Option Addr} {len cap : Nat} {x : DataW H × List MemPlace} (h : DataW.trod enc Tryz.prog w base spare held fuel 22 [.slice a len cap] = some x) :
 qF w a len /\ len <= cap /\ cap <= maxLen := by
 rcases open_slice1 Tryz.underlying22 D9 h with ⟨hcs, _⟩ | ⟨ad, len', cap', m, n, V, D, Pl, hcs, _, hl, hm, hmm, _, hel⟩
 · simp at hcs
   obtain ⟨rfl, rfl, rfl⟩ := hcs;exact ⟨.inl rfl, nlq _, nz _⟩
 · simp at hcs
   obtain ⟨rfl, rfl, rfl⟩ := hcs;have hlm : len <= m := by rw [hmm];split <;> omega
   refine ⟨?_, hl, hm⟩
   by_cases h0 : len = 0
   · exact .inl h0
   obtain ⟨bl, off, spot⟩ := ad
   have hs : spot = none := by
    have c0 := (hel 0 (by omega)).1;have hs := World.cell?_spot c0
    simpa [Addr.add] using hs
   subst hs;refine .inr ⟨bl, off, rfl, fun i hi => ?_⟩;obtain ⟨hc, ht⟩ := hel i (by omega);obtain ⟨z, hz, _, hwf⟩ := DataW.trod_int Tryz.underlying5 ht;simp at hz;rw [hz, Addr.add_lit] at hc
   have hb : 0 <= z /\ z <= 255 := by
    simp [Lit.wf, IntKind.min, IntKind.max, IntKind.bits, IntKind.signed] at hwf
    omega
   exact ⟨z, hb.1, hb.2, hc⟩
end
theorem D2 (os : Os) (started : os.Started) (H : Type) (enc : TypeId × Value -> H) :
 ReturnsInHanded {} Tryz.checked os 3 .any (fun w args => (Rows.fnTopSpec.pre enc Tryz.prog Tryz.f3 [] false w args /\ laidMetH Tryz.prog [("errors.errorType", Rows.laid_errors_errorType)] w) /\ sizedMet enc Tryz.prog Tryz.f3 (OpenSpec.ofChange Rows.fnTopSpec) false w args)
  (Rows.fnTopSpec.post enc Tryz.prog Tryz.f3 false true false false) := by
 refine returnsInHanded_of_change_and (C := Tryz.checked) (X := fun w _ => laidMetH Tryz.prog [("errors.errorType", Rows.laid_errors_errorType)] w) (fun _ _ _ hh h => h.of_heap hh) Tryz.own started (by kernel_rfl) Tryz.func3
  (ChangeSpec.witness_at (enc := enc) (C := Tryz.checked) (os := os) (X := fun w _ => laidMetH Tryz.prog [("errors.errorType", Rows.laid_errors_errorType)] w) false ({ World.holding Tryz.prog os ⟨#[], #[], []⟩ with heap := (World.holding Tryz.prog os ⟨#[], #[], []⟩).heap.modify 0 fun
   | .cells _ t frozen => .cells #[.iface 283 (.agg #[.pointer (some ⟨1, 115, none⟩)])] t frozen
   | o => o } : World) #[.slice none 0 0] 8 rfl (by kernel_rfl) (by kernel_rfl) (by kernel_rfl) (by kernel_rfl) (by kernel_rfl) (wD os _)) ?_
 intro W base args ds gs before hval0 hW _ _ hLd _;have hval : ∀ (j : Nat) t v, Tryz.f3.params[j]? = some t -> args[j]? = some v -> Value.okWide Tryz.prog W .any base t v := hval0;have hW' := hW;obtain ⟨p, q, hA0, hV, rfl, hfz, hnd⟩ := hW;have hA : DataW.TrodAll enc Tryz.prog W 0 (fun _ => true) true Tryz.f3.params.toList args.toList ds p := hA0;rw [Tryz.params3] at hA hval;obtain ⟨v0, vs0, d0, ds0, p0, q0, hargs, rfl, rfl, h0, r0⟩ := trodAll_cons hA;obtain ⟨rfl, rfl, rfl⟩ := trodAll_nil r0;obtain rfl : args = #[v0] := by cases args;simp_all
 obtain ⟨rfl, rfl⟩ := trodVars_none hV;obtain ⟨a0, len0, cap0, rfl⟩ := okWide_slice Tryz.underlying22 (hval 0 22 v0 rfl rfl);have hLaid := NL hLd;have k0 := h0;have lt0 : ∀ x ∈ p0, x.block < W.heap.size := by obtain ⟨m, hm⟩ := k0;exact DataW.trod_lt m _ _ _ hm
 obtain ⟨b0, l0, m0⟩ : qF W a0 len0 /\ len0 <= cap0 /\ cap0 <= maxLen := by
  obtain ⟨fuel, hf⟩ := h0;exact ES (by simpa [Value.cells] using hf)
 unfold maxLen at m0;clear hA0 hval0;refine (ED len0 cap0 a0 W hLaid b0 l0 m0).mono fun e W' ⟨he, bel⟩ => ?_;subst he;exact ⟨_, rfl, _, _, _, [], _, [], hW', trodAll_mk1 (shut_bool Tryz.underlying4 _), (trodAll_cons_mk (Below.trod Tryz.laidOut (by kernel_rfl) (of_decide_eq_true (by kernel_rfl)) k0 bel lt0) trodAll_mk0), rfl, bel.frame _, fun h => by cases h⟩
theorem JI : Rows.FnTopSaid :=
 OpenClaim.holds_of_wide 3 Tryz.f3 rfl rfl rfl rfl rfl rfl rfl ⟨rfl, rfl, rfl, rfl, rfl⟩ rfl rfl rfl rfl rfl (by kernel_rfl) Tryz.func3 (by kernel_rfl)
  (of_decide_eq_true (by kernel_rfl)) (by unfold Func.isWrapper;first | (rw [if_pos (by decide +kernel)];kernel_rfl) | (rw [if_neg (by decide +kernel)];exact ⟨rfl, rfl⟩))
  (fun os started H enc _ => D2 os started H enc)
theorem top_card : Rows.FnTopCardSaid :=
 Claim7.holds_tied_plain_at .later [] [.handle] true (true, "7d0bfffb0c5c78bef9bf61c728080c2d2c8bd733177353e16298e1b6ee533c25") true
  JI (fun _ h => by cases h) (by kernel_rfl) (fun _ h => by cases h) fnTop_row_tie rfl ⟨rfl, rfl⟩ (by kernel_rfl) rfl
  (fun f fn hf hfn => by
   obtain rfl : f = 3 := Option.some.inj ((show Tryz.prog.funcNamed "loop.example/lapgive/laws.FnTop" = some 3 by kernel_rfl).symm.trans hf) |>.symm;obtain rfl : fn = Tryz.f3 := (Option.some.inj (Tryz.func3.symm.trans hfn)).symm
   exact ⟨by kernel_rfl, fun j t ht => by
    rw [Tryz.params3] at ht
    rcases j with _ | j
    · obtain rfl : t = 22 := by simpa using ht.symm
      exact (show Tryz.prog.wantsStandIn 22 = false by kernel_rfl)
    · simp at ht⟩)
  (by kernel_rfl)
end Go.Proofs.YtiojdbffjdoniaaGreatDoor
