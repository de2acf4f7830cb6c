/-
  The law FnExactMatLossless returns true at every argument, and leaves it as it was; the variable errors.errorType holds what the program's text lays there, and the card ties it to that text. No other conditions.
-/
import Derived.Test.YtnfbopaafciiiaaDoorCards
import Derived.Test.YtnfbopaafciiiaaDoorTie
import Derived.Test.YtnfbopaafciiiaaDoorLaidFrame
import Derived.Test.YtnfbopaafciiiaaDoorBMem
import Derived.Test.YtnfbopaafciiiaaDoorLists
import Derived.Test.YtnfbopaafciiiaaDoorLawMLossless
import Derived.Test.YtnfbopaafciiiaaDoorImplM4
import Derived.Test.YtnfbopaafciiiaaDoorSpecM3
import Derived.WalkKit
import Derived.ProofKit
import Derived.OpenShut
import Derived.ShutString
import Derived.ChangeOld
import Derived.Below
import Derived.SevenTiedAt
namespace Go.Proofs.YtnfbopaafciiiaaDoor.fnExactMatLossless
open Go.ChangeShapes Go.WideShapes Go.ChangeAt Go.RowKit
set_option linter.unusedVariables false

theorem walk (x0_0 x0_1 x0_2 x0_3 x0_4 x0_5 x0_6 x0_7 x0_8 x0_9 x0_10 x0_11 : Int) (w : World) (hx0_0 : i64B x0_0) (hx0_1 : i64B x0_1) (hx0_2 : i64B x0_2) (hx0_3 : i64B x0_3) (hx0_4 : i64B x0_4) (hx0_5 : i64B x0_5) (hx0_6 : i64B x0_6) (hx0_7 : i64B x0_7) (hx0_8 : i64B x0_8) (hx0_9 : i64B x0_9) (hx0_10 : i64B x0_10) (hx0_11 : i64B x0_11) (hl : Laid w) :
    Calls Tryd.prog 8 #[.agg #[.int .i64 x0_0, .int .i64 x0_1, .int .i64 x0_2, .int .i64 x0_3, .int .i64 x0_4, .int .i64 x0_5, .int .i64 x0_6, .int .i64 x0_7, .int .i64 x0_8, .int .i64 x0_9, .int .i64 x0_10, .int .i64 x0_11]] w fun e w' => e = .returned (.bool true) ∧ Below w.heap.size w w' :=
  exactMatLossless (losM ((x0_0, x0_1, x0_2), (x0_3, x0_4, x0_5), (x0_6, x0_7, x0_8), (x0_9, x0_10, x0_11))) x0_0 x0_1 x0_2 x0_3 x0_4 x0_5 x0_6 x0_7 x0_8 x0_9 x0_10 x0_11 (fun w => specLos_any _ _ _ _ _ _ _ _ _ _ _ _ w) w (fun W k => implLos_any _ _ _ _ _ _ _ _ _ _ _ _ hx0_0 hx0_1 hx0_2 hx0_3 hx0_4 hx0_5 hx0_6 hx0_7 hx0_8 hx0_9 hx0_10 hx0_11 W (hl.acc k))

set_option maxRecDepth 100000 in
theorem lifted (os : Os) (started : os.Started) (H : Type) (enc : TypeId × Value → H) :
    ReturnsInHanded {} Tryd.checked os 8 .any (fun w args => (Rows.fnExactMatLosslessSpec.pre enc Tryd.prog Tryd.f8 [] false w args ∧ laidMetH Tryd.prog listed w) ∧ sizedMet enc Tryd.prog Tryd.f8 (OpenSpec.ofChange Rows.fnExactMatLosslessSpec) false w args) (Rows.fnExactMatLosslessSpec.post enc Tryd.prog Tryd.f8 false true false false) := by
  refine returnsInHanded_of_change_and (C := Tryd.checked) (X := fun w _ => laidMetH Tryd.prog listed w) (fun _ _ _ hh h => h.of_heap hh) ownKnob_none started (by kernel_rfl) Tryd.func8
    (ChangeSpec.witness_at (enc := enc) (C := Tryd.checked) (os := os) (X := fun w _ => laidMetH Tryd.prog listed w) false (laidWorld os) #[.agg #[.int .i64 0, .int .i64 0, .int .i64 0, .int .i64 0, .int .i64 0, .int .i64 0, .int .i64 0, .int .i64 0, .int .i64 0, .int .i64 0, .int .i64 0, .int .i64 0]] 8 rfl (by kernel_rfl) (by kernel_rfl) (by kernel_rfl) (by kernel_rfl) (by kernel_rfl) (laidWorld_met os _)) ?_
  intro W base args ds gs before hval0 hW _ _ hL _
  have hval : ∀ (j : Nat) t v, Tryd.f8.params[j]? = some t → args[j]? = some v → Value.okWide Tryd.prog W .any base t v := hval0
  have hl := laid_of_met hL
  have hW' := hW
  obtain ⟨p, q, hA0, hV, rfl, hfz, hnd⟩ := hW
  have hA : DataW.TrodAll enc Tryd.prog W 0 (fun _ => true) true Tryd.f8.params.toList args.toList ds p := hA0
  rw [Tryd.params8] at hA hval
  obtain ⟨v0, vs0, d0, ds0, p0, q0, hargs, rfl, rfl, h0, r0⟩ := trodAll_cons hA
  obtain ⟨rfl, rfl, rfl⟩ := trodAll_nil r0
  obtain rfl : args = #[v0] := by cases args; simp_all
  obtain ⟨rfl, rfl⟩ := trodVars_none hV
  have lt0 : ∀ x ∈ p0, x.block < W.heap.size := by obtain ⟨m, hm⟩ := h0; exact DataW.trod_lt m _ _ _ hm
  obtain ⟨zs0, l0, rfl, b0⟩ := okWide_ints (n := 12) (e := 3) (.inl ⟨_, Tryd.underlying26⟩) Tryd.underlying3 (by kernel_rfl) (by kernel_rfl) (hval 0 26 v0 rfl rfl)
  obtain ⟨x0_0, x0_1, x0_2, x0_3, x0_4, x0_5, x0_6, x0_7, x0_8, x0_9, x0_10, x0_11, rfl⟩ := list12 l0
  have hx0_0 : i64B x0_0 := b0 x0_0 (by simp)
  have hx0_1 : i64B x0_1 := b0 x0_1 (by simp)
  have hx0_2 : i64B x0_2 := b0 x0_2 (by simp)
  have hx0_3 : i64B x0_3 := b0 x0_3 (by simp)
  have hx0_4 : i64B x0_4 := b0 x0_4 (by simp)
  have hx0_5 : i64B x0_5 := b0 x0_5 (by simp)
  have hx0_6 : i64B x0_6 := b0 x0_6 (by simp)
  have hx0_7 : i64B x0_7 := b0 x0_7 (by simp)
  have hx0_8 : i64B x0_8 := b0 x0_8 (by simp)
  have hx0_9 : i64B x0_9 := b0 x0_9 (by simp)
  have hx0_10 : i64B x0_10 := b0 x0_10 (by simp)
  have hx0_11 : i64B x0_11 := b0 x0_11 (by simp)
  clear hA0 hval0
  refine (walk x0_0 x0_1 x0_2 x0_3 x0_4 x0_5 x0_6 x0_7 x0_8 x0_9 x0_10 x0_11 W hx0_0 hx0_1 hx0_2 hx0_3 hx0_4 hx0_5 hx0_6 hx0_7 hx0_8 hx0_9 hx0_10 hx0_11 hl).mono fun e W' ⟨he, bel⟩ => ?_
  subst he
  exact ⟨_, rfl, _, _, _, [], _, [], hW', trodAll_mk1 (shut_bool Tryd.underlying4 _), (trodAll_cons_mk (Below.trod laid_out (by kernel_rfl) (of_decide_eq_true (by kernel_rfl)) h0 bel lt0) trodAll_mk0), rfl, bel.frame _, fun h => by cases h⟩

set_option maxHeartbeats 64000000 in
set_option maxRecDepth 1000000 in
theorem over : Rows.FnExactMatLosslessSaid :=
  OpenClaim.holds_of_wide 8 Tryd.f8 rfl rfl rfl rfl rfl rfl rfl ⟨rfl, rfl, rfl, rfl, rfl⟩ rfl rfl rfl rfl rfl (by as_aux_lemma => kernel_rfl) Tryd.func8 (by
      unfold joinedFacts
      repeat' (with_reducible refine bothB ?_ ?_)
      all_goals as_aux_lemma => kernel_rfl)
    (of_decide_eq_true (by as_aux_lemma => kernel_rfl)) (by unfold Func.isWrapper; first | (rw [if_pos (by decide +kernel)]; kernel_rfl) | (rw [if_neg (by decide +kernel)]; exact ⟨rfl, rfl⟩))
    (fun os started H enc _ => lifted os started H enc)

set_option maxHeartbeats 64000000 in
set_option maxRecDepth 1000000 in
theorem proved : Rows.FnExactMatLosslessCardSaid :=
  Claim7.holds_tied_plain_at .later [] [.handle] true (true, "d49746d5e77e79c28ab1aee1d022c15bcad305036f6980e47f44b367295b3b62") true
    over (fun _ h => by cases h) (by as_aux_lemma => kernel_rfl) (fun _ h => by cases h) fnExactMatLossless_row_tie rfl ⟨rfl, rfl⟩ (by as_aux_lemma => kernel_rfl) rfl
    (fun f fn hf hfn => by
      obtain rfl : f = 8 := Option.some.inj ((show Tryd.prog.funcNamed "loop.example/polarisedlight/laws.FnExactMatLossless" = some 8 by as_aux_lemma => kernel_rfl).symm.trans hf) |>.symm
      obtain rfl : fn = Tryd.f8 := (Option.some.inj (Tryd.func8.symm.trans hfn)).symm
      exact ⟨by as_aux_lemma => kernel_rfl, fun j t ht => by
        rw [Tryd.params8] at ht
        have hm : t ∈ [26] := by simpa using Array.mem_of_getElem? ht
        have hall : ([26].all fun u => !Tryd.prog.wantsStandIn u) = true := by as_aux_lemma => kernel_rfl
        exact (show Tryd.prog.wantsStandIn t = false by simpa using List.all_eq_true.1 hall t hm)⟩)
    (by as_aux_lemma => kernel_rfl)
#print axioms proved
end Go.Proofs.YtnfbopaafciiiaaDoor.fnExactMatLossless
