/-
  The law FnExactMatAlike returns true at every argument, and leaves it as it was; the variable errors.errorType holds what the program's text lays there, and the card ties it to that text. No other conditions.
-/
import Derived.Test.YtnfbopaafciiiaaDoorCards
import Derived.Test.YtnfbopaafciiiaaDoorTie
import Derived.Test.YtnfbopaafciiiaaDoorLaidFrame
import Derived.Test.YtnfbopaafciiiaaDoorBMem
import Derived.Test.YtnfbopaafciiiaaDoorLists
import Derived.Test.YtnfbopaafciiiaaDoorLawMAlike
import Derived.Test.YtnfbopaafciiiaaDoorImplM5
import Derived.Test.YtnfbopaafciiiaaDoorSpecM4
import Derived.WalkKit
import Derived.ProofKit
import Derived.OpenShut
import Derived.ShutString
import Derived.ChangeOld
import Derived.Below
import Derived.SevenTiedAt
namespace Go.Proofs.YtnfbopaafciiiaaDoor.fnExactMatAlike
open Go.ChangeShapes Go.WideShapes Go.ChangeAt Go.RowKit
set_option linter.unusedVariables false

theorem walk (x0_0 x0_1 x0_2 x0_3 x0_4 x0_5 x0_6 x0_7 x0_8 x0_9 x0_10 x0_11 x1_0 x1_1 x1_2 x1_3 x1_4 x1_5 x1_6 x1_7 x1_8 x1_9 x1_10 x1_11 : Int) (w : World) (hx0_0 : i64B x0_0) (hx0_1 : i64B x0_1) (hx0_2 : i64B x0_2) (hx0_3 : i64B x0_3) (hx0_4 : i64B x0_4) (hx0_5 : i64B x0_5) (hx0_6 : i64B x0_6) (hx0_7 : i64B x0_7) (hx0_8 : i64B x0_8) (hx0_9 : i64B x0_9) (hx0_10 : i64B x0_10) (hx0_11 : i64B x0_11) (hx1_0 : i64B x1_0) (hx1_1 : i64B x1_1) (hx1_2 : i64B x1_2) (hx1_3 : i64B x1_3) (hx1_4 : i64B x1_4) (hx1_5 : i64B x1_5) (hx1_6 : i64B x1_6) (hx1_7 : i64B x1_7) (hx1_8 : i64B x1_8) (hx1_9 : i64B x1_9) (hx1_10 : i64B x1_10) (hx1_11 : i64B x1_11) (hl : Laid w) :
    Calls Tryd.prog 9 #[.agg #[.int .i64 x0_0, .int .i64 x0_1, .int .i64 x0_2, .int .i64 x0_3, .int .i64 x0_4, .int .i64 x0_5, .int .i64 x0_6, .int .i64 x0_7, .int .i64 x0_8, .int .i64 x0_9, .int .i64 x0_10, .int .i64 x0_11], .agg #[.int .i64 x1_0, .int .i64 x1_1, .int .i64 x1_2, .int .i64 x1_3, .int .i64 x1_4, .int .i64 x1_5, .int .i64 x1_6, .int .i64 x1_7, .int .i64 x1_8, .int .i64 x1_9, .int .i64 x1_10, .int .i64 x1_11]] w fun e w' => e = .returned (.bool true) ∧ Below w.heap.size w w' :=
  exactMatAlike (alkM ((x0_0, x0_1, x0_2), (x0_3, x0_4, x0_5), (x0_6, x0_7, x0_8), (x0_9, x0_10, x0_11)) ((x1_0, x1_1, x1_2), (x1_3, x1_4, x1_5), (x1_6, x1_7, x1_8), (x1_9, x1_10, x1_11))) x0_0 x0_1 x0_2 x0_3 x0_4 x0_5 x0_6 x0_7 x0_8 x0_9 x0_10 x0_11 x1_0 x1_1 x1_2 x1_3 x1_4 x1_5 x1_6 x1_7 x1_8 x1_9 x1_10 x1_11 (fun w => specMAlike_any _ _ _ _ _ _ _ _ _ _ _ _ _ _ _ _ _ _ _ _ _ _ _ _ w) w (fun W k => implMAlike_any _ _ _ _ _ _ _ _ _ _ _ _ _ _ _ _ _ _ _ _ _ _ _ _ hx0_0 hx0_1 hx0_2 hx0_3 hx0_4 hx0_5 hx0_6 hx0_7 hx0_8 hx0_9 hx0_10 hx0_11 hx1_0 hx1_1 hx1_2 hx1_3 hx1_4 hx1_5 hx1_6 hx1_7 hx1_8 hx1_9 hx1_10 hx1_11 W (hl.acc k))

set_option maxRecDepth 100000 in
theorem lifted (os : Os) (started : os.Started) (H : Type) (enc : TypeId × Value → H) :
    ReturnsInHanded {} Tryd.checked os 9 .any (fun w args => (Rows.fnExactMatAlikeSpec.pre enc Tryd.prog Tryd.f9 [] false w args ∧ laidMetH Tryd.prog listed w) ∧ sizedMet enc Tryd.prog Tryd.f9 (OpenSpec.ofChange Rows.fnExactMatAlikeSpec) false w args) (Rows.fnExactMatAlikeSpec.post enc Tryd.prog Tryd.f9 false true false false) := by
  refine returnsInHanded_of_change_and (C := Tryd.checked) (X := fun w _ => laidMetH Tryd.prog listed w) (fun _ _ _ hh h => h.of_heap hh) ownKnob_none started (by kernel_rfl) Tryd.func9
    (ChangeSpec.witness_at (enc := enc) (C := Tryd.checked) (os := os) (X := fun w _ => laidMetH Tryd.prog listed w) false (laidWorld os) #[.agg #[.int .i64 0, .int .i64 0, .int .i64 0, .int .i64 0, .int .i64 0, .int .i64 0, .int .i64 0, .int .i64 0, .int .i64 0, .int .i64 0, .int .i64 0, .int .i64 0], .agg #[.int .i64 0, .int .i64 0, .int .i64 0, .int .i64 0, .int .i64 0, .int .i64 0, .int .i64 0, .int .i64 0, .int .i64 0, .int .i64 0, .int .i64 0, .int .i64 0]] 8 rfl (by kernel_rfl) (by kernel_rfl) (by kernel_rfl) (by kernel_rfl) (by kernel_rfl) (laidWorld_met os _)) ?_
  intro W base args ds gs before hval0 hW _ _ hL _
  have hval : ∀ (j : Nat) t v, Tryd.f9.params[j]? = some t → args[j]? = some v → Value.okWide Tryd.prog W .any base t v := hval0
  have hl := laid_of_met hL
  have hW' := hW
  obtain ⟨p, q, hA0, hV, rfl, hfz, hnd⟩ := hW
  have hA : DataW.TrodAll enc Tryd.prog W 0 (fun _ => true) true Tryd.f9.params.toList args.toList ds p := hA0
  rw [Tryd.params9] at hA hval
  obtain ⟨v0, vs0, d0, ds0, p0, q0, hargs, rfl, rfl, h0, r0⟩ := trodAll_cons hA
  obtain ⟨v1, vs1, d1, ds1, p1, q1, rfl, rfl, rfl, h1, r1⟩ := trodAll_cons r0
  obtain ⟨rfl, rfl, rfl⟩ := trodAll_nil r1
  obtain rfl : args = #[v0, v1] := by cases args; simp_all
  obtain ⟨rfl, rfl⟩ := trodVars_none hV
  have lt0 : ∀ x ∈ p0, x.block < W.heap.size := by obtain ⟨m, hm⟩ := h0; exact DataW.trod_lt m _ _ _ hm
  obtain ⟨zs0, l0, rfl, b0⟩ := okWide_ints (n := 12) (e := 3) (.inl ⟨_, Tryd.underlying26⟩) Tryd.underlying3 (by kernel_rfl) (by kernel_rfl) (hval 0 26 v0 rfl rfl)
  obtain ⟨x0_0, x0_1, x0_2, x0_3, x0_4, x0_5, x0_6, x0_7, x0_8, x0_9, x0_10, x0_11, rfl⟩ := list12 l0
  have hx0_0 : i64B x0_0 := b0 x0_0 (by simp)
  have hx0_1 : i64B x0_1 := b0 x0_1 (by simp)
  have hx0_2 : i64B x0_2 := b0 x0_2 (by simp)
  have hx0_3 : i64B x0_3 := b0 x0_3 (by simp)
  have hx0_4 : i64B x0_4 := b0 x0_4 (by simp)
  have hx0_5 : i64B x0_5 := b0 x0_5 (by simp)
  have hx0_6 : i64B x0_6 := b0 x0_6 (by simp)
  have hx0_7 : i64B x0_7 := b0 x0_7 (by simp)
  have hx0_8 : i64B x0_8 := b0 x0_8 (by simp)
  have hx0_9 : i64B x0_9 := b0 x0_9 (by simp)
  have hx0_10 : i64B x0_10 := b0 x0_10 (by simp)
  have hx0_11 : i64B x0_11 := b0 x0_11 (by simp)
  have lt1 : ∀ x ∈ p1, x.block < W.heap.size := by obtain ⟨m, hm⟩ := h1; exact DataW.trod_lt m _ _ _ hm
  obtain ⟨zs1, l1, rfl, b1⟩ := okWide_ints (n := 12) (e := 3) (.inl ⟨_, Tryd.underlying26⟩) Tryd.underlying3 (by kernel_rfl) (by kernel_rfl) (hval 1 26 v1 rfl rfl)
  obtain ⟨x1_0, x1_1, x1_2, x1_3, x1_4, x1_5, x1_6, x1_7, x1_8, x1_9, x1_10, x1_11, rfl⟩ := list12 l1
  have hx1_0 : i64B x1_0 := b1 x1_0 (by simp)
  have hx1_1 : i64B x1_1 := b1 x1_1 (by simp)
  have hx1_2 : i64B x1_2 := b1 x1_2 (by simp)
  have hx1_3 : i64B x1_3 := b1 x1_3 (by simp)
  have hx1_4 : i64B x1_4 := b1 x1_4 (by simp)
  have hx1_5 : i64B x1_5 := b1 x1_5 (by simp)
  have hx1_6 : i64B x1_6 := b1 x1_6 (by simp)
  have hx1_7 : i64B x1_7 := b1 x1_7 (by simp)
  have hx1_8 : i64B x1_8 := b1 x1_8 (by simp)
  have hx1_9 : i64B x1_9 := b1 x1_9 (by simp)
  have hx1_10 : i64B x1_10 := b1 x1_10 (by simp)
  have hx1_11 : i64B x1_11 := b1 x1_11 (by simp)
  clear hA0 hval0
  refine (walk x0_0 x0_1 x0_2 x0_3 x0_4 x0_5 x0_6 x0_7 x0_8 x0_9 x0_10 x0_11 x1_0 x1_1 x1_2 x1_3 x1_4 x1_5 x1_6 x1_7 x1_8 x1_9 x1_10 x1_11 W hx0_0 hx0_1 hx0_2 hx0_3 hx0_4 hx0_5 hx0_6 hx0_7 hx0_8 hx0_9 hx0_10 hx0_11 hx1_0 hx1_1 hx1_2 hx1_3 hx1_4 hx1_5 hx1_6 hx1_7 hx1_8 hx1_9 hx1_10 hx1_11 hl).mono fun e W' ⟨he, bel⟩ => ?_
  subst he
  exact ⟨_, rfl, _, _, _, [], _, [], hW', trodAll_mk1 (shut_bool Tryd.underlying4 _), (trodAll_cons_mk (Below.trod laid_out (by kernel_rfl) (of_decide_eq_true (by kernel_rfl)) h0 bel lt0) (trodAll_cons_mk (Below.trod laid_out (by kernel_rfl) (of_decide_eq_true (by kernel_rfl)) h1 bel lt1) trodAll_mk0)), rfl, bel.frame _, fun h => by cases h⟩

set_option maxHeartbeats 64000000 in
set_option maxRecDepth 1000000 in
theorem over : Rows.FnExactMatAlikeSaid :=
  OpenClaim.holds_of_wide 9 Tryd.f9 rfl rfl rfl rfl rfl rfl rfl ⟨rfl, rfl, rfl, rfl, rfl⟩ rfl rfl rfl rfl rfl (by as_aux_lemma => kernel_rfl) Tryd.func9 (by
      unfold joinedFacts
      repeat' (with_reducible refine bothB ?_ ?_)
      all_goals as_aux_lemma => kernel_rfl)
    (of_decide_eq_true (by as_aux_lemma => kernel_rfl)) (by unfold Func.isWrapper; first | (rw [if_pos (by decide +kernel)]; kernel_rfl) | (rw [if_neg (by decide +kernel)]; exact ⟨rfl, rfl⟩))
    (fun os started H enc _ => lifted os started H enc)

set_option maxHeartbeats 64000000 in
set_option maxRecDepth 1000000 in
theorem proved : Rows.FnExactMatAlikeCardSaid :=
  Claim7.holds_tied_plain_at .later [] [.handle] true (true, "d49746d5e77e79c28ab1aee1d022c15bcad305036f6980e47f44b367295b3b62") true
    over (fun _ h => by cases h) (by as_aux_lemma => kernel_rfl) (fun _ h => by cases h) fnExactMatAlike_row_tie rfl ⟨rfl, rfl⟩ (by as_aux_lemma => kernel_rfl) rfl
    (fun f fn hf hfn => by
      obtain rfl : f = 9 := Option.some.inj ((show Tryd.prog.funcNamed "loop.example/polarisedlight/laws.FnExactMatAlike" = some 9 by as_aux_lemma => kernel_rfl).symm.trans hf) |>.symm
      obtain rfl : fn = Tryd.f9 := (Option.some.inj (Tryd.func9.symm.trans hfn)).symm
      exact ⟨by as_aux_lemma => kernel_rfl, fun j t ht => by
        rw [Tryd.params9] at ht
        have hm : t ∈ [26, 26] := by simpa using Array.mem_of_getElem? ht
        have hall : ([26, 26].all fun u => !Tryd.prog.wantsStandIn u) = true := by as_aux_lemma => kernel_rfl
        exact (show Tryd.prog.wantsStandIn t = false by simpa using List.all_eq_true.1 hall t hm)⟩)
    (by as_aux_lemma => kernel_rfl)
#print axioms proved
end Go.Proofs.YtnfbopaafciiiaaDoor.fnExactMatAlike
