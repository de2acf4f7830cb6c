/-
  The law FnExactMatFilter returns true at every argument, and leaves it as it was; the variable errors.errorType holds what the program's text lays there, and the card ties it to that text. No other conditions.
-/
import Derived.Test.YtnfbopaafciiiaaDoorCards
import Derived.Test.YtnfbopaafciiiaaDoorTie
import Derived.Test.YtnfbopaafciiiaaDoorLaidFrame
import Derived.Test.YtnfbopaafciiiaaDoorBMem
import Derived.Test.YtnfbopaafciiiaaDoorLists
import Derived.Test.YtnfbopaafciiiaaDoorLawMFilter
import Derived.Test.YtnfbopaafciiiaaDoorImplM6
import Derived.Test.YtnfbopaafciiiaaDoorSpecM6
import Derived.WalkKit
import Derived.ProofKit
import Derived.OpenShut
import Derived.ShutString
import Derived.ChangeOld
import Derived.Below
import Derived.SevenTiedAt
namespace Go.Proofs.YtnfbopaafciiiaaDoor.fnExactMatFilter
open Go.ChangeShapes Go.WideShapes Go.ChangeAt Go.RowKit
set_option linter.unusedVariables false

theorem walk (x0_0 x1_0 : Int) (w : World) (hx0_0 : i64B x0_0) (hx1_0 : i64B x1_0) (hl : Laid w) :
    Calls Tryd.prog 12 #[.int .i64 x0_0, .int .i64 x1_0] w fun e w' => e = .returned (.bool true) ∧ Below w.heap.size w w' :=
  exactMatFilter (filM x0_0 x1_0) x0_0 x1_0 (fun w => specFil_any _ _ w) w (fun W k => implFil_any _ _ hx0_0 hx1_0 W (hl.acc k))

set_option maxRecDepth 100000 in
theorem lifted (os : Os) (started : os.Started) (H : Type) (enc : TypeId × Value → H) :
    ReturnsInHanded {} Tryd.checked os 12 .any (fun w args => (Rows.fnExactMatFilterSpec.pre enc Tryd.prog Tryd.f12 [] false w args ∧ laidMetH Tryd.prog listed w) ∧ sizedMet enc Tryd.prog Tryd.f12 (OpenSpec.ofChange Rows.fnExactMatFilterSpec) false w args) (Rows.fnExactMatFilterSpec.post enc Tryd.prog Tryd.f12 false true false false) := by
  refine returnsInHanded_of_change_and (C := Tryd.checked) (X := fun w _ => laidMetH Tryd.prog listed w) (fun _ _ _ hh h => h.of_heap hh) ownKnob_none started (by kernel_rfl) Tryd.func12
    (ChangeSpec.witness_at (enc := enc) (C := Tryd.checked) (os := os) (X := fun w _ => laidMetH Tryd.prog listed w) false (laidWorld os) #[.int .i64 0, .int .i64 0] 8 rfl (by kernel_rfl) (by kernel_rfl) (by kernel_rfl) (by kernel_rfl) (by kernel_rfl) (laidWorld_met os _)) ?_
  intro W base args ds gs before hval0 hW _ _ hL _
  have hval : ∀ (j : Nat) t v, Tryd.f12.params[j]? = some t → args[j]? = some v → Value.okWide Tryd.prog W .any base t v := hval0
  have hl := laid_of_met hL
  have hW' := hW
  obtain ⟨p, q, hA0, hV, rfl, hfz, hnd⟩ := hW
  have hA : DataW.TrodAll enc Tryd.prog W 0 (fun _ => true) true Tryd.f12.params.toList args.toList ds p := hA0
  rw [Tryd.params12] at hA hval
  obtain ⟨v0, vs0, d0, ds0, p0, q0, hargs, rfl, rfl, h0, r0⟩ := trodAll_cons hA
  obtain ⟨v1, vs1, d1, ds1, p1, q1, rfl, rfl, rfl, h1, r1⟩ := trodAll_cons r0
  obtain ⟨rfl, rfl, rfl⟩ := trodAll_nil r1
  obtain rfl : args = #[v0, v1] := by cases args; simp_all
  obtain ⟨rfl, rfl⟩ := trodVars_none hV
  have lt0 : ∀ x ∈ p0, x.block < W.heap.size := by obtain ⟨m, hm⟩ := h0; exact DataW.trod_lt m _ _ _ hm
  obtain ⟨x0_0, rfl, hx0_0⟩ : ∃ n, v0 = .int .i64 n ∧ i64B n := okWide_i64 Tryd.underlying3 (by have := hval 0 3 v0 rfl rfl; rwa [Value.okWide, Tryd.underlying3] at this)
  have lt1 : ∀ x ∈ p1, x.block < W.heap.size := by obtain ⟨m, hm⟩ := h1; exact DataW.trod_lt m _ _ _ hm
  obtain ⟨x1_0, rfl, hx1_0⟩ : ∃ n, v1 = .int .i64 n ∧ i64B n := okWide_i64 Tryd.underlying3 (by have := hval 1 3 v1 rfl rfl; rwa [Value.okWide, Tryd.underlying3] at this)
  clear hA0 hval0
  refine (walk x0_0 x1_0 W hx0_0 hx1_0 hl).mono fun e W' ⟨he, bel⟩ => ?_
  subst he
  exact ⟨_, rfl, _, _, _, [], _, [], hW', trodAll_mk1 (shut_bool Tryd.underlying4 _), (trodAll_cons_mk (Below.trod laid_out (by kernel_rfl) (of_decide_eq_true (by kernel_rfl)) h0 bel lt0) (trodAll_cons_mk (Below.trod laid_out (by kernel_rfl) (of_decide_eq_true (by kernel_rfl)) h1 bel lt1) trodAll_mk0)), rfl, bel.frame _, fun h => by cases h⟩

set_option maxHeartbeats 64000000 in
set_option maxRecDepth 1000000 in
theorem over : Rows.FnExactMatFilterSaid :=
  OpenClaim.holds_of_wide 12 Tryd.f12 rfl rfl rfl rfl rfl rfl rfl ⟨rfl, rfl, rfl, rfl, rfl⟩ rfl rfl rfl rfl rfl (by as_aux_lemma => kernel_rfl) Tryd.func12 (by
      unfold joinedFacts
      repeat' (with_reducible refine bothB ?_ ?_)
      all_goals as_aux_lemma => kernel_rfl)
    (of_decide_eq_true (by as_aux_lemma => kernel_rfl)) (by unfold Func.isWrapper; first | (rw [if_pos (by decide +kernel)]; kernel_rfl) | (rw [if_neg (by decide +kernel)]; exact ⟨rfl, rfl⟩))
    (fun os started H enc _ => lifted os started H enc)

set_option maxHeartbeats 64000000 in
set_option maxRecDepth 1000000 in
theorem proved : Rows.FnExactMatFilterCardSaid :=
  Claim7.holds_tied_plain_at .later [] [.handle] true (true, "d49746d5e77e79c28ab1aee1d022c15bcad305036f6980e47f44b367295b3b62") true
    over (fun _ h => by cases h) (by as_aux_lemma => kernel_rfl) (fun _ h => by cases h) fnExactMatFilter_row_tie rfl ⟨rfl, rfl⟩ (by as_aux_lemma => kernel_rfl) rfl
    (fun f fn hf hfn => by
      obtain rfl : f = 12 := Option.some.inj ((show Tryd.prog.funcNamed "loop.example/polarisedlight/laws.FnExactMatFilter" = some 12 by as_aux_lemma => kernel_rfl).symm.trans hf) |>.symm
      obtain rfl : fn = Tryd.f12 := (Option.some.inj (Tryd.func12.symm.trans hfn)).symm
      exact ⟨by as_aux_lemma => kernel_rfl, fun j t ht => by
        rw [Tryd.params12] at ht
        have hm : t ∈ [3, 3] := by simpa using Array.mem_of_getElem? ht
        have hall : ([3, 3].all fun u => !Tryd.prog.wantsStandIn u) = true := by as_aux_lemma => kernel_rfl
        exact (show Tryd.prog.wantsStandIn t = false by simpa using List.all_eq_true.1 hall t hm)⟩)
    (by as_aux_lemma => kernel_rfl)
#print axioms proved
end Go.Proofs.YtnfbopaafciiiaaDoor.fnExactMatFilter
