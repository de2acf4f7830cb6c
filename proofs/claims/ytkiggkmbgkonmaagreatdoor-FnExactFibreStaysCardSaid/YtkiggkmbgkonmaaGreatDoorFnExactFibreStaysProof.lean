/-
  The law FnExactFibreStays returns true at every argument, and leaves it as it was; the variable errors.errorType holds what the program's text lays there, and the card ties it to that text. No other conditions.
-/
import Derived.Test.YtkiggkmbgkonmaaGreatDoorCards
import Derived.Test.YtkiggkmbgkonmaaGreatDoorTie
import Derived.Test.YtkiggkmbgkonmaaGreatDoorBFrame
import Derived.Test.YtkiggkmbgkonmaaGreatDoorBMem
import Derived.Test.YtkiggkmbgkonmaaGreatDoorLawGStays
import Derived.Test.YtkiggkmbgkonmaaGreatDoorOpenSecs
import Derived.WalkKit
import Derived.ProofKit
import Derived.OpenShut
import Derived.ShutString
import Derived.ChangeOld
import Derived.Below
import Derived.SevenTiedAt
namespace Go.Proofs.YtkiggkmbgkonmaaGreatDoor.fnExactFibreStays
open Go.ChangeShapes Go.WideShapes Go.ChangeAt Go.RowKit
set_option linter.unusedVariables false

set_option maxHeartbeats 64000000 in
set_option maxRecDepth 100000 in
theorem walk (a0 : Option Addr) (ls0 : List L4) (cap0 : Nat) (x1_0 x1_1 x1_2 x1_3 x1_4 x1_5 : Int) (w : World) (L0 : Lys w a0 ls0) (m0 : ls0.length ≤ 9223372036854775807) (hx1_0 : i64B x1_0) (hx1_1 : i64B x1_1) (hx1_2 : i64B x1_2) (hx1_3 : i64B x1_3) (hx1_4 : i64B x1_4) (hx1_5 : i64B x1_5) (hl : Laid w) :
    Calls Tryz.prog 6 #[.slice a0 ls0.length cap0, .agg #[.int .i64 x1_0, .int .i64 x1_1, .int .i64 x1_2, .int .i64 x1_3, .int .i64 x1_4, .int .i64 x1_5]] w fun e w' => e = .returned (.bool true) ∧ Below w.heap.size w w' :=
  exactFibreStays a0 ls0 cap0 x1_0 x1_1 x1_2 x1_3 x1_4 x1_5 hx1_0 hx1_1 hx1_2 hx1_3 hx1_4 hx1_5 w L0 m0 hl

set_option maxRecDepth 100000 in
theorem lifted (os : Os) (started : os.Started) (H : Type) (enc : TypeId × Value → H) :
    ReturnsInHanded {} Tryz.checked os 6 .any (fun w args => (Rows.fnExactFibreStaysSpec.pre enc Tryz.prog Tryz.f6 [] false w args ∧ laidMetH Tryz.prog listed w) ∧ sizedMet enc Tryz.prog Tryz.f6 (OpenSpec.ofChange Rows.fnExactFibreStaysSpec) false w args) (Rows.fnExactFibreStaysSpec.post enc Tryz.prog Tryz.f6 false true false false) := by
  refine returnsInHanded_of_change_and (C := Tryz.checked) (X := fun w _ => laidMetH Tryz.prog listed w) (fun _ _ _ hh h => h.of_heap hh) ownKnob_none started (by kernel_rfl) Tryz.func6
    (ChangeSpec.witness_at (enc := enc) (C := Tryz.checked) (os := os) (X := fun w _ => laidMetH Tryz.prog listed w) false (laidWorld os) #[.slice none 0 0, .agg #[.int .i64 0, .int .i64 0, .int .i64 0, .int .i64 0, .int .i64 0, .int .i64 0]] 8 rfl (by kernel_rfl) (by kernel_rfl) (by kernel_rfl) (by kernel_rfl) (by kernel_rfl) (laidWorld_met os _)) ?_
  intro W base args ds gs before hval0 hW _ _ hL _
  have hval : ∀ (j : Nat) t v, Tryz.f6.params[j]? = some t → args[j]? = some v → Value.okWide Tryz.prog W .any base t v := hval0
  have hl := laid_of_met hL
  have hW' := hW
  obtain ⟨p, q, hA0, hV, rfl, hfz, hnd⟩ := hW
  have hA : DataW.TrodAll enc Tryz.prog W 0 (fun _ => true) true Tryz.f6.params.toList args.toList ds p := hA0
  rw [Tryz.params6] at hA hval
  obtain ⟨v0, vs0, d0, ds0, p0, q0, hargs, rfl, rfl, h0, r0⟩ := trodAll_cons hA
  obtain ⟨v1, vs1, d1, ds1, p1, q1, rfl, rfl, rfl, h1, r1⟩ := trodAll_cons r0
  obtain ⟨rfl, rfl, rfl⟩ := trodAll_nil r1
  obtain rfl : args = #[v0, v1] := by cases args; simp_all
  obtain ⟨rfl, rfl⟩ := trodVars_none hV
  have lt0 : ∀ x ∈ p0, x.block < W.heap.size := by obtain ⟨m, hm⟩ := h0; exact DataW.trod_lt m _ _ _ hm
  obtain ⟨a0, len0, cap0, rfl⟩ := okWide_slice Tryz.underlying22 (hval 0 22 v0 rfl rfl)
  have k0 := h0
  obtain ⟨ls0, rfl, L0, m0⟩ : ∃ ls : List L4, len0 = ls.length ∧ Lys W a0 ls ∧ ls.length ≤ 9223372036854775807 := by
    obtain ⟨fuel, hf⟩ := h0
    obtain ⟨x, ls, c, hcs, hl1, hl2, hly⟩ := open_sections Tryz.underlying22 Tryz.underlying57 (by kernel_rfl) (by kernel_rfl) (by kernel_rfl) (by kernel_rfl) (by kernel_rfl) rfl rfl rfl rfl Tryz.underlying3 Tryz.underlying3 Tryz.underlying3 Tryz.underlying3 hf
    simp [Value.cells] at hcs
    obtain ⟨rfl, rfl, rfl⟩ := hcs
    unfold maxLen at hl2
    exact ⟨ls, rfl, hly, by omega⟩
  replace h0 := k0
  have lt1 : ∀ x ∈ p1, x.block < W.heap.size := by obtain ⟨m, hm⟩ := h1; exact DataW.trod_lt m _ _ _ hm
  obtain ⟨zs1, l1, rfl, b1⟩ := okWide_ints (n := 6) (e := 3) (.inl ⟨_, Tryz.underlying38⟩) Tryz.underlying3 (by kernel_rfl) (by kernel_rfl) (hval 1 38 v1 rfl rfl)
  obtain ⟨x1_0, x1_1, x1_2, x1_3, x1_4, x1_5, rfl⟩ := list6 l1
  have hx1_0 : i64B x1_0 := b1 x1_0 (by simp)
  have hx1_1 : i64B x1_1 := b1 x1_1 (by simp)
  have hx1_2 : i64B x1_2 := b1 x1_2 (by simp)
  have hx1_3 : i64B x1_3 := b1 x1_3 (by simp)
  have hx1_4 : i64B x1_4 := b1 x1_4 (by simp)
  have hx1_5 : i64B x1_5 := b1 x1_5 (by simp)
  clear hA0 hval0
  refine (walk a0 ls0 cap0 x1_0 x1_1 x1_2 x1_3 x1_4 x1_5 W L0 m0 hx1_0 hx1_1 hx1_2 hx1_3 hx1_4 hx1_5 hl).mono fun e W' ⟨he, bel⟩ => ?_
  subst he
  exact ⟨_, rfl, _, _, _, [], _, [], hW', trodAll_mk1 (shut_bool Tryz.underlying4 _), (trodAll_cons_mk (Below.trod laid_out (by kernel_rfl) (of_decide_eq_true (by kernel_rfl)) h0 bel lt0) (trodAll_cons_mk (Below.trod laid_out (by kernel_rfl) (of_decide_eq_true (by kernel_rfl)) h1 bel lt1) trodAll_mk0)), rfl, bel.frame _, fun h => by cases h⟩

set_option maxHeartbeats 64000000 in
set_option maxRecDepth 1000000 in
theorem over : Rows.FnExactFibreStaysSaid :=
  OpenClaim.holds_of_wide 6 Tryz.f6 rfl rfl rfl rfl rfl rfl rfl ⟨rfl, rfl, rfl, rfl, rfl⟩ rfl rfl rfl rfl rfl (by as_aux_lemma => kernel_rfl) Tryz.func6 (by
      unfold joinedFacts
      repeat' (with_reducible refine bothB ?_ ?_)
      all_goals as_aux_lemma => kernel_rfl)
    (of_decide_eq_true (by as_aux_lemma => kernel_rfl)) (by unfold Func.isWrapper; first | (rw [if_pos (by decide +kernel)]; kernel_rfl) | (rw [if_neg (by decide +kernel)]; exact ⟨rfl, rfl⟩))
    (fun os started H enc _ => lifted os started H enc)

set_option maxHeartbeats 64000000 in
set_option maxRecDepth 1000000 in
theorem proved : Rows.FnExactFibreStaysCardSaid :=
  Claim7.holds_tied_plain_at .later [] [.handle] true (true, "e7f0b41967b255ed8e2b329a2a423e04b197ad5b738b74524f669fc2689f3657") true
    over (fun _ h => by cases h) (by as_aux_lemma => kernel_rfl) (fun _ h => by cases h) fnExactFibreStays_row_tie rfl ⟨rfl, rfl⟩ (by as_aux_lemma => kernel_rfl) rfl
    (fun f fn hf hfn => by
      obtain rfl : f = 6 := Option.some.inj ((show Tryz.prog.funcNamed "loop.example/polarisedlight/laws.FnExactFibreStays" = some 6 by as_aux_lemma => kernel_rfl).symm.trans hf) |>.symm
      obtain rfl : fn = Tryz.f6 := (Option.some.inj (Tryz.func6.symm.trans hfn)).symm
      exact ⟨by as_aux_lemma => kernel_rfl, fun j t ht => by
        rw [Tryz.params6] at ht
        have hm : t ∈ [22, 38] := by simpa using Array.mem_of_getElem? ht
        have hall : ([22, 38].all fun u => !Tryz.prog.wantsStandIn u) = true := by as_aux_lemma => kernel_rfl
        exact (show Tryz.prog.wantsStandIn t = false by simpa using List.all_eq_true.1 hall t hm)⟩)
    (by as_aux_lemma => kernel_rfl)
#print axioms proved
end Go.Proofs.YtkiggkmbgkonmaaGreatDoor.fnExactFibreStays
