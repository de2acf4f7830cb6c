/-
  The law FnExactTableApply returns true at every argument, and leaves it as it was; the variable errors.errorType holds what the program's text lays there, and the card ties it to that text. No other conditions.
-/
import Derived.Test.YtgmpbdndkjnbfaaDoorCards
import Derived.Test.YtgmpbdndkjnbfaaDoorTie
import Derived.Test.YtgmpbdndkjnbfaaDoorBFrame
import Derived.Test.YtgmpbdndkjnbfaaDoorBMem
import Derived.Test.YtgmpbdndkjnbfaaDoorLawTApply
import Derived.Test.YtgmpbdndkjnbfaaDoorImplT6
import Derived.Test.YtgmpbdndkjnbfaaDoorSpecT3
import Derived.WalkKit
import Derived.ProofKit
import Derived.OpenShut
import Derived.ShutString
import Derived.ChangeOld
import Derived.Below
import Derived.SevenTiedAt
namespace Go.Proofs.YtgmpbdndkjnbfaaDoor.fnExactTableApply
open Go.ChangeShapes Go.WideShapes Go.ChangeAt Go.RowKit
set_option linter.unusedVariables false

set_option maxHeartbeats 64000000 in
set_option maxRecDepth 100000 in
theorem walk (x0_0 x0_1 x0_2 x0_3 x0_4 x0_5 x0_6 x0_7 x0_8 x0_9 x0_10 x0_11 x0_12 x0_13 x0_14 x0_15 x0_16 x0_17 x0_18 x0_19 x0_20 x0_21 x0_22 x0_23 x0_24 x0_25 x0_26 x0_27 x0_28 x0_29 x0_30 x0_31 x0_32 x0_33 x0_34 x0_35 x0_36 x0_37 x0_38 x0_39 x0_40 x0_41 x0_42 x0_43 x0_44 x0_45 x0_46 x0_47 x1_0 x1_1 x1_2 x1_3 x1_4 x1_5 x1_6 x1_7 x1_8 x1_9 x1_10 x1_11 : Int) (w : World) (hx0_0 : i64B x0_0) (hx0_1 : i64B x0_1) (hx0_2 : i64B x0_2) (hx0_3 : i64B x0_3) (hx0_4 : i64B x0_4) (hx0_5 : i64B x0_5) (hx0_6 : i64B x0_6) (hx0_7 : i64B x0_7) (hx0_8 : i64B x0_8) (hx0_9 : i64B x0_9) (hx0_10 : i64B x0_10) (hx0_11 : i64B x0_11) (hx0_12 : i64B x0_12) (hx0_13 : i64B x0_13) (hx0_14 : i64B x0_14) (hx0_15 : i64B x0_15) (hx0_16 : i64B x0_16) (hx0_17 : i64B x0_17) (hx0_18 : i64B x0_18) (hx0_19 : i64B x0_19) (hx0_20 : i64B x0_20) (hx0_21 : i64B x0_21) (hx0_22 : i64B x0_22) (hx0_23 : i64B x0_23) (hx0_24 : i64B x0_24) (hx0_25 : i64B x0_25) (hx0_26 : i64B x0_26) (hx0_27 : i64B x0_27) (hx0_28 : i64B x0_28) (hx0_29 : i64B x0_29) (hx0_30 : i64B x0_30) (hx0_31 : i64B x0_31) (hx0_32 : i64B x0_32) (hx0_33 : i64B x0_33) (hx0_34 : i64B x0_34) (hx0_35 : i64B x0_35) (hx0_36 : i64B x0_36) (hx0_37 : i64B x0_37) (hx0_38 : i64B x0_38) (hx0_39 : i64B x0_39) (hx0_40 : i64B x0_40) (hx0_41 : i64B x0_41) (hx0_42 : i64B x0_42) (hx0_43 : i64B x0_43) (hx0_44 : i64B x0_44) (hx0_45 : i64B x0_45) (hx0_46 : i64B x0_46) (hx0_47 : i64B x0_47) (hx1_0 : i64B x1_0) (hx1_1 : i64B x1_1) (hx1_2 : i64B x1_2) (hx1_3 : i64B x1_3) (hx1_4 : i64B x1_4) (hx1_5 : i64B x1_5) (hx1_6 : i64B x1_6) (hx1_7 : i64B x1_7) (hx1_8 : i64B x1_8) (hx1_9 : i64B x1_9) (hx1_10 : i64B x1_10) (hx1_11 : i64B x1_11) (hl : Laid w) :
    Calls Tryd.prog 3 #[.agg #[.int .i64 x0_0, .int .i64 x0_1, .int .i64 x0_2, .int .i64 x0_3, .int .i64 x0_4, .int .i64 x0_5, .int .i64 x0_6, .int .i64 x0_7, .int .i64 x0_8, .int .i64 x0_9, .int .i64 x0_10, .int .i64 x0_11, .int .i64 x0_12, .int .i64 x0_13, .int .i64 x0_14, .int .i64 x0_15, .int .i64 x0_16, .int .i64 x0_17, .int .i64 x0_18, .int .i64 x0_19, .int .i64 x0_20, .int .i64 x0_21, .int .i64 x0_22, .int .i64 x0_23, .int .i64 x0_24, .int .i64 x0_25, .int .i64 x0_26, .int .i64 x0_27, .int .i64 x0_28, .int .i64 x0_29, .int .i64 x0_30, .int .i64 x0_31, .int .i64 x0_32, .int .i64 x0_33, .int .i64 x0_34, .int .i64 x0_35, .int .i64 x0_36, .int .i64 x0_37, .int .i64 x0_38, .int .i64 x0_39, .int .i64 x0_40, .int .i64 x0_41, .int .i64 x0_42, .int .i64 x0_43, .int .i64 x0_44, .int .i64 x0_45, .int .i64 x0_46, .int .i64 x0_47], .agg #[.int .i64 x1_0, .int .i64 x1_1, .int .i64 x1_2, .int .i64 x1_3, .int .i64 x1_4, .int .i64 x1_5, .int .i64 x1_6, .int .i64 x1_7, .int .i64 x1_8, .int .i64 x1_9, .int .i64 x1_10, .int .i64 x1_11]] w fun e w' => e = .returned (.bool true) ∧ Below w.heap.size w w' :=
  by have h1 : ∀ w, _ := (fun w => toTable_any x0_0 x0_1 x0_2 x0_3 x0_4 x0_5 x0_6 x0_7 x0_8 x0_9 x0_10 x0_11 x0_12 x0_13 x0_14 x0_15 x0_16 x0_17 x0_18 x0_19 x0_20 x0_21 x0_22 x0_23 x0_24 x0_25 x0_26 x0_27 x0_28 x0_29 x0_30 x0_31 x0_32 x0_33 x0_34 x0_35 x0_36 x0_37 x0_38 x0_39 x0_40 x0_41 x0_42 x0_43 x0_44 x0_45 x0_46 x0_47 w); have h2 : ∀ w, _ := (fun w => specTApply_any x0_0 x0_1 x0_2 x0_3 x0_4 x0_5 x0_6 x0_7 x0_8 x0_9 x0_10 x0_11 x0_12 x0_13 x0_14 x0_15 x0_16 x0_17 x0_18 x0_19 x0_20 x0_21 x0_22 x0_23 x0_24 x0_25 x0_26 x0_27 x0_28 x0_29 x0_30 x0_31 x0_32 x0_33 x0_34 x0_35 x0_36 x0_37 x0_38 x0_39 x0_40 x0_41 x0_42 x0_43 x0_44 x0_45 x0_46 x0_47 x1_0 x1_1 x1_2 x1_3 x1_4 x1_5 x1_6 x1_7 x1_8 x1_9 x1_10 x1_11 w); have h3 : ∀ W, Acc w W → _ := (fun W k => implTApply_any x0_0 x0_1 x0_2 x0_3 x0_4 x0_5 x0_6 x0_7 x0_8 x0_9 x0_10 x0_11 x0_12 x0_13 x0_14 x0_15 x0_16 x0_17 x0_18 x0_19 x0_20 x0_21 x0_22 x0_23 x0_24 x0_25 x0_26 x0_27 x0_28 x0_29 x0_30 x0_31 x0_32 x0_33 x0_34 x0_35 x0_36 x0_37 x0_38 x0_39 x0_40 x0_41 x0_42 x0_43 x0_44 x0_45 x0_46 x0_47 x1_0 x1_1 x1_2 x1_3 x1_4 x1_5 x1_6 x1_7 x1_8 x1_9 x1_10 x1_11 hx0_0 hx0_1 hx0_2 hx0_3 hx0_4 hx0_5 hx0_6 hx0_7 hx0_8 hx0_9 hx0_10 hx0_11 hx0_12 hx0_13 hx0_14 hx0_15 hx0_16 hx0_17 hx0_18 hx0_19 hx0_20 hx0_21 hx0_22 hx0_23 hx0_24 hx0_25 hx0_26 hx0_27 hx0_28 hx0_29 hx0_30 hx0_31 hx0_32 hx0_33 hx0_34 hx0_35 hx0_36 hx0_37 hx0_38 hx0_39 hx0_40 hx0_41 hx0_42 hx0_43 hx0_44 hx0_45 hx0_46 hx0_47 hx1_0 hx1_1 hx1_2 hx1_3 hx1_4 hx1_5 hx1_6 hx1_7 hx1_8 hx1_9 hx1_10 hx1_11 W (hl.acc k)); have h5 := fun hn => exactTableApply (appTb (((x0_0, x0_1, x0_2), (x0_3, x0_4, x0_5), (x0_6, x0_7, x0_8), (x0_9, x0_10, x0_11)), ((x0_12, x0_13, x0_14), (x0_15, x0_16, x0_17), (x0_18, x0_19, x0_20), (x0_21, x0_22, x0_23)), ((x0_24, x0_25, x0_26), (x0_27, x0_28, x0_29), (x0_30, x0_31, x0_32), (x0_33, x0_34, x0_35)), ((x0_36, x0_37, x0_38), (x0_39, x0_40, x0_41), (x0_42, x0_43, x0_44), (x0_45, x0_46, x0_47))) ((x1_0, x1_1, x1_2), (x1_3, x1_4, x1_5), (x1_6, x1_7, x1_8), (x1_9, x1_10, x1_11))) _ hn x1_0 x1_1 x1_2 x1_3 x1_4 x1_5 x1_6 x1_7 x1_8 x1_9 x1_10 x1_11 h1 h2 w h3; exact h5 rfl

set_option maxRecDepth 100000 in
theorem lifted (os : Os) (started : os.Started) (H : Type) (enc : TypeId × Value → H) :
    ReturnsInHanded {} Tryd.checked os 3 .any (fun w args => (Rows.fnExactTableApplySpec.pre enc Tryd.prog Tryd.f3 [] false w args ∧ laidMetH Tryd.prog listed w) ∧ sizedMet enc Tryd.prog Tryd.f3 (OpenSpec.ofChange Rows.fnExactTableApplySpec) false w args) (Rows.fnExactTableApplySpec.post enc Tryd.prog Tryd.f3 false true false false) := by
  refine returnsInHanded_of_change_and (C := Tryd.checked) (X := fun w _ => laidMetH Tryd.prog listed w) (fun _ _ _ hh h => h.of_heap hh) ownKnob_none started (by kernel_rfl) Tryd.func3
    (ChangeSpec.witness_at (enc := enc) (C := Tryd.checked) (os := os) (X := fun w _ => laidMetH Tryd.prog listed w) false (laidWorld os) #[.agg #[.int .i64 0, .int .i64 0, .int .i64 0, .int .i64 0, .int .i64 0, .int .i64 0, .int .i64 0, .int .i64 0, .int .i64 0, .int .i64 0, .int .i64 0, .int .i64 0, .int .i64 0, .int .i64 0, .int .i64 0, .int .i64 0, .int .i64 0, .int .i64 0, .int .i64 0, .int .i64 0, .int .i64 0, .int .i64 0, .int .i64 0, .int .i64 0, .int .i64 0, .int .i64 0, .int .i64 0, .int .i64 0, .int .i64 0, .int .i64 0, .int .i64 0, .int .i64 0, .int .i64 0, .int .i64 0, .int .i64 0, .int .i64 0, .int .i64 0, .int .i64 0, .int .i64 0, .int .i64 0, .int .i64 0, .int .i64 0, .int .i64 0, .int .i64 0, .int .i64 0, .int .i64 0, .int .i64 0, .int .i64 0], .agg #[.int .i64 0, .int .i64 0, .int .i64 0, .int .i64 0, .int .i64 0, .int .i64 0, .int .i64 0, .int .i64 0, .int .i64 0, .int .i64 0, .int .i64 0, .int .i64 0]] 8 rfl (by kernel_rfl) (by kernel_rfl) (by kernel_rfl) (by kernel_rfl) (by kernel_rfl) (laidWorld_met os _)) ?_
  intro W base args ds gs before hval0 hW _ _ hL _
  have hval : ∀ (j : Nat) t v, Tryd.f3.params[j]? = some t → args[j]? = some v → Value.okWide Tryd.prog W .any base t v := hval0
  have hl := laid_of_met hL
  have hW' := hW
  obtain ⟨p, q, hA0, hV, rfl, hfz, hnd⟩ := hW
  have hA : DataW.TrodAll enc Tryd.prog W 0 (fun _ => true) true Tryd.f3.params.toList args.toList ds p := hA0
  rw [Tryd.params3] at hA hval
  obtain ⟨v0, vs0, d0, ds0, p0, q0, hargs, rfl, rfl, h0, r0⟩ := trodAll_cons hA
  obtain ⟨v1, vs1, d1, ds1, p1, q1, rfl, rfl, rfl, h1, r1⟩ := trodAll_cons r0
  obtain ⟨rfl, rfl, rfl⟩ := trodAll_nil r1
  obtain rfl : args = #[v0, v1] := by cases args; simp_all
  obtain ⟨rfl, rfl⟩ := trodVars_none hV
  have lt0 : ∀ x ∈ p0, x.block < W.heap.size := by obtain ⟨m, hm⟩ := h0; exact DataW.trod_lt m _ _ _ hm
  obtain ⟨zs0, l0, rfl, b0⟩ := okWide_ints (n := 48) (e := 3) (.inl ⟨_, Tryd.underlying26⟩) Tryd.underlying3 (by kernel_rfl) (by kernel_rfl) (hval 0 26 v0 rfl rfl)
  obtain ⟨x0_0, x0_1, x0_2, x0_3, x0_4, x0_5, x0_6, x0_7, x0_8, x0_9, x0_10, x0_11, x0_12, x0_13, x0_14, x0_15, x0_16, x0_17, x0_18, x0_19, x0_20, x0_21, x0_22, x0_23, x0_24, x0_25, x0_26, x0_27, x0_28, x0_29, x0_30, x0_31, x0_32, x0_33, x0_34, x0_35, x0_36, x0_37, x0_38, x0_39, x0_40, x0_41, x0_42, x0_43, x0_44, x0_45, x0_46, x0_47, rfl⟩ := list48 l0
  have hx0_0 : i64B x0_0 := b0 x0_0 (by simp)
  have hx0_1 : i64B x0_1 := b0 x0_1 (by simp)
  have hx0_2 : i64B x0_2 := b0 x0_2 (by simp)
  have hx0_3 : i64B x0_3 := b0 x0_3 (by simp)
  have hx0_4 : i64B x0_4 := b0 x0_4 (by simp)
  have hx0_5 : i64B x0_5 := b0 x0_5 (by simp)
  have hx0_6 : i64B x0_6 := b0 x0_6 (by simp)
  have hx0_7 : i64B x0_7 := b0 x0_7 (by simp)
  have hx0_8 : i64B x0_8 := b0 x0_8 (by simp)
  have hx0_9 : i64B x0_9 := b0 x0_9 (by simp)
  have hx0_10 : i64B x0_10 := b0 x0_10 (by simp)
  have hx0_11 : i64B x0_11 := b0 x0_11 (by simp)
  have hx0_12 : i64B x0_12 := b0 x0_12 (by simp)
  have hx0_13 : i64B x0_13 := b0 x0_13 (by simp)
  have hx0_14 : i64B x0_14 := b0 x0_14 (by simp)
  have hx0_15 : i64B x0_15 := b0 x0_15 (by simp)
  have hx0_16 : i64B x0_16 := b0 x0_16 (by simp)
  have hx0_17 : i64B x0_17 := b0 x0_17 (by simp)
  have hx0_18 : i64B x0_18 := b0 x0_18 (by simp)
  have hx0_19 : i64B x0_19 := b0 x0_19 (by simp)
  have hx0_20 : i64B x0_20 := b0 x0_20 (by simp)
  have hx0_21 : i64B x0_21 := b0 x0_21 (by simp)
  have hx0_22 : i64B x0_22 := b0 x0_22 (by simp)
  have hx0_23 : i64B x0_23 := b0 x0_23 (by simp)
  have hx0_24 : i64B x0_24 := b0 x0_24 (by simp)
  have hx0_25 : i64B x0_25 := b0 x0_25 (by simp)
  have hx0_26 : i64B x0_26 := b0 x0_26 (by simp)
  have hx0_27 : i64B x0_27 := b0 x0_27 (by simp)
  have hx0_28 : i64B x0_28 := b0 x0_28 (by simp)
  have hx0_29 : i64B x0_29 := b0 x0_29 (by simp)
  have hx0_30 : i64B x0_30 := b0 x0_30 (by simp)
  have hx0_31 : i64B x0_31 := b0 x0_31 (by simp)
  have hx0_32 : i64B x0_32 := b0 x0_32 (by simp)
  have hx0_33 : i64B x0_33 := b0 x0_33 (by simp)
  have hx0_34 : i64B x0_34 := b0 x0_34 (by simp)
  have hx0_35 : i64B x0_35 := b0 x0_35 (by simp)
  have hx0_36 : i64B x0_36 := b0 x0_36 (by simp)
  have hx0_37 : i64B x0_37 := b0 x0_37 (by simp)
  have hx0_38 : i64B x0_38 := b0 x0_38 (by simp)
  have hx0_39 : i64B x0_39 := b0 x0_39 (by simp)
  have hx0_40 : i64B x0_40 := b0 x0_40 (by simp)
  have hx0_41 : i64B x0_41 := b0 x0_41 (by simp)
  have hx0_42 : i64B x0_42 := b0 x0_42 (by simp)
  have hx0_43 : i64B x0_43 := b0 x0_43 (by simp)
  have hx0_44 : i64B x0_44 := b0 x0_44 (by simp)
  have hx0_45 : i64B x0_45 := b0 x0_45 (by simp)
  have hx0_46 : i64B x0_46 := b0 x0_46 (by simp)
  have hx0_47 : i64B x0_47 := b0 x0_47 (by simp)
  have lt1 : ∀ x ∈ p1, x.block < W.heap.size := by obtain ⟨m, hm⟩ := h1; exact DataW.trod_lt m _ _ _ hm
  obtain ⟨zs1, l1, rfl, b1⟩ := okWide_ints (n := 12) (e := 3) (.inl ⟨_, Tryd.underlying29⟩) Tryd.underlying3 (by kernel_rfl) (by kernel_rfl) (hval 1 29 v1 rfl rfl)
  obtain ⟨x1_0, x1_1, x1_2, x1_3, x1_4, x1_5, x1_6, x1_7, x1_8, x1_9, x1_10, x1_11, rfl⟩ := list12 l1
  have hx1_0 : i64B x1_0 := b1 x1_0 (by simp)
  have hx1_1 : i64B x1_1 := b1 x1_1 (by simp)
  have hx1_2 : i64B x1_2 := b1 x1_2 (by simp)
  have hx1_3 : i64B x1_3 := b1 x1_3 (by simp)
  have hx1_4 : i64B x1_4 := b1 x1_4 (by simp)
  have hx1_5 : i64B x1_5 := b1 x1_5 (by simp)
  have hx1_6 : i64B x1_6 := b1 x1_6 (by simp)
  have hx1_7 : i64B x1_7 := b1 x1_7 (by simp)
  have hx1_8 : i64B x1_8 := b1 x1_8 (by simp)
  have hx1_9 : i64B x1_9 := b1 x1_9 (by simp)
  have hx1_10 : i64B x1_10 := b1 x1_10 (by simp)
  have hx1_11 : i64B x1_11 := b1 x1_11 (by simp)
  clear hA0 hval0
  refine (walk x0_0 x0_1 x0_2 x0_3 x0_4 x0_5 x0_6 x0_7 x0_8 x0_9 x0_10 x0_11 x0_12 x0_13 x0_14 x0_15 x0_16 x0_17 x0_18 x0_19 x0_20 x0_21 x0_22 x0_23 x0_24 x0_25 x0_26 x0_27 x0_28 x0_29 x0_30 x0_31 x0_32 x0_33 x0_34 x0_35 x0_36 x0_37 x0_38 x0_39 x0_40 x0_41 x0_42 x0_43 x0_44 x0_45 x0_46 x0_47 x1_0 x1_1 x1_2 x1_3 x1_4 x1_5 x1_6 x1_7 x1_8 x1_9 x1_10 x1_11 W hx0_0 hx0_1 hx0_2 hx0_3 hx0_4 hx0_5 hx0_6 hx0_7 hx0_8 hx0_9 hx0_10 hx0_11 hx0_12 hx0_13 hx0_14 hx0_15 hx0_16 hx0_17 hx0_18 hx0_19 hx0_20 hx0_21 hx0_22 hx0_23 hx0_24 hx0_25 hx0_26 hx0_27 hx0_28 hx0_29 hx0_30 hx0_31 hx0_32 hx0_33 hx0_34 hx0_35 hx0_36 hx0_37 hx0_38 hx0_39 hx0_40 hx0_41 hx0_42 hx0_43 hx0_44 hx0_45 hx0_46 hx0_47 hx1_0 hx1_1 hx1_2 hx1_3 hx1_4 hx1_5 hx1_6 hx1_7 hx1_8 hx1_9 hx1_10 hx1_11 hl).mono fun e W' ⟨he, bel⟩ => ?_
  subst he
  exact ⟨_, rfl, _, _, _, [], _, [], hW', trodAll_mk1 (shut_bool Tryd.underlying4 _), (trodAll_cons_mk (Below.trod laid_out (by kernel_rfl) (of_decide_eq_true (by kernel_rfl)) h0 bel lt0) (trodAll_cons_mk (Below.trod laid_out (by kernel_rfl) (of_decide_eq_true (by kernel_rfl)) h1 bel lt1) trodAll_mk0)), rfl, bel.frame _, fun h => by cases h⟩

set_option maxHeartbeats 64000000 in
set_option maxRecDepth 1000000 in
theorem over : Rows.FnExactTableApplySaid :=
  OpenClaim.holds_of_wide 3 Tryd.f3 rfl rfl rfl rfl rfl rfl rfl ⟨rfl, rfl, rfl, rfl, rfl⟩ rfl rfl rfl rfl rfl (by as_aux_lemma => kernel_rfl) Tryd.func3 (by
      unfold joinedFacts
      repeat' (with_reducible refine bothB ?_ ?_)
      all_goals as_aux_lemma => kernel_rfl)
    (of_decide_eq_true (by as_aux_lemma => kernel_rfl)) (by unfold Func.isWrapper; first | (rw [if_pos (by decide +kernel)]; kernel_rfl) | (rw [if_neg (by decide +kernel)]; exact ⟨rfl, rfl⟩))
    (fun os started H enc _ => lifted os started H enc)

set_option maxHeartbeats 64000000 in
set_option maxRecDepth 1000000 in
theorem proved : Rows.FnExactTableApplyCardSaid :=
  Claim7.holds_tied_plain_at .later [] [.handle] true (true, "f1fa66cb40450b098b60e1f4854aa7dac12cc0c21cd9b6f954bc8cbd139b9a2f") true
    over (fun _ h => by cases h) (by as_aux_lemma => kernel_rfl) (fun _ h => by cases h) fnExactTableApply_row_tie rfl ⟨rfl, rfl⟩ (by as_aux_lemma => kernel_rfl) rfl
    (fun f fn hf hfn => by
      obtain rfl : f = 3 := Option.some.inj ((show Tryd.prog.funcNamed "loop.example/polarisedlight/laws.FnExactTableApply" = some 3 by as_aux_lemma => kernel_rfl).symm.trans hf) |>.symm
      obtain rfl : fn = Tryd.f3 := (Option.some.inj (Tryd.func3.symm.trans hfn)).symm
      exact ⟨by as_aux_lemma => kernel_rfl, fun j t ht => by
        rw [Tryd.params3] at ht
        have hm : t ∈ [26, 29] := by simpa using Array.mem_of_getElem? ht
        have hall : ([26, 29].all fun u => !Tryd.prog.wantsStandIn u) = true := by as_aux_lemma => kernel_rfl
        exact (show Tryd.prog.wantsStandIn t = false by simpa using List.all_eq_true.1 hall t hm)⟩)
    (by as_aux_lemma => kernel_rfl)
#print axioms proved
end Go.Proofs.YtgmpbdndkjnbfaaDoor.fnExactTableApply
