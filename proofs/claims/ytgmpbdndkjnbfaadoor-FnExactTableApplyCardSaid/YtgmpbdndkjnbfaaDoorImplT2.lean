/-
  The program's tables: valid or not.
-/
import Derived.Test.YtgmpbdndkjnbfaaDoorImplT1
namespace Go.Proofs.YtgmpbdndkjnbfaaDoor
open Go.ChangeShapes Go.WideShapes Go.ChangeAt Go.RowKit
set_option linter.unusedVariables false

set_option maxRecDepth 100000 in
set_option maxHeartbeats 40000000 in
theorem tcheck_any (m0a m0b m0c m1a m1b m1c m2a m2b m2c m3a m3b m3c m4a m4b m4c m5a m5b m5c m6a m6b m6c m7a m7b m7c m8a m8b m8c m9a m9b m9c m10a m10b m10c m11a m11b m11c m12a m12b m12c m13a m13b m13c m14a m14b m14c m15a m15b m15c : Int) (hm0a : i64B m0a) (hm0b : i64B m0b) (hm0c : i64B m0c) (hm1a : i64B m1a) (hm1b : i64B m1b) (hm1c : i64B m1c) (hm2a : i64B m2a) (hm2b : i64B m2b) (hm2c : i64B m2c) (hm3a : i64B m3a) (hm3b : i64B m3b) (hm3c : i64B m3c) (hm4a : i64B m4a) (hm4b : i64B m4b) (hm4c : i64B m4c) (hm5a : i64B m5a) (hm5b : i64B m5b) (hm5c : i64B m5c) (hm6a : i64B m6a) (hm6b : i64B m6b) (hm6c : i64B m6c) (hm7a : i64B m7a) (hm7b : i64B m7b) (hm7c : i64B m7c) (hm8a : i64B m8a) (hm8b : i64B m8b) (hm8c : i64B m8c) (hm9a : i64B m9a) (hm9b : i64B m9b) (hm9c : i64B m9c) (hm10a : i64B m10a) (hm10b : i64B m10b) (hm10c : i64B m10c) (hm11a : i64B m11a) (hm11b : i64B m11b) (hm11c : i64B m11c) (hm12a : i64B m12a) (hm12b : i64B m12b) (hm12c : i64B m12c) (hm13a : i64B m13a) (hm13b : i64B m13b) (hm13c : i64B m13c) (hm14a : i64B m14a) (hm14b : i64B m14b) (hm14c : i64B m14c) (hm15a : i64B m15a) (hm15b : i64B m15b) (hm15c : i64B m15c) (w : World) :
    Calls Tryd.prog 39 #[.agg #[.int .i64 m0a, .int .i64 m0b, .int .i64 m0c, .int .i64 m1a, .int .i64 m1b, .int .i64 m1c, .int .i64 m2a, .int .i64 m2b, .int .i64 m2c, .int .i64 m3a, .int .i64 m3b, .int .i64 m3c, .int .i64 m4a, .int .i64 m4b, .int .i64 m4c, .int .i64 m5a, .int .i64 m5b, .int .i64 m5c, .int .i64 m6a, .int .i64 m6b, .int .i64 m6c, .int .i64 m7a, .int .i64 m7b, .int .i64 m7c, .int .i64 m8a, .int .i64 m8b, .int .i64 m8c, .int .i64 m9a, .int .i64 m9b, .int .i64 m9c, .int .i64 m10a, .int .i64 m10b, .int .i64 m10c, .int .i64 m11a, .int .i64 m11b, .int .i64 m11c, .int .i64 m12a, .int .i64 m12b, .int .i64 m12c, .int .i64 m13a, .int .i64 m13b, .int .i64 m13c, .int .i64 m14a, .int .i64 m14b, .int .i64 m14c, .int .i64 m15a, .int .i64 m15b, .int .i64 m15c]] w (Checked (okTb (((m0a, m0b, m0c), (m1a, m1b, m1c), (m2a, m2b, m2c), (m3a, m3b, m3c)), ((m4a, m4b, m4c), (m5a, m5b, m5c), (m6a, m6b, m6c), (m7a, m7b, m7c)), ((m8a, m8b, m8c), (m9a, m9b, m9c), (m10a, m10b, m10c), (m11a, m11b, m11c)), ((m12a, m12b, m12c), (m13a, m13b, m13c), (m14a, m14b, m14c), (m15a, m15b, m15c)))) w) := by
  have H0 := Lib.hid fun w => checkReal_any m0a m0b m0c w hm0a hm0b hm0c
  have H1 := Lib.hid fun w => checkReal_any m1a m1b m1c w hm1a hm1b hm1c
  have H2 := Lib.hid fun w => checkReal_any m2a m2b m2c w hm2a hm2b hm2c
  have H3 := Lib.hid fun w => checkReal_any m3a m3b m3c w hm3a hm3b hm3c
  have H4 := Lib.hid fun w => checkReal_any m4a m4b m4c w hm4a hm4b hm4c
  have H5 := Lib.hid fun w => checkReal_any m5a m5b m5c w hm5a hm5b hm5c
  have H6 := Lib.hid fun w => checkReal_any m6a m6b m6c w hm6a hm6b hm6c
  have H7 := Lib.hid fun w => checkReal_any m7a m7b m7c w hm7a hm7b hm7c
  have H8 := Lib.hid fun w => checkReal_any m8a m8b m8c w hm8a hm8b hm8c
  have H9 := Lib.hid fun w => checkReal_any m9a m9b m9c w hm9a hm9b hm9c
  have H10 := Lib.hid fun w => checkReal_any m10a m10b m10c w hm10a hm10b hm10c
  have H11 := Lib.hid fun w => checkReal_any m11a m11b m11c w hm11a hm11b hm11c
  have H12 := Lib.hid fun w => checkReal_any m12a m12b m12c w hm12a hm12b hm12c
  have H13 := Lib.hid fun w => checkReal_any m13a m13b m13c w hm13a hm13b hm13c
  have H14 := Lib.hid fun w => checkReal_any m14a m14b m14c w hm14a hm14b hm14c
  have H15 := Lib.hid fun w => checkReal_any m15a m15b m15c w hm15a hm15b hm15c
  clear hm0a hm0b hm0c hm1a hm1b hm1c hm2a hm2b hm2c hm3a hm3b hm3c hm4a hm4b hm4c hm5a hm5b hm5c hm6a hm6b hm6c hm7a hm7b hm7c hm8a hm8b hm8c hm9a hm9b hm9c hm10a hm10b hm10c hm11a hm11b hm11c hm12a hm12b hm12c hm13a hm13b hm13c hm14a hm14b hm14c hm15a hm15b hm15c
  obtain ⟨k0, hv⟩ : ∃ k, rlT (m0a, m0b, m0c) = k := ⟨_, rfl⟩
  have K0 := Lib.hid hv
  clear hv
  obtain ⟨k1, hv⟩ : ∃ k, rlT (m1a, m1b, m1c) = k := ⟨_, rfl⟩
  have K1 := Lib.hid hv
  clear hv
  obtain ⟨k2, hv⟩ : ∃ k, rlT (m2a, m2b, m2c) = k := ⟨_, rfl⟩
  have K2 := Lib.hid hv
  clear hv
  obtain ⟨k3, hv⟩ : ∃ k, rlT (m3a, m3b, m3c) = k := ⟨_, rfl⟩
  have K3 := Lib.hid hv
  clear hv
  obtain ⟨k4, hv⟩ : ∃ k, rlT (m4a, m4b, m4c) = k := ⟨_, rfl⟩
  have K4 := Lib.hid hv
  clear hv
  obtain ⟨k5, hv⟩ : ∃ k, rlT (m5a, m5b, m5c) = k := ⟨_, rfl⟩
  have K5 := Lib.hid hv
  clear hv
  obtain ⟨k6, hv⟩ : ∃ k, rlT (m6a, m6b, m6c) = k := ⟨_, rfl⟩
  have K6 := Lib.hid hv
  clear hv
  obtain ⟨k7, hv⟩ : ∃ k, rlT (m7a, m7b, m7c) = k := ⟨_, rfl⟩
  have K7 := Lib.hid hv
  clear hv
  obtain ⟨k8, hv⟩ : ∃ k, rlT (m8a, m8b, m8c) = k := ⟨_, rfl⟩
  have K8 := Lib.hid hv
  clear hv
  obtain ⟨k9, hv⟩ : ∃ k, rlT (m9a, m9b, m9c) = k := ⟨_, rfl⟩
  have K9 := Lib.hid hv
  clear hv
  obtain ⟨k10, hv⟩ : ∃ k, rlT (m10a, m10b, m10c) = k := ⟨_, rfl⟩
  have K10 := Lib.hid hv
  clear hv
  obtain ⟨k11, hv⟩ : ∃ k, rlT (m11a, m11b, m11c) = k := ⟨_, rfl⟩
  have K11 := Lib.hid hv
  clear hv
  obtain ⟨k12, hv⟩ : ∃ k, rlT (m12a, m12b, m12c) = k := ⟨_, rfl⟩
  have K12 := Lib.hid hv
  clear hv
  obtain ⟨k13, hv⟩ : ∃ k, rlT (m13a, m13b, m13c) = k := ⟨_, rfl⟩
  have K13 := Lib.hid hv
  clear hv
  obtain ⟨k14, hv⟩ : ∃ k, rlT (m14a, m14b, m14c) = k := ⟨_, rfl⟩
  have K14 := Lib.hid hv
  clear hv
  obtain ⟨k15, hv⟩ : ∃ k, rlT (m15a, m15b, m15c) = k := ⟨_, rfl⟩
  have K15 := Lib.hid hv
  clear hv
  obtain ⟨o, E⟩ : ∃ o, okTb (((m0a, m0b, m0c), (m1a, m1b, m1c), (m2a, m2b, m2c), (m3a, m3b, m3c)), ((m4a, m4b, m4c), (m5a, m5b, m5c), (m6a, m6b, m6c), (m7a, m7b, m7c)), ((m8a, m8b, m8c), (m9a, m9b, m9c), (m10a, m10b, m10c), (m11a, m11b, m11c)), ((m12a, m12b, m12c), (m13a, m13b, m13c), (m14a, m14b, m14c), (m15a, m15b, m15c))) = o := ⟨_, rfl⟩
  rw [E]
  have HE := Lib.hid E
  clear E
  have HI2 : RowKit.Hid ((Tryd.prog.info? 63).map (·.size) = some 48) := Lib.hid (by kernel_rfl)
  go_enter Tryd.func39, Tryd.ntmps39
  go_wp2_with (refine wpList_load_mid rfl 63 _ rfl (w.heap.size) 0 rfl [.int .i64 m0a, .int .i64 m0b, .int .i64 m0c, .int .i64 m1a, .int .i64 m1b, .int .i64 m1c, .int .i64 m2a, .int .i64 m2b, .int .i64 m2c, .int .i64 m3a, .int .i64 m3b, .int .i64 m3c, .int .i64 m4a, .int .i64 m4b, .int .i64 m4c, .int .i64 m5a, .int .i64 m5b, .int .i64 m5c, .int .i64 m6a, .int .i64 m6b, .int .i64 m6c, .int .i64 m7a, .int .i64 m7b, .int .i64 m7c, .int .i64 m8a, .int .i64 m8b, .int .i64 m8c, .int .i64 m9a, .int .i64 m9b, .int .i64 m9c, .int .i64 m10a, .int .i64 m10b, .int .i64 m10c, .int .i64 m11a, .int .i64 m11b, .int .i64 m11c, .int .i64 m12a, .int .i64 m12b, .int .i64 m12c, .int .i64 m13a, .int .i64 m13b, .int .i64 m13c, .int .i64 m14a, .int .i64 m14b, .int .i64 m14c, .int .i64 m15a, .int .i64 m15b, .int .i64 m15c] _ ?hc Tryd.underlying63 rfl HI2.out ?_)
  case hc =>
    refine range_of (Blk.cell ?_)
    (repeat' (first | (with_reducible first | assumption | refine Blk.drew ?_ | refine Blk.drewN ?_ _ | apply Blk.set | (refine Blk.new ?_; focus (first | rfl | (simp; done))) | refine Blk.alloc ?_ _ | refine Blk.other ?_ ?_ _) | exact eqL rfl | (refine neB ?_; omega)))
  clear HI2
  refine wp_loop_rounds 5 ?_
  rw [rounds_succ]
  have ix := ixRow_0 m0a m0b m0c m1a m1b m1c m2a m2b m2c m3a m3b m3c m4a m4b m4c m5a m5b m5c m6a m6b m6c m7a m7b m7c m8a m8b m8c m9a m9b m9c m10a m10b m10c m11a m11b m11c m12a m12b m12c m13a m13b m13c m14a m14b m14c m15a m15b m15c
  go_wp2_with fail
  clear ix
  refine wp_loop_rounds 5 ?_
  rw [rounds_succ]
  have ix := ix4_0 m0a m0b m0c m1a m1b m1c m2a m2b m2c m3a m3b m3c
  go_wp2_with fail
  clear ix
  refine (H0.out _).mono ?_
  rintro e W1 ⟨h1, h2, hb⟩
  have kaW1 : Acc w W1 := by
    refine Acc.call ?_ hb
    (repeat' (first | (with_reducible first | assumption | exact Acc.refl _ | refine Acc.drew ?_ | refine Acc.drewN ?_ _ | refine Acc.alloc ?_ _ | refine Acc.setCell ?_ ?_ _) | (refine leB ?_; omega)))
  clear hb
  cases k0 with
  | false =>
    obtain rfl : o = false := HE.out.symm.trans (by unfold okTb rl4; simp [K0.out])
    obtain ⟨s, rfl⟩ := h2 (show _ = false from K0.out)
    clear h1 h2
    go_wp2_with fail
    go_ret
    refine ⟨fun h => (by cases h), fun _ => ⟨_, rfl⟩, ?_⟩
    show Acc w _
    (repeat' (first | (with_reducible first | assumption | exact Acc.refl _ | refine Acc.drew ?_ | refine Acc.drewN ?_ _ | refine Acc.alloc ?_ _ | refine Acc.setCell ?_ ?_ _) | (refine leB ?_; omega)))
  | true =>
    obtain rfl := h1 (show _ = true from K0.out)
    clear h1 h2
    go_wp2_with fail
    rw [rounds_succ]
    have ix := ix4_1 m0a m0b m0c m1a m1b m1c m2a m2b m2c m3a m3b m3c
    go_wp2_with fail
    clear ix
    refine (H1.out _).mono ?_
    rintro e W2 ⟨h1, h2, hb⟩
    have kaW2 : Acc w W2 := by
      refine Acc.call ?_ hb
      (repeat' (first | (with_reducible first | assumption | exact Acc.refl _ | refine Acc.drew ?_ | refine Acc.drewN ?_ _ | refine Acc.alloc ?_ _ | refine Acc.setCell ?_ ?_ _) | (refine leB ?_; omega)))
    clear hb
    clear kaW1
    cases k1 with
    | false =>
      obtain rfl : o = false := HE.out.symm.trans (by unfold okTb rl4; simp [K1.out])
      obtain ⟨s, rfl⟩ := h2 (show _ = false from K1.out)
      clear h1 h2
      go_wp2_with fail
      go_ret
      refine ⟨fun h => (by cases h), fun _ => ⟨_, rfl⟩, ?_⟩
      show Acc w _
      (repeat' (first | (with_reducible first | assumption | exact Acc.refl _ | refine Acc.drew ?_ | refine Acc.drewN ?_ _ | refine Acc.alloc ?_ _ | refine Acc.setCell ?_ ?_ _) | (refine leB ?_; omega)))
    | true =>
      obtain rfl := h1 (show _ = true from K1.out)
      clear h1 h2
      go_wp2_with fail
      rw [rounds_succ]
      have ix := ix4_2 m0a m0b m0c m1a m1b m1c m2a m2b m2c m3a m3b m3c
      go_wp2_with fail
      clear ix
      refine (H2.out _).mono ?_
      rintro e W3 ⟨h1, h2, hb⟩
      have kaW3 : Acc w W3 := by
        refine Acc.call ?_ hb
        (repeat' (first | (with_reducible first | assumption | exact Acc.refl _ | refine Acc.drew ?_ | refine Acc.drewN ?_ _ | refine Acc.alloc ?_ _ | refine Acc.setCell ?_ ?_ _) | (refine leB ?_; omega)))
      clear hb
      clear kaW2
      cases k2 with
      | false =>
        obtain rfl : o = false := HE.out.symm.trans (by unfold okTb rl4; simp [K2.out])
        obtain ⟨s, rfl⟩ := h2 (show _ = false from K2.out)
        clear h1 h2
        go_wp2_with fail
        go_ret
        refine ⟨fun h => (by cases h), fun _ => ⟨_, rfl⟩, ?_⟩
        show Acc w _
        (repeat' (first | (with_reducible first | assumption | exact Acc.refl _ | refine Acc.drew ?_ | refine Acc.drewN ?_ _ | refine Acc.alloc ?_ _ | refine Acc.setCell ?_ ?_ _) | (refine leB ?_; omega)))
      | true =>
        obtain rfl := h1 (show _ = true from K2.out)
        clear h1 h2
        go_wp2_with fail
        rw [rounds_succ]
        have ix := ix4_3 m0a m0b m0c m1a m1b m1c m2a m2b m2c m3a m3b m3c
        go_wp2_with fail
        clear ix
        refine (H3.out _).mono ?_
        rintro e W4 ⟨h1, h2, hb⟩
        have kaW4 : Acc w W4 := by
          refine Acc.call ?_ hb
          (repeat' (first | (with_reducible first | assumption | exact Acc.refl _ | refine Acc.drew ?_ | refine Acc.drewN ?_ _ | refine Acc.alloc ?_ _ | refine Acc.setCell ?_ ?_ _) | (refine leB ?_; omega)))
        clear hb
        clear kaW3
        cases k3 with
        | false =>
          obtain rfl : o = false := HE.out.symm.trans (by unfold okTb rl4; simp [K3.out])
          obtain ⟨s, rfl⟩ := h2 (show _ = false from K3.out)
          clear h1 h2
          go_wp2_with fail
          go_ret
          refine ⟨fun h => (by cases h), fun _ => ⟨_, rfl⟩, ?_⟩
          show Acc w _
          (repeat' (first | (with_reducible first | assumption | exact Acc.refl _ | refine Acc.drew ?_ | refine Acc.drewN ?_ _ | refine Acc.alloc ?_ _ | refine Acc.setCell ?_ ?_ _) | (refine leB ?_; omega)))
        | true =>
          obtain rfl := h1 (show _ = true from K3.out)
          clear h1 h2
          go_wp2_with fail
          rw [rounds_succ]
          go_wp2_with fail
          rw [rounds_succ]
          have ix := ixRow_1 m0a m0b m0c m1a m1b m1c m2a m2b m2c m3a m3b m3c m4a m4b m4c m5a m5b m5c m6a m6b m6c m7a m7b m7c m8a m8b m8c m9a m9b m9c m10a m10b m10c m11a m11b m11c m12a m12b m12c m13a m13b m13c m14a m14b m14c m15a m15b m15c
          go_wp2_with fail
          clear ix
          refine wp_loop_rounds 5 ?_
          rw [rounds_succ]
          have ix := ix4_0 m4a m4b m4c m5a m5b m5c m6a m6b m6c m7a m7b m7c
          go_wp2_with fail
          clear ix
          refine (H4.out _).mono ?_
          rintro e W5 ⟨h1, h2, hb⟩
          have kaW5 : Acc w W5 := by
            refine Acc.call ?_ hb
            (repeat' (first | (with_reducible first | assumption | exact Acc.refl _ | refine Acc.drew ?_ | refine Acc.drewN ?_ _ | refine Acc.alloc ?_ _ | refine Acc.setCell ?_ ?_ _) | (refine leB ?_; omega)))
          clear hb
          clear kaW4
          cases k4 with
          | false =>
            obtain rfl : o = false := HE.out.symm.trans (by unfold okTb rl4; simp [K4.out])
            obtain ⟨s, rfl⟩ := h2 (show _ = false from K4.out)
            clear h1 h2
            go_wp2_with fail
            go_ret
            refine ⟨fun h => (by cases h), fun _ => ⟨_, rfl⟩, ?_⟩
            show Acc w _
            (repeat' (first | (with_reducible first | assumption | exact Acc.refl _ | refine Acc.drew ?_ | refine Acc.drewN ?_ _ | refine Acc.alloc ?_ _ | refine Acc.setCell ?_ ?_ _) | (refine leB ?_; omega)))
          | true =>
            obtain rfl := h1 (show _ = true from K4.out)
            clear h1 h2
            go_wp2_with fail
            rw [rounds_succ]
            have ix := ix4_1 m4a m4b m4c m5a m5b m5c m6a m6b m6c m7a m7b m7c
            go_wp2_with fail
            clear ix
            refine (H5.out _).mono ?_
            rintro e W6 ⟨h1, h2, hb⟩
            have kaW6 : Acc w W6 := by
              refine Acc.call ?_ hb
              (repeat' (first | (with_reducible first | assumption | exact Acc.refl _ | refine Acc.drew ?_ | refine Acc.drewN ?_ _ | refine Acc.alloc ?_ _ | refine Acc.setCell ?_ ?_ _) | (refine leB ?_; omega)))
            clear hb
            clear kaW5
            cases k5 with
            | false =>
              obtain rfl : o = false := HE.out.symm.trans (by unfold okTb rl4; simp [K5.out])
              obtain ⟨s, rfl⟩ := h2 (show _ = false from K5.out)
              clear h1 h2
              go_wp2_with fail
              go_ret
              refine ⟨fun h => (by cases h), fun _ => ⟨_, rfl⟩, ?_⟩
              show Acc w _
              (repeat' (first | (with_reducible first | assumption | exact Acc.refl _ | refine Acc.drew ?_ | refine Acc.drewN ?_ _ | refine Acc.alloc ?_ _ | refine Acc.setCell ?_ ?_ _) | (refine leB ?_; omega)))
            | true =>
              obtain rfl := h1 (show _ = true from K5.out)
              clear h1 h2
              go_wp2_with fail
              rw [rounds_succ]
              have ix := ix4_2 m4a m4b m4c m5a m5b m5c m6a m6b m6c m7a m7b m7c
              go_wp2_with fail
              clear ix
              refine (H6.out _).mono ?_
              rintro e W7 ⟨h1, h2, hb⟩
              have kaW7 : Acc w W7 := by
                refine Acc.call ?_ hb
                (repeat' (first | (with_reducible first | assumption | exact Acc.refl _ | refine Acc.drew ?_ | refine Acc.drewN ?_ _ | refine Acc.alloc ?_ _ | refine Acc.setCell ?_ ?_ _) | (refine leB ?_; omega)))
              clear hb
              clear kaW6
              cases k6 with
              | false =>
                obtain rfl : o = false := HE.out.symm.trans (by unfold okTb rl4; simp [K6.out])
                obtain ⟨s, rfl⟩ := h2 (show _ = false from K6.out)
                clear h1 h2
                go_wp2_with fail
                go_ret
                refine ⟨fun h => (by cases h), fun _ => ⟨_, rfl⟩, ?_⟩
                show Acc w _
                (repeat' (first | (with_reducible first | assumption | exact Acc.refl _ | refine Acc.drew ?_ | refine Acc.drewN ?_ _ | refine Acc.alloc ?_ _ | refine Acc.setCell ?_ ?_ _) | (refine leB ?_; omega)))
              | true =>
                obtain rfl := h1 (show _ = true from K6.out)
                clear h1 h2
                go_wp2_with fail
                rw [rounds_succ]
                have ix := ix4_3 m4a m4b m4c m5a m5b m5c m6a m6b m6c m7a m7b m7c
                go_wp2_with fail
                clear ix
                refine (H7.out _).mono ?_
                rintro e W8 ⟨h1, h2, hb⟩
                have kaW8 : Acc w W8 := by
                  refine Acc.call ?_ hb
                  (repeat' (first | (with_reducible first | assumption | exact Acc.refl _ | refine Acc.drew ?_ | refine Acc.drewN ?_ _ | refine Acc.alloc ?_ _ | refine Acc.setCell ?_ ?_ _) | (refine leB ?_; omega)))
                clear hb
                clear kaW7
                cases k7 with
                | false =>
                  obtain rfl : o = false := HE.out.symm.trans (by unfold okTb rl4; simp [K7.out])
                  obtain ⟨s, rfl⟩ := h2 (show _ = false from K7.out)
                  clear h1 h2
                  go_wp2_with fail
                  go_ret
                  refine ⟨fun h => (by cases h), fun _ => ⟨_, rfl⟩, ?_⟩
                  show Acc w _
                  (repeat' (first | (with_reducible first | assumption | exact Acc.refl _ | refine Acc.drew ?_ | refine Acc.drewN ?_ _ | refine Acc.alloc ?_ _ | refine Acc.setCell ?_ ?_ _) | (refine leB ?_; omega)))
                | true =>
                  obtain rfl := h1 (show _ = true from K7.out)
                  clear h1 h2
                  go_wp2_with fail
                  rw [rounds_succ]
                  go_wp2_with fail
                  rw [rounds_succ]
                  have ix := ixRow_2 m0a m0b m0c m1a m1b m1c m2a m2b m2c m3a m3b m3c m4a m4b m4c m5a m5b m5c m6a m6b m6c m7a m7b m7c m8a m8b m8c m9a m9b m9c m10a m10b m10c m11a m11b m11c m12a m12b m12c m13a m13b m13c m14a m14b m14c m15a m15b m15c
                  go_wp2_with fail
                  clear ix
                  refine wp_loop_rounds 5 ?_
                  rw [rounds_succ]
                  have ix := ix4_0 m8a m8b m8c m9a m9b m9c m10a m10b m10c m11a m11b m11c
                  go_wp2_with fail
                  clear ix
                  refine (H8.out _).mono ?_
                  rintro e W9 ⟨h1, h2, hb⟩
                  have kaW9 : Acc w W9 := by
                    refine Acc.call ?_ hb
                    (repeat' (first | (with_reducible first | assumption | exact Acc.refl _ | refine Acc.drew ?_ | refine Acc.drewN ?_ _ | refine Acc.alloc ?_ _ | refine Acc.setCell ?_ ?_ _) | (refine leB ?_; omega)))
                  clear hb
                  clear kaW8
                  cases k8 with
                  | false =>
                    obtain rfl : o = false := HE.out.symm.trans (by unfold okTb rl4; simp [K8.out])
                    obtain ⟨s, rfl⟩ := h2 (show _ = false from K8.out)
                    clear h1 h2
                    go_wp2_with fail
                    go_ret
                    refine ⟨fun h => (by cases h), fun _ => ⟨_, rfl⟩, ?_⟩
                    show Acc w _
                    (repeat' (first | (with_reducible first | assumption | exact Acc.refl _ | refine Acc.drew ?_ | refine Acc.drewN ?_ _ | refine Acc.alloc ?_ _ | refine Acc.setCell ?_ ?_ _) | (refine leB ?_; omega)))
                  | true =>
                    obtain rfl := h1 (show _ = true from K8.out)
                    clear h1 h2
                    go_wp2_with fail
                    rw [rounds_succ]
                    have ix := ix4_1 m8a m8b m8c m9a m9b m9c m10a m10b m10c m11a m11b m11c
                    go_wp2_with fail
                    clear ix
                    refine (H9.out _).mono ?_
                    rintro e W10 ⟨h1, h2, hb⟩
                    have kaW10 : Acc w W10 := by
                      refine Acc.call ?_ hb
                      (repeat' (first | (with_reducible first | assumption | exact Acc.refl _ | refine Acc.drew ?_ | refine Acc.drewN ?_ _ | refine Acc.alloc ?_ _ | refine Acc.setCell ?_ ?_ _) | (refine leB ?_; omega)))
                    clear hb
                    clear kaW9
                    cases k9 with
                    | false =>
                      obtain rfl : o = false := HE.out.symm.trans (by unfold okTb rl4; simp [K9.out])
                      obtain ⟨s, rfl⟩ := h2 (show _ = false from K9.out)
                      clear h1 h2
                      go_wp2_with fail
                      go_ret
                      refine ⟨fun h => (by cases h), fun _ => ⟨_, rfl⟩, ?_⟩
                      show Acc w _
                      (repeat' (first | (with_reducible first | assumption | exact Acc.refl _ | refine Acc.drew ?_ | refine Acc.drewN ?_ _ | refine Acc.alloc ?_ _ | refine Acc.setCell ?_ ?_ _) | (refine leB ?_; omega)))
                    | true =>
                      obtain rfl := h1 (show _ = true from K9.out)
                      clear h1 h2
                      go_wp2_with fail
                      rw [rounds_succ]
                      have ix := ix4_2 m8a m8b m8c m9a m9b m9c m10a m10b m10c m11a m11b m11c
                      go_wp2_with fail
                      clear ix
                      refine (H10.out _).mono ?_
                      rintro e W11 ⟨h1, h2, hb⟩
                      have kaW11 : Acc w W11 := by
                        refine Acc.call ?_ hb
                        (repeat' (first | (with_reducible first | assumption | exact Acc.refl _ | refine Acc.drew ?_ | refine Acc.drewN ?_ _ | refine Acc.alloc ?_ _ | refine Acc.setCell ?_ ?_ _) | (refine leB ?_; omega)))
                      clear hb
                      clear kaW10
                      cases k10 with
                      | false =>
                        obtain rfl : o = false := HE.out.symm.trans (by unfold okTb rl4; simp [K10.out])
                        obtain ⟨s, rfl⟩ := h2 (show _ = false from K10.out)
                        clear h1 h2
                        go_wp2_with fail
                        go_ret
                        refine ⟨fun h => (by cases h), fun _ => ⟨_, rfl⟩, ?_⟩
                        show Acc w _
                        (repeat' (first | (with_reducible first | assumption | exact Acc.refl _ | refine Acc.drew ?_ | refine Acc.drewN ?_ _ | refine Acc.alloc ?_ _ | refine Acc.setCell ?_ ?_ _) | (refine leB ?_; omega)))
                      | true =>
                        obtain rfl := h1 (show _ = true from K10.out)
                        clear h1 h2
                        go_wp2_with fail
                        rw [rounds_succ]
                        have ix := ix4_3 m8a m8b m8c m9a m9b m9c m10a m10b m10c m11a m11b m11c
                        go_wp2_with fail
                        clear ix
                        refine (H11.out _).mono ?_
                        rintro e W12 ⟨h1, h2, hb⟩
                        have kaW12 : Acc w W12 := by
                          refine Acc.call ?_ hb
                          (repeat' (first | (with_reducible first | assumption | exact Acc.refl _ | refine Acc.drew ?_ | refine Acc.drewN ?_ _ | refine Acc.alloc ?_ _ | refine Acc.setCell ?_ ?_ _) | (refine leB ?_; omega)))
                        clear hb
                        clear kaW11
                        cases k11 with
                        | false =>
                          obtain rfl : o = false := HE.out.symm.trans (by unfold okTb rl4; simp [K11.out])
                          obtain ⟨s, rfl⟩ := h2 (show _ = false from K11.out)
                          clear h1 h2
                          go_wp2_with fail
                          go_ret
                          refine ⟨fun h => (by cases h), fun _ => ⟨_, rfl⟩, ?_⟩
                          show Acc w _
                          (repeat' (first | (with_reducible first | assumption | exact Acc.refl _ | refine Acc.drew ?_ | refine Acc.drewN ?_ _ | refine Acc.alloc ?_ _ | refine Acc.setCell ?_ ?_ _) | (refine leB ?_; omega)))
                        | true =>
                          obtain rfl := h1 (show _ = true from K11.out)
                          clear h1 h2
                          go_wp2_with fail
                          rw [rounds_succ]
                          go_wp2_with fail
                          rw [rounds_succ]
                          have ix := ixRow_3 m0a m0b m0c m1a m1b m1c m2a m2b m2c m3a m3b m3c m4a m4b m4c m5a m5b m5c m6a m6b m6c m7a m7b m7c m8a m8b m8c m9a m9b m9c m10a m10b m10c m11a m11b m11c m12a m12b m12c m13a m13b m13c m14a m14b m14c m15a m15b m15c
                          go_wp2_with fail
                          clear ix
                          refine wp_loop_rounds 5 ?_
                          rw [rounds_succ]
                          have ix := ix4_0 m12a m12b m12c m13a m13b m13c m14a m14b m14c m15a m15b m15c
                          go_wp2_with fail
                          clear ix
                          refine (H12.out _).mono ?_
                          rintro e W13 ⟨h1, h2, hb⟩
                          have kaW13 : Acc w W13 := by
                            refine Acc.call ?_ hb
                            (repeat' (first | (with_reducible first | assumption | exact Acc.refl _ | refine Acc.drew ?_ | refine Acc.drewN ?_ _ | refine Acc.alloc ?_ _ | refine Acc.setCell ?_ ?_ _) | (refine leB ?_; omega)))
                          clear hb
                          clear kaW12
                          cases k12 with
                          | false =>
                            obtain rfl : o = false := HE.out.symm.trans (by unfold okTb rl4; simp [K12.out])
                            obtain ⟨s, rfl⟩ := h2 (show _ = false from K12.out)
                            clear h1 h2
                            go_wp2_with fail
                            go_ret
                            refine ⟨fun h => (by cases h), fun _ => ⟨_, rfl⟩, ?_⟩
                            show Acc w _
                            (repeat' (first | (with_reducible first | assumption | exact Acc.refl _ | refine Acc.drew ?_ | refine Acc.drewN ?_ _ | refine Acc.alloc ?_ _ | refine Acc.setCell ?_ ?_ _) | (refine leB ?_; omega)))
                          | true =>
                            obtain rfl := h1 (show _ = true from K12.out)
                            clear h1 h2
                            go_wp2_with fail
                            rw [rounds_succ]
                            have ix := ix4_1 m12a m12b m12c m13a m13b m13c m14a m14b m14c m15a m15b m15c
                            go_wp2_with fail
                            clear ix
                            refine (H13.out _).mono ?_
                            rintro e W14 ⟨h1, h2, hb⟩
                            have kaW14 : Acc w W14 := by
                              refine Acc.call ?_ hb
                              (repeat' (first | (with_reducible first | assumption | exact Acc.refl _ | refine Acc.drew ?_ | refine Acc.drewN ?_ _ | refine Acc.alloc ?_ _ | refine Acc.setCell ?_ ?_ _) | (refine leB ?_; omega)))
                            clear hb
                            clear kaW13
                            cases k13 with
                            | false =>
                              obtain rfl : o = false := HE.out.symm.trans (by unfold okTb rl4; simp [K13.out])
                              obtain ⟨s, rfl⟩ := h2 (show _ = false from K13.out)
                              clear h1 h2
                              go_wp2_with fail
                              go_ret
                              refine ⟨fun h => (by cases h), fun _ => ⟨_, rfl⟩, ?_⟩
                              show Acc w _
                              (repeat' (first | (with_reducible first | assumption | exact Acc.refl _ | refine Acc.drew ?_ | refine Acc.drewN ?_ _ | refine Acc.alloc ?_ _ | refine Acc.setCell ?_ ?_ _) | (refine leB ?_; omega)))
                            | true =>
                              obtain rfl := h1 (show _ = true from K13.out)
                              clear h1 h2
                              go_wp2_with fail
                              rw [rounds_succ]
                              have ix := ix4_2 m12a m12b m12c m13a m13b m13c m14a m14b m14c m15a m15b m15c
                              go_wp2_with fail
                              clear ix
                              refine (H14.out _).mono ?_
                              rintro e W15 ⟨h1, h2, hb⟩
                              have kaW15 : Acc w W15 := by
                                refine Acc.call ?_ hb
                                (repeat' (first | (with_reducible first | assumption | exact Acc.refl _ | refine Acc.drew ?_ | refine Acc.drewN ?_ _ | refine Acc.alloc ?_ _ | refine Acc.setCell ?_ ?_ _) | (refine leB ?_; omega)))
                              clear hb
                              clear kaW14
                              cases k14 with
                              | false =>
                                obtain rfl : o = false := HE.out.symm.trans (by unfold okTb rl4; simp [K14.out])
                                obtain ⟨s, rfl⟩ := h2 (show _ = false from K14.out)
                                clear h1 h2
                                go_wp2_with fail
                                go_ret
                                refine ⟨fun h => (by cases h), fun _ => ⟨_, rfl⟩, ?_⟩
                                show Acc w _
                                (repeat' (first | (with_reducible first | assumption | exact Acc.refl _ | refine Acc.drew ?_ | refine Acc.drewN ?_ _ | refine Acc.alloc ?_ _ | refine Acc.setCell ?_ ?_ _) | (refine leB ?_; omega)))
                              | true =>
                                obtain rfl := h1 (show _ = true from K14.out)
                                clear h1 h2
                                go_wp2_with fail
                                rw [rounds_succ]
                                have ix := ix4_3 m12a m12b m12c m13a m13b m13c m14a m14b m14c m15a m15b m15c
                                go_wp2_with fail
                                clear ix
                                refine (H15.out _).mono ?_
                                rintro e W16 ⟨h1, h2, hb⟩
                                have kaW16 : Acc w W16 := by
                                  refine Acc.call ?_ hb
                                  (repeat' (first | (with_reducible first | assumption | exact Acc.refl _ | refine Acc.drew ?_ | refine Acc.drewN ?_ _ | refine Acc.alloc ?_ _ | refine Acc.setCell ?_ ?_ _) | (refine leB ?_; omega)))
                                clear hb
                                clear kaW15
                                cases k15 with
                                | false =>
                                  obtain rfl : o = false := HE.out.symm.trans (by unfold okTb rl4; simp [K15.out])
                                  obtain ⟨s, rfl⟩ := h2 (show _ = false from K15.out)
                                  clear h1 h2
                                  go_wp2_with fail
                                  go_ret
                                  refine ⟨fun h => (by cases h), fun _ => ⟨_, rfl⟩, ?_⟩
                                  show Acc w _
                                  (repeat' (first | (with_reducible first | assumption | exact Acc.refl _ | refine Acc.drew ?_ | refine Acc.drewN ?_ _ | refine Acc.alloc ?_ _ | refine Acc.setCell ?_ ?_ _) | (refine leB ?_; omega)))
                                | true =>
                                  obtain rfl := h1 (show _ = true from K15.out)
                                  clear h1 h2
                                  go_wp2_with fail
                                  rw [rounds_succ]
                                  go_wp2_with fail
                                  rw [rounds_succ]
                                  obtain rfl : o = true := HE.out.symm.trans (by unfold okTb rl4; simp [K0.out, K1.out, K2.out, K3.out, K4.out, K5.out, K6.out, K7.out, K8.out, K9.out, K10.out, K11.out, K12.out, K13.out, K14.out, K15.out])
                                  go_wp2_with fail
                                  go_ret
                                  refine ⟨fun _ => rfl, fun h => (by cases h), ?_⟩
                                  show Acc w _
                                  (repeat' (first | (with_reducible first | assumption | exact Acc.refl _ | refine Acc.drew ?_ | refine Acc.drewN ?_ _ | refine Acc.alloc ?_ _ | refine Acc.setCell ?_ ?_ _) | (refine leB ?_; omega)))
end Go.Proofs.YtgmpbdndkjnbfaaDoor
