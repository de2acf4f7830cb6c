/-
  The model: tables that are valid.
-/
import Derived.Test.YtgmpbdndkjnbfaaDoorBTabA
import Derived.Test.YtgmpbdndkjnbfaaDoorSpecS1
import Derived.Test.YtgmpbdndkjnbfaaDoorBMem
import Derived.Test.YtgmpbdndkjnbfaaDoorGaveOpen
namespace Go.Proofs.YtgmpbdndkjnbfaaDoor
open Go.ChangeShapes Go.WideShapes Go.ChangeAt Go.RowKit
set_option linter.unusedVariables false

set_option maxRecDepth 100000 in
set_option maxHeartbeats 40000000 in
theorem specTValid_any (m0a m0b m0c m1a m1b m1c m2a m2b m2c m3a m3b m3c m4a m4b m4c m5a m5b m5c m6a m6b m6c m7a m7b m7c m8a m8b m8c m9a m9b m9c m10a m10b m10c m11a m11b m11c m12a m12b m12c m13a m13b m13c m14a m14b m14c m15a m15b m15c : Int) (w : World) :
    Calls Tryd.prog 16 #[.agg #[.int .i64 m0a, .int .i64 m0b, .int .i64 m0c, .int .i64 m1a, .int .i64 m1b, .int .i64 m1c, .int .i64 m2a, .int .i64 m2b, .int .i64 m2c, .int .i64 m3a, .int .i64 m3b, .int .i64 m3c, .int .i64 m4a, .int .i64 m4b, .int .i64 m4c, .int .i64 m5a, .int .i64 m5b, .int .i64 m5c, .int .i64 m6a, .int .i64 m6b, .int .i64 m6c, .int .i64 m7a, .int .i64 m7b, .int .i64 m7c, .int .i64 m8a, .int .i64 m8b, .int .i64 m8c, .int .i64 m9a, .int .i64 m9b, .int .i64 m9c, .int .i64 m10a, .int .i64 m10b, .int .i64 m10c, .int .i64 m11a, .int .i64 m11b, .int .i64 m11c, .int .i64 m12a, .int .i64 m12b, .int .i64 m12c, .int .i64 m13a, .int .i64 m13b, .int .i64 m13c, .int .i64 m14a, .int .i64 m14b, .int .i64 m14c, .int .i64 m15a, .int .i64 m15b, .int .i64 m15c]] w fun e w' => e = .returned (.bool (okTb (((m0a, m0b, m0c), (m1a, m1b, m1c), (m2a, m2b, m2c), (m3a, m3b, m3c)), ((m4a, m4b, m4c), (m5a, m5b, m5c), (m6a, m6b, m6c), (m7a, m7b, m7c)), ((m8a, m8b, m8c), (m9a, m9b, m9c), (m10a, m10b, m10c), (m11a, m11b, m11c)), ((m12a, m12b, m12c), (m13a, m13b, m13c), (m14a, m14b, m14c), (m15a, m15b, m15c))))) ∧ Below w.heap.size w w' := by
  obtain ⟨k0, hv⟩ : ∃ k, okF m0a m0b m0c = k := ⟨_, rfl⟩
  have K0 := Lib.hid hv
  clear hv
  obtain ⟨k1, hv⟩ : ∃ k, okF m1a m1b m1c = k := ⟨_, rfl⟩
  have K1 := Lib.hid hv
  clear hv
  obtain ⟨k2, hv⟩ : ∃ k, okF m2a m2b m2c = k := ⟨_, rfl⟩
  have K2 := Lib.hid hv
  clear hv
  obtain ⟨k3, hv⟩ : ∃ k, okF m3a m3b m3c = k := ⟨_, rfl⟩
  have K3 := Lib.hid hv
  clear hv
  obtain ⟨k4, hv⟩ : ∃ k, okF m4a m4b m4c = k := ⟨_, rfl⟩
  have K4 := Lib.hid hv
  clear hv
  obtain ⟨k5, hv⟩ : ∃ k, okF m5a m5b m5c = k := ⟨_, rfl⟩
  have K5 := Lib.hid hv
  clear hv
  obtain ⟨k6, hv⟩ : ∃ k, okF m6a m6b m6c = k := ⟨_, rfl⟩
  have K6 := Lib.hid hv
  clear hv
  obtain ⟨k7, hv⟩ : ∃ k, okF m7a m7b m7c = k := ⟨_, rfl⟩
  have K7 := Lib.hid hv
  clear hv
  obtain ⟨k8, hv⟩ : ∃ k, okF m8a m8b m8c = k := ⟨_, rfl⟩
  have K8 := Lib.hid hv
  clear hv
  obtain ⟨k9, hv⟩ : ∃ k, okF m9a m9b m9c = k := ⟨_, rfl⟩
  have K9 := Lib.hid hv
  clear hv
  obtain ⟨k10, hv⟩ : ∃ k, okF m10a m10b m10c = k := ⟨_, rfl⟩
  have K10 := Lib.hid hv
  clear hv
  obtain ⟨k11, hv⟩ : ∃ k, okF m11a m11b m11c = k := ⟨_, rfl⟩
  have K11 := Lib.hid hv
  clear hv
  obtain ⟨k12, hv⟩ : ∃ k, okF m12a m12b m12c = k := ⟨_, rfl⟩
  have K12 := Lib.hid hv
  clear hv
  obtain ⟨k13, hv⟩ : ∃ k, okF m13a m13b m13c = k := ⟨_, rfl⟩
  have K13 := Lib.hid hv
  clear hv
  obtain ⟨k14, hv⟩ : ∃ k, okF m14a m14b m14c = k := ⟨_, rfl⟩
  have K14 := Lib.hid hv
  clear hv
  obtain ⟨k15, hv⟩ : ∃ k, okF m15a m15b m15c = k := ⟨_, rfl⟩
  have K15 := Lib.hid hv
  clear hv
  obtain ⟨o, E⟩ : ∃ o, okTb (((m0a, m0b, m0c), (m1a, m1b, m1c), (m2a, m2b, m2c), (m3a, m3b, m3c)), ((m4a, m4b, m4c), (m5a, m5b, m5c), (m6a, m6b, m6c), (m7a, m7b, m7c)), ((m8a, m8b, m8c), (m9a, m9b, m9c), (m10a, m10b, m10c), (m11a, m11b, m11c)), ((m12a, m12b, m12c), (m13a, m13b, m13c), (m14a, m14b, m14c), (m15a, m15b, m15c))) = o := ⟨_, rfl⟩
  rw [E]
  have HE := Lib.hid E
  clear E
  go_enter Tryd.func16, Tryd.ntmps16
  go_wp2_with fail
  refine wp_loop_rounds 17 ?_
  rw [rounds_succ]
  go_wp2_with fail
  refine (valid_at K0.out (specValid_any m0a m0b m0c _)).mono ?_
  rintro e W1 ⟨rfl, hb⟩
  have Ba : Blk W1 (w.heap.size) [.int .i64 m0a, .int .i64 m0b, .int .i64 m0c, .int .i64 m1a, .int .i64 m1b, .int .i64 m1c, .int .i64 m2a, .int .i64 m2b, .int .i64 m2c, .int .i64 m3a, .int .i64 m3b, .int .i64 m3c, .int .i64 m4a, .int .i64 m4b, .int .i64 m4c, .int .i64 m5a, .int .i64 m5b, .int .i64 m5c, .int .i64 m6a, .int .i64 m6b, .int .i64 m6c, .int .i64 m7a, .int .i64 m7b, .int .i64 m7c, .int .i64 m8a, .int .i64 m8b, .int .i64 m8c, .int .i64 m9a, .int .i64 m9b, .int .i64 m9c, .int .i64 m10a, .int .i64 m10b, .int .i64 m10c, .int .i64 m11a, .int .i64 m11b, .int .i64 m11c, .int .i64 m12a, .int .i64 m12b, .int .i64 m12c, .int .i64 m13a, .int .i64 m13b, .int .i64 m13c, .int .i64 m14a, .int .i64 m14b, .int .i64 m14c, .int .i64 m15a, .int .i64 m15b, .int .i64 m15c] := Blk.keep hb (by repeat' (first | (with_reducible first | assumption | refine Blk.drew ?_ | refine Blk.drewN ?_ _ | apply Blk.set | (refine Blk.new ?_; focus (first | rfl | (simp; done))) | refine Blk.alloc ?_ _ | refine Blk.other ?_ ?_ _) | exact eqL rfl | (refine neB ?_; omega)))
  have ca := Ba.cell
  have fa := Ba.free
  have la_W1 := Ba.lt
  have kaW1 : Acc w W1 := by
    refine Acc.call ?_ hb
    (repeat' (first | (with_reducible first | assumption | exact Acc.refl _ | refine Acc.drew ?_ | refine Acc.drewN ?_ _ | refine Acc.alloc ?_ _ | refine Acc.setCell ?_ ?_ _) | (refine leB ?_; omega)))
  clear hb
  cases k0 with
  | false =>
    obtain rfl : o = false := HE.out.symm.trans (by unfold okTb rl4 rlT okT; simp [K0.out])
    go_wp2_with fail
    go_ret
    refine ⟨rfl, ?_⟩
    show Acc w _
    (repeat' (first | (with_reducible first | assumption | exact Acc.refl _ | refine Acc.drew ?_ | refine Acc.drewN ?_ _ | refine Acc.alloc ?_ _ | refine Acc.setCell ?_ ?_ _) | (refine leB ?_; omega)))
  | true =>
    by_cases hz : m0b = 0
    · subst hz
      go_wp2_with fail
      rw [rounds_succ]
      go_wp2_with fail
      refine (valid_at K1.out (specValid_any m1a m1b m1c _)).mono ?_
      rintro e W2 ⟨rfl, hb⟩
      have Ba : Blk W2 (w.heap.size) [.int .i64 m0a, .int .i64 0, .int .i64 m0c, .int .i64 m1a, .int .i64 m1b, .int .i64 m1c, .int .i64 m2a, .int .i64 m2b, .int .i64 m2c, .int .i64 m3a, .int .i64 m3b, .int .i64 m3c, .int .i64 m4a, .int .i64 m4b, .int .i64 m4c, .int .i64 m5a, .int .i64 m5b, .int .i64 m5c, .int .i64 m6a, .int .i64 m6b, .int .i64 m6c, .int .i64 m7a, .int .i64 m7b, .int .i64 m7c, .int .i64 m8a, .int .i64 m8b, .int .i64 m8c, .int .i64 m9a, .int .i64 m9b, .int .i64 m9c, .int .i64 m10a, .int .i64 m10b, .int .i64 m10c, .int .i64 m11a, .int .i64 m11b, .int .i64 m11c, .int .i64 m12a, .int .i64 m12b, .int .i64 m12c, .int .i64 m13a, .int .i64 m13b, .int .i64 m13c, .int .i64 m14a, .int .i64 m14b, .int .i64 m14c, .int .i64 m15a, .int .i64 m15b, .int .i64 m15c] := Blk.keep hb (by repeat' (first | (with_reducible first | assumption | refine Blk.drew ?_ | refine Blk.drewN ?_ _ | apply Blk.set | (refine Blk.new ?_; focus (first | rfl | (simp; done))) | refine Blk.alloc ?_ _ | refine Blk.other ?_ ?_ _) | exact eqL rfl | (refine neB ?_; omega)))
      have ca := Ba.cell
      have fa := Ba.free
      have la_W2 := Ba.lt
      have kaW2 : Acc w W2 := by
        refine Acc.call ?_ hb
        (repeat' (first | (with_reducible first | assumption | exact Acc.refl _ | refine Acc.drew ?_ | refine Acc.drewN ?_ _ | refine Acc.alloc ?_ _ | refine Acc.setCell ?_ ?_ _) | (refine leB ?_; omega)))
      clear hb
      cases k1 with
      | false =>
        obtain rfl : o = false := HE.out.symm.trans (by unfold okTb rl4 rlT okT; simp [K1.out])
        go_wp2_with fail
        go_ret
        refine ⟨rfl, ?_⟩
        show Acc w _
        (repeat' (first | (with_reducible first | assumption | exact Acc.refl _ | refine Acc.drew ?_ | refine Acc.drewN ?_ _ | refine Acc.alloc ?_ _ | refine Acc.setCell ?_ ?_ _) | (refine leB ?_; omega)))
      | true =>
        by_cases hz : m1b = 0
        · subst hz
          go_wp2_with fail
          rw [rounds_succ]
          go_wp2_with fail
          refine (valid_at K2.out (specValid_any m2a m2b m2c _)).mono ?_
          rintro e W3 ⟨rfl, hb⟩
          have Ba : Blk W3 (w.heap.size) [.int .i64 m0a, .int .i64 0, .int .i64 m0c, .int .i64 m1a, .int .i64 0, .int .i64 m1c, .int .i64 m2a, .int .i64 m2b, .int .i64 m2c, .int .i64 m3a, .int .i64 m3b, .int .i64 m3c, .int .i64 m4a, .int .i64 m4b, .int .i64 m4c, .int .i64 m5a, .int .i64 m5b, .int .i64 m5c, .int .i64 m6a, .int .i64 m6b, .int .i64 m6c, .int .i64 m7a, .int .i64 m7b, .int .i64 m7c, .int .i64 m8a, .int .i64 m8b, .int .i64 m8c, .int .i64 m9a, .int .i64 m9b, .int .i64 m9c, .int .i64 m10a, .int .i64 m10b, .int .i64 m10c, .int .i64 m11a, .int .i64 m11b, .int .i64 m11c, .int .i64 m12a, .int .i64 m12b, .int .i64 m12c, .int .i64 m13a, .int .i64 m13b, .int .i64 m13c, .int .i64 m14a, .int .i64 m14b, .int .i64 m14c, .int .i64 m15a, .int .i64 m15b, .int .i64 m15c] := Blk.keep hb (by repeat' (first | (with_reducible first | assumption | refine Blk.drew ?_ | refine Blk.drewN ?_ _ | apply Blk.set | (refine Blk.new ?_; focus (first | rfl | (simp; done))) | refine Blk.alloc ?_ _ | refine Blk.other ?_ ?_ _) | exact eqL rfl | (refine neB ?_; omega)))
          have ca := Ba.cell
          have fa := Ba.free
          have la_W3 := Ba.lt
          have kaW3 : Acc w W3 := by
            refine Acc.call ?_ hb
            (repeat' (first | (with_reducible first | assumption | exact Acc.refl _ | refine Acc.drew ?_ | refine Acc.drewN ?_ _ | refine Acc.alloc ?_ _ | refine Acc.setCell ?_ ?_ _) | (refine leB ?_; omega)))
          clear hb
          cases k2 with
          | false =>
            obtain rfl : o = false := HE.out.symm.trans (by unfold okTb rl4 rlT okT; simp [K2.out])
            go_wp2_with fail
            go_ret
            refine ⟨rfl, ?_⟩
            show Acc w _
            (repeat' (first | (with_reducible first | assumption | exact Acc.refl _ | refine Acc.drew ?_ | refine Acc.drewN ?_ _ | refine Acc.alloc ?_ _ | refine Acc.setCell ?_ ?_ _) | (refine leB ?_; omega)))
          | true =>
            by_cases hz : m2b = 0
            · subst hz
              go_wp2_with fail
              rw [rounds_succ]
              go_wp2_with fail
              refine (valid_at K3.out (specValid_any m3a m3b m3c _)).mono ?_
              rintro e W4 ⟨rfl, hb⟩
              have Ba : Blk W4 (w.heap.size) [.int .i64 m0a, .int .i64 0, .int .i64 m0c, .int .i64 m1a, .int .i64 0, .int .i64 m1c, .int .i64 m2a, .int .i64 0, .int .i64 m2c, .int .i64 m3a, .int .i64 m3b, .int .i64 m3c, .int .i64 m4a, .int .i64 m4b, .int .i64 m4c, .int .i64 m5a, .int .i64 m5b, .int .i64 m5c, .int .i64 m6a, .int .i64 m6b, .int .i64 m6c, .int .i64 m7a, .int .i64 m7b, .int .i64 m7c, .int .i64 m8a, .int .i64 m8b, .int .i64 m8c, .int .i64 m9a, .int .i64 m9b, .int .i64 m9c, .int .i64 m10a, .int .i64 m10b, .int .i64 m10c, .int .i64 m11a, .int .i64 m11b, .int .i64 m11c, .int .i64 m12a, .int .i64 m12b, .int .i64 m12c, .int .i64 m13a, .int .i64 m13b, .int .i64 m13c, .int .i64 m14a, .int .i64 m14b, .int .i64 m14c, .int .i64 m15a, .int .i64 m15b, .int .i64 m15c] := Blk.keep hb (by repeat' (first | (with_reducible first | assumption | refine Blk.drew ?_ | refine Blk.drewN ?_ _ | apply Blk.set | (refine Blk.new ?_; focus (first | rfl | (simp; done))) | refine Blk.alloc ?_ _ | refine Blk.other ?_ ?_ _) | exact eqL rfl | (refine neB ?_; omega)))
              have ca := Ba.cell
              have fa := Ba.free
              have la_W4 := Ba.lt
              have kaW4 : Acc w W4 := by
                refine Acc.call ?_ hb
                (repeat' (first | (with_reducible first | assumption | exact Acc.refl _ | refine Acc.drew ?_ | refine Acc.drewN ?_ _ | refine Acc.alloc ?_ _ | refine Acc.setCell ?_ ?_ _) | (refine leB ?_; omega)))
              clear hb
              cases k3 with
              | false =>
                obtain rfl : o = false := HE.out.symm.trans (by unfold okTb rl4 rlT okT; simp [K3.out])
                go_wp2_with fail
                go_ret
                refine ⟨rfl, ?_⟩
                show Acc w _
                (repeat' (first | (with_reducible first | assumption | exact Acc.refl _ | refine Acc.drew ?_ | refine Acc.drewN ?_ _ | refine Acc.alloc ?_ _ | refine Acc.setCell ?_ ?_ _) | (refine leB ?_; omega)))
              | true =>
                by_cases hz : m3b = 0
                · subst hz
                  go_wp2_with fail
                  rw [rounds_succ]
                  go_wp2_with fail
                  refine (valid_at K4.out (specValid_any m4a m4b m4c _)).mono ?_
                  rintro e W5 ⟨rfl, hb⟩
                  have Ba : Blk W5 (w.heap.size) [.int .i64 m0a, .int .i64 0, .int .i64 m0c, .int .i64 m1a, .int .i64 0, .int .i64 m1c, .int .i64 m2a, .int .i64 0, .int .i64 m2c, .int .i64 m3a, .int .i64 0, .int .i64 m3c, .int .i64 m4a, .int .i64 m4b, .int .i64 m4c, .int .i64 m5a, .int .i64 m5b, .int .i64 m5c, .int .i64 m6a, .int .i64 m6b, .int .i64 m6c, .int .i64 m7a, .int .i64 m7b, .int .i64 m7c, .int .i64 m8a, .int .i64 m8b, .int .i64 m8c, .int .i64 m9a, .int .i64 m9b, .int .i64 m9c, .int .i64 m10a, .int .i64 m10b, .int .i64 m10c, .int .i64 m11a, .int .i64 m11b, .int .i64 m11c, .int .i64 m12a, .int .i64 m12b, .int .i64 m12c, .int .i64 m13a, .int .i64 m13b, .int .i64 m13c, .int .i64 m14a, .int .i64 m14b, .int .i64 m14c, .int .i64 m15a, .int .i64 m15b, .int .i64 m15c] := Blk.keep hb (by repeat' (first | (with_reducible first | assumption | refine Blk.drew ?_ | refine Blk.drewN ?_ _ | apply Blk.set | (refine Blk.new ?_; focus (first | rfl | (simp; done))) | refine Blk.alloc ?_ _ | refine Blk.other ?_ ?_ _) | exact eqL rfl | (refine neB ?_; omega)))
                  have ca := Ba.cell
                  have fa := Ba.free
                  have la_W5 := Ba.lt
                  have kaW5 : Acc w W5 := by
                    refine Acc.call ?_ hb
                    (repeat' (first | (with_reducible first | assumption | exact Acc.refl _ | refine Acc.drew ?_ | refine Acc.drewN ?_ _ | refine Acc.alloc ?_ _ | refine Acc.setCell ?_ ?_ _) | (refine leB ?_; omega)))
                  clear hb
                  cases k4 with
                  | false =>
                    obtain rfl : o = false := HE.out.symm.trans (by unfold okTb rl4 rlT okT; simp [K4.out])
                    go_wp2_with fail
                    go_ret
                    refine ⟨rfl, ?_⟩
                    show Acc w _
                    (repeat' (first | (with_reducible first | assumption | exact Acc.refl _ | refine Acc.drew ?_ | refine Acc.drewN ?_ _ | refine Acc.alloc ?_ _ | refine Acc.setCell ?_ ?_ _) | (refine leB ?_; omega)))
                  | true =>
                    by_cases hz : m4b = 0
                    · subst hz
                      go_wp2_with fail
                      rw [rounds_succ]
                      go_wp2_with fail
                      refine (valid_at K5.out (specValid_any m5a m5b m5c _)).mono ?_
                      rintro e W6 ⟨rfl, hb⟩
                      have Ba : Blk W6 (w.heap.size) [.int .i64 m0a, .int .i64 0, .int .i64 m0c, .int .i64 m1a, .int .i64 0, .int .i64 m1c, .int .i64 m2a, .int .i64 0, .int .i64 m2c, .int .i64 m3a, .int .i64 0, .int .i64 m3c, .int .i64 m4a, .int .i64 0, .int .i64 m4c, .int .i64 m5a, .int .i64 m5b, .int .i64 m5c, .int .i64 m6a, .int .i64 m6b, .int .i64 m6c, .int .i64 m7a, .int .i64 m7b, .int .i64 m7c, .int .i64 m8a, .int .i64 m8b, .int .i64 m8c, .int .i64 m9a, .int .i64 m9b, .int .i64 m9c, .int .i64 m10a, .int .i64 m10b, .int .i64 m10c, .int .i64 m11a, .int .i64 m11b, .int .i64 m11c, .int .i64 m12a, .int .i64 m12b, .int .i64 m12c, .int .i64 m13a, .int .i64 m13b, .int .i64 m13c, .int .i64 m14a, .int .i64 m14b, .int .i64 m14c, .int .i64 m15a, .int .i64 m15b, .int .i64 m15c] := Blk.keep hb (by repeat' (first | (with_reducible first | assumption | refine Blk.drew ?_ | refine Blk.drewN ?_ _ | apply Blk.set | (refine Blk.new ?_; focus (first | rfl | (simp; done))) | refine Blk.alloc ?_ _ | refine Blk.other ?_ ?_ _) | exact eqL rfl | (refine neB ?_; omega)))
                      have ca := Ba.cell
                      have fa := Ba.free
                      have la_W6 := Ba.lt
                      have kaW6 : Acc w W6 := by
                        refine Acc.call ?_ hb
                        (repeat' (first | (with_reducible first | assumption | exact Acc.refl _ | refine Acc.drew ?_ | refine Acc.drewN ?_ _ | refine Acc.alloc ?_ _ | refine Acc.setCell ?_ ?_ _) | (refine leB ?_; omega)))
                      clear hb
                      cases k5 with
                      | false =>
                        obtain rfl : o = false := HE.out.symm.trans (by unfold okTb rl4 rlT okT; simp [K5.out])
                        go_wp2_with fail
                        go_ret
                        refine ⟨rfl, ?_⟩
                        show Acc w _
                        (repeat' (first | (with_reducible first | assumption | exact Acc.refl _ | refine Acc.drew ?_ | refine Acc.drewN ?_ _ | refine Acc.alloc ?_ _ | refine Acc.setCell ?_ ?_ _) | (refine leB ?_; omega)))
                      | true =>
                        by_cases hz : m5b = 0
                        · subst hz
                          go_wp2_with fail
                          rw [rounds_succ]
                          go_wp2_with fail
                          refine (valid_at K6.out (specValid_any m6a m6b m6c _)).mono ?_
                          rintro e W7 ⟨rfl, hb⟩
                          have Ba : Blk W7 (w.heap.size) [.int .i64 m0a, .int .i64 0, .int .i64 m0c, .int .i64 m1a, .int .i64 0, .int .i64 m1c, .int .i64 m2a, .int .i64 0, .int .i64 m2c, .int .i64 m3a, .int .i64 0, .int .i64 m3c, .int .i64 m4a, .int .i64 0, .int .i64 m4c, .int .i64 m5a, .int .i64 0, .int .i64 m5c, .int .i64 m6a, .int .i64 m6b, .int .i64 m6c, .int .i64 m7a, .int .i64 m7b, .int .i64 m7c, .int .i64 m8a, .int .i64 m8b, .int .i64 m8c, .int .i64 m9a, .int .i64 m9b, .int .i64 m9c, .int .i64 m10a, .int .i64 m10b, .int .i64 m10c, .int .i64 m11a, .int .i64 m11b, .int .i64 m11c, .int .i64 m12a, .int .i64 m12b, .int .i64 m12c, .int .i64 m13a, .int .i64 m13b, .int .i64 m13c, .int .i64 m14a, .int .i64 m14b, .int .i64 m14c, .int .i64 m15a, .int .i64 m15b, .int .i64 m15c] := Blk.keep hb (by repeat' (first | (with_reducible first | assumption | refine Blk.drew ?_ | refine Blk.drewN ?_ _ | apply Blk.set | (refine Blk.new ?_; focus (first | rfl | (simp; done))) | refine Blk.alloc ?_ _ | refine Blk.other ?_ ?_ _) | exact eqL rfl | (refine neB ?_; omega)))
                          have ca := Ba.cell
                          have fa := Ba.free
                          have la_W7 := Ba.lt
                          have kaW7 : Acc w W7 := by
                            refine Acc.call ?_ hb
                            (repeat' (first | (with_reducible first | assumption | exact Acc.refl _ | refine Acc.drew ?_ | refine Acc.drewN ?_ _ | refine Acc.alloc ?_ _ | refine Acc.setCell ?_ ?_ _) | (refine leB ?_; omega)))
                          clear hb
                          cases k6 with
                          | false =>
                            obtain rfl : o = false := HE.out.symm.trans (by unfold okTb rl4 rlT okT; simp [K6.out])
                            go_wp2_with fail
                            go_ret
                            refine ⟨rfl, ?_⟩
                            show Acc w _
                            (repeat' (first | (with_reducible first | assumption | exact Acc.refl _ | refine Acc.drew ?_ | refine Acc.drewN ?_ _ | refine Acc.alloc ?_ _ | refine Acc.setCell ?_ ?_ _) | (refine leB ?_; omega)))
                          | true =>
                            by_cases hz : m6b = 0
                            · subst hz
                              go_wp2_with fail
                              rw [rounds_succ]
                              go_wp2_with fail
                              refine (valid_at K7.out (specValid_any m7a m7b m7c _)).mono ?_
                              rintro e W8 ⟨rfl, hb⟩
                              have Ba : Blk W8 (w.heap.size) [.int .i64 m0a, .int .i64 0, .int .i64 m0c, .int .i64 m1a, .int .i64 0, .int .i64 m1c, .int .i64 m2a, .int .i64 0, .int .i64 m2c, .int .i64 m3a, .int .i64 0, .int .i64 m3c, .int .i64 m4a, .int .i64 0, .int .i64 m4c, .int .i64 m5a, .int .i64 0, .int .i64 m5c, .int .i64 m6a, .int .i64 0, .int .i64 m6c, .int .i64 m7a, .int .i64 m7b, .int .i64 m7c, .int .i64 m8a, .int .i64 m8b, .int .i64 m8c, .int .i64 m9a, .int .i64 m9b, .int .i64 m9c, .int .i64 m10a, .int .i64 m10b, .int .i64 m10c, .int .i64 m11a, .int .i64 m11b, .int .i64 m11c, .int .i64 m12a, .int .i64 m12b, .int .i64 m12c, .int .i64 m13a, .int .i64 m13b, .int .i64 m13c, .int .i64 m14a, .int .i64 m14b, .int .i64 m14c, .int .i64 m15a, .int .i64 m15b, .int .i64 m15c] := Blk.keep hb (by repeat' (first | (with_reducible first | assumption | refine Blk.drew ?_ | refine Blk.drewN ?_ _ | apply Blk.set | (refine Blk.new ?_; focus (first | rfl | (simp; done))) | refine Blk.alloc ?_ _ | refine Blk.other ?_ ?_ _) | exact eqL rfl | (refine neB ?_; omega)))
                              have ca := Ba.cell
                              have fa := Ba.free
                              have la_W8 := Ba.lt
                              have kaW8 : Acc w W8 := by
                                refine Acc.call ?_ hb
                                (repeat' (first | (with_reducible first | assumption | exact Acc.refl _ | refine Acc.drew ?_ | refine Acc.drewN ?_ _ | refine Acc.alloc ?_ _ | refine Acc.setCell ?_ ?_ _) | (refine leB ?_; omega)))
                              clear hb
                              cases k7 with
                              | false =>
                                obtain rfl : o = false := HE.out.symm.trans (by unfold okTb rl4 rlT okT; simp [K7.out])
                                go_wp2_with fail
                                go_ret
                                refine ⟨rfl, ?_⟩
                                show Acc w _
                                (repeat' (first | (with_reducible first | assumption | exact Acc.refl _ | refine Acc.drew ?_ | refine Acc.drewN ?_ _ | refine Acc.alloc ?_ _ | refine Acc.setCell ?_ ?_ _) | (refine leB ?_; omega)))
                              | true =>
                                by_cases hz : m7b = 0
                                · subst hz
                                  go_wp2_with fail
                                  rw [rounds_succ]
                                  go_wp2_with fail
                                  refine (valid_at K8.out (specValid_any m8a m8b m8c _)).mono ?_
                                  rintro e W9 ⟨rfl, hb⟩
                                  have Ba : Blk W9 (w.heap.size) [.int .i64 m0a, .int .i64 0, .int .i64 m0c, .int .i64 m1a, .int .i64 0, .int .i64 m1c, .int .i64 m2a, .int .i64 0, .int .i64 m2c, .int .i64 m3a, .int .i64 0, .int .i64 m3c, .int .i64 m4a, .int .i64 0, .int .i64 m4c, .int .i64 m5a, .int .i64 0, .int .i64 m5c, .int .i64 m6a, .int .i64 0, .int .i64 m6c, .int .i64 m7a, .int .i64 0, .int .i64 m7c, .int .i64 m8a, .int .i64 m8b, .int .i64 m8c, .int .i64 m9a, .int .i64 m9b, .int .i64 m9c, .int .i64 m10a, .int .i64 m10b, .int .i64 m10c, .int .i64 m11a, .int .i64 m11b, .int .i64 m11c, .int .i64 m12a, .int .i64 m12b, .int .i64 m12c, .int .i64 m13a, .int .i64 m13b, .int .i64 m13c, .int .i64 m14a, .int .i64 m14b, .int .i64 m14c, .int .i64 m15a, .int .i64 m15b, .int .i64 m15c] := Blk.keep hb (by repeat' (first | (with_reducible first | assumption | refine Blk.drew ?_ | refine Blk.drewN ?_ _ | apply Blk.set | (refine Blk.new ?_; focus (first | rfl | (simp; done))) | refine Blk.alloc ?_ _ | refine Blk.other ?_ ?_ _) | exact eqL rfl | (refine neB ?_; omega)))
                                  have ca := Ba.cell
                                  have fa := Ba.free
                                  have la_W9 := Ba.lt
                                  have kaW9 : Acc w W9 := by
                                    refine Acc.call ?_ hb
                                    (repeat' (first | (with_reducible first | assumption | exact Acc.refl _ | refine Acc.drew ?_ | refine Acc.drewN ?_ _ | refine Acc.alloc ?_ _ | refine Acc.setCell ?_ ?_ _) | (refine leB ?_; omega)))
                                  clear hb
                                  cases k8 with
                                  | false =>
                                    obtain rfl : o = false := HE.out.symm.trans (by unfold okTb rl4 rlT okT; simp [K8.out])
                                    go_wp2_with fail
                                    go_ret
                                    refine ⟨rfl, ?_⟩
                                    show Acc w _
                                    (repeat' (first | (with_reducible first | assumption | exact Acc.refl _ | refine Acc.drew ?_ | refine Acc.drewN ?_ _ | refine Acc.alloc ?_ _ | refine Acc.setCell ?_ ?_ _) | (refine leB ?_; omega)))
                                  | true =>
                                    by_cases hz : m8b = 0
                                    · subst hz
                                      go_wp2_with fail
                                      rw [rounds_succ]
                                      go_wp2_with fail
                                      refine (valid_at K9.out (specValid_any m9a m9b m9c _)).mono ?_
                                      rintro e W10 ⟨rfl, hb⟩
                                      have Ba : Blk W10 (w.heap.size) [.int .i64 m0a, .int .i64 0, .int .i64 m0c, .int .i64 m1a, .int .i64 0, .int .i64 m1c, .int .i64 m2a, .int .i64 0, .int .i64 m2c, .int .i64 m3a, .int .i64 0, .int .i64 m3c, .int .i64 m4a, .int .i64 0, .int .i64 m4c, .int .i64 m5a, .int .i64 0, .int .i64 m5c, .int .i64 m6a, .int .i64 0, .int .i64 m6c, .int .i64 m7a, .int .i64 0, .int .i64 m7c, .int .i64 m8a, .int .i64 0, .int .i64 m8c, .int .i64 m9a, .int .i64 m9b, .int .i64 m9c, .int .i64 m10a, .int .i64 m10b, .int .i64 m10c, .int .i64 m11a, .int .i64 m11b, .int .i64 m11c, .int .i64 m12a, .int .i64 m12b, .int .i64 m12c, .int .i64 m13a, .int .i64 m13b, .int .i64 m13c, .int .i64 m14a, .int .i64 m14b, .int .i64 m14c, .int .i64 m15a, .int .i64 m15b, .int .i64 m15c] := Blk.keep hb (by repeat' (first | (with_reducible first | assumption | refine Blk.drew ?_ | refine Blk.drewN ?_ _ | apply Blk.set | (refine Blk.new ?_; focus (first | rfl | (simp; done))) | refine Blk.alloc ?_ _ | refine Blk.other ?_ ?_ _) | exact eqL rfl | (refine neB ?_; omega)))
                                      have ca := Ba.cell
                                      have fa := Ba.free
                                      have la_W10 := Ba.lt
                                      have kaW10 : Acc w W10 := by
                                        refine Acc.call ?_ hb
                                        (repeat' (first | (with_reducible first | assumption | exact Acc.refl _ | refine Acc.drew ?_ | refine Acc.drewN ?_ _ | refine Acc.alloc ?_ _ | refine Acc.setCell ?_ ?_ _) | (refine leB ?_; omega)))
                                      clear hb
                                      cases k9 with
                                      | false =>
                                        obtain rfl : o = false := HE.out.symm.trans (by unfold okTb rl4 rlT okT; simp [K9.out])
                                        go_wp2_with fail
                                        go_ret
                                        refine ⟨rfl, ?_⟩
                                        show Acc w _
                                        (repeat' (first | (with_reducible first | assumption | exact Acc.refl _ | refine Acc.drew ?_ | refine Acc.drewN ?_ _ | refine Acc.alloc ?_ _ | refine Acc.setCell ?_ ?_ _) | (refine leB ?_; omega)))
                                      | true =>
                                        by_cases hz : m9b = 0
                                        · subst hz
                                          go_wp2_with fail
                                          rw [rounds_succ]
                                          go_wp2_with fail
                                          refine (valid_at K10.out (specValid_any m10a m10b m10c _)).mono ?_
                                          rintro e W11 ⟨rfl, hb⟩
                                          have Ba : Blk W11 (w.heap.size) [.int .i64 m0a, .int .i64 0, .int .i64 m0c, .int .i64 m1a, .int .i64 0, .int .i64 m1c, .int .i64 m2a, .int .i64 0, .int .i64 m2c, .int .i64 m3a, .int .i64 0, .int .i64 m3c, .int .i64 m4a, .int .i64 0, .int .i64 m4c, .int .i64 m5a, .int .i64 0, .int .i64 m5c, .int .i64 m6a, .int .i64 0, .int .i64 m6c, .int .i64 m7a, .int .i64 0, .int .i64 m7c, .int .i64 m8a, .int .i64 0, .int .i64 m8c, .int .i64 m9a, .int .i64 0, .int .i64 m9c, .int .i64 m10a, .int .i64 m10b, .int .i64 m10c, .int .i64 m11a, .int .i64 m11b, .int .i64 m11c, .int .i64 m12a, .int .i64 m12b, .int .i64 m12c, .int .i64 m13a, .int .i64 m13b, .int .i64 m13c, .int .i64 m14a, .int .i64 m14b, .int .i64 m14c, .int .i64 m15a, .int .i64 m15b, .int .i64 m15c] := Blk.keep hb (by repeat' (first | (with_reducible first | assumption | refine Blk.drew ?_ | refine Blk.drewN ?_ _ | apply Blk.set | (refine Blk.new ?_; focus (first | rfl | (simp; done))) | refine Blk.alloc ?_ _ | refine Blk.other ?_ ?_ _) | exact eqL rfl | (refine neB ?_; omega)))
                                          have ca := Ba.cell
                                          have fa := Ba.free
                                          have la_W11 := Ba.lt
                                          have kaW11 : Acc w W11 := by
                                            refine Acc.call ?_ hb
                                            (repeat' (first | (with_reducible first | assumption | exact Acc.refl _ | refine Acc.drew ?_ | refine Acc.drewN ?_ _ | refine Acc.alloc ?_ _ | refine Acc.setCell ?_ ?_ _) | (refine leB ?_; omega)))
                                          clear hb
                                          cases k10 with
                                          | false =>
                                            obtain rfl : o = false := HE.out.symm.trans (by unfold okTb rl4 rlT okT; simp [K10.out])
                                            go_wp2_with fail
                                            go_ret
                                            refine ⟨rfl, ?_⟩
                                            show Acc w _
                                            (repeat' (first | (with_reducible first | assumption | exact Acc.refl _ | refine Acc.drew ?_ | refine Acc.drewN ?_ _ | refine Acc.alloc ?_ _ | refine Acc.setCell ?_ ?_ _) | (refine leB ?_; omega)))
                                          | true =>
                                            by_cases hz : m10b = 0
                                            · subst hz
                                              go_wp2_with fail
                                              rw [rounds_succ]
                                              go_wp2_with fail
                                              refine (valid_at K11.out (specValid_any m11a m11b m11c _)).mono ?_
                                              rintro e W12 ⟨rfl, hb⟩
                                              have Ba : Blk W12 (w.heap.size) [.int .i64 m0a, .int .i64 0, .int .i64 m0c, .int .i64 m1a, .int .i64 0, .int .i64 m1c, .int .i64 m2a, .int .i64 0, .int .i64 m2c, .int .i64 m3a, .int .i64 0, .int .i64 m3c, .int .i64 m4a, .int .i64 0, .int .i64 m4c, .int .i64 m5a, .int .i64 0, .int .i64 m5c, .int .i64 m6a, .int .i64 0, .int .i64 m6c, .int .i64 m7a, .int .i64 0, .int .i64 m7c, .int .i64 m8a, .int .i64 0, .int .i64 m8c, .int .i64 m9a, .int .i64 0, .int .i64 m9c, .int .i64 m10a, .int .i64 0, .int .i64 m10c, .int .i64 m11a, .int .i64 m11b, .int .i64 m11c, .int .i64 m12a, .int .i64 m12b, .int .i64 m12c, .int .i64 m13a, .int .i64 m13b, .int .i64 m13c, .int .i64 m14a, .int .i64 m14b, .int .i64 m14c, .int .i64 m15a, .int .i64 m15b, .int .i64 m15c] := Blk.keep hb (by repeat' (first | (with_reducible first | assumption | refine Blk.drew ?_ | refine Blk.drewN ?_ _ | apply Blk.set | (refine Blk.new ?_; focus (first | rfl | (simp; done))) | refine Blk.alloc ?_ _ | refine Blk.other ?_ ?_ _) | exact eqL rfl | (refine neB ?_; omega)))
                                              have ca := Ba.cell
                                              have fa := Ba.free
                                              have la_W12 := Ba.lt
                                              have kaW12 : Acc w W12 := by
                                                refine Acc.call ?_ hb
                                                (repeat' (first | (with_reducible first | assumption | exact Acc.refl _ | refine Acc.drew ?_ | refine Acc.drewN ?_ _ | refine Acc.alloc ?_ _ | refine Acc.setCell ?_ ?_ _) | (refine leB ?_; omega)))
                                              clear hb
                                              cases k11 with
                                              | false =>
                                                obtain rfl : o = false := HE.out.symm.trans (by unfold okTb rl4 rlT okT; simp [K11.out])
                                                go_wp2_with fail
                                                go_ret
                                                refine ⟨rfl, ?_⟩
                                                show Acc w _
                                                (repeat' (first | (with_reducible first | assumption | exact Acc.refl _ | refine Acc.drew ?_ | refine Acc.drewN ?_ _ | refine Acc.alloc ?_ _ | refine Acc.setCell ?_ ?_ _) | (refine leB ?_; omega)))
                                              | true =>
                                                by_cases hz : m11b = 0
                                                · subst hz
                                                  go_wp2_with fail
                                                  rw [rounds_succ]
                                                  go_wp2_with fail
                                                  refine (valid_at K12.out (specValid_any m12a m12b m12c _)).mono ?_
                                                  rintro e W13 ⟨rfl, hb⟩
                                                  have Ba : Blk W13 (w.heap.size) [.int .i64 m0a, .int .i64 0, .int .i64 m0c, .int .i64 m1a, .int .i64 0, .int .i64 m1c, .int .i64 m2a, .int .i64 0, .int .i64 m2c, .int .i64 m3a, .int .i64 0, .int .i64 m3c, .int .i64 m4a, .int .i64 0, .int .i64 m4c, .int .i64 m5a, .int .i64 0, .int .i64 m5c, .int .i64 m6a, .int .i64 0, .int .i64 m6c, .int .i64 m7a, .int .i64 0, .int .i64 m7c, .int .i64 m8a, .int .i64 0, .int .i64 m8c, .int .i64 m9a, .int .i64 0, .int .i64 m9c, .int .i64 m10a, .int .i64 0, .int .i64 m10c, .int .i64 m11a, .int .i64 0, .int .i64 m11c, .int .i64 m12a, .int .i64 m12b, .int .i64 m12c, .int .i64 m13a, .int .i64 m13b, .int .i64 m13c, .int .i64 m14a, .int .i64 m14b, .int .i64 m14c, .int .i64 m15a, .int .i64 m15b, .int .i64 m15c] := Blk.keep hb (by repeat' (first | (with_reducible first | assumption | refine Blk.drew ?_ | refine Blk.drewN ?_ _ | apply Blk.set | (refine Blk.new ?_; focus (first | rfl | (simp; done))) | refine Blk.alloc ?_ _ | refine Blk.other ?_ ?_ _) | exact eqL rfl | (refine neB ?_; omega)))
                                                  have ca := Ba.cell
                                                  have fa := Ba.free
                                                  have la_W13 := Ba.lt
                                                  have kaW13 : Acc w W13 := by
                                                    refine Acc.call ?_ hb
                                                    (repeat' (first | (with_reducible first | assumption | exact Acc.refl _ | refine Acc.drew ?_ | refine Acc.drewN ?_ _ | refine Acc.alloc ?_ _ | refine Acc.setCell ?_ ?_ _) | (refine leB ?_; omega)))
                                                  clear hb
                                                  cases k12 with
                                                  | false =>
                                                    obtain rfl : o = false := HE.out.symm.trans (by unfold okTb rl4 rlT okT; simp [K12.out])
                                                    go_wp2_with fail
                                                    go_ret
                                                    refine ⟨rfl, ?_⟩
                                                    show Acc w _
                                                    (repeat' (first | (with_reducible first | assumption | exact Acc.refl _ | refine Acc.drew ?_ | refine Acc.drewN ?_ _ | refine Acc.alloc ?_ _ | refine Acc.setCell ?_ ?_ _) | (refine leB ?_; omega)))
                                                  | true =>
                                                    by_cases hz : m12b = 0
                                                    · subst hz
                                                      go_wp2_with fail
                                                      rw [rounds_succ]
                                                      go_wp2_with fail
                                                      refine (valid_at K13.out (specValid_any m13a m13b m13c _)).mono ?_
                                                      rintro e W14 ⟨rfl, hb⟩
                                                      have Ba : Blk W14 (w.heap.size) [.int .i64 m0a, .int .i64 0, .int .i64 m0c, .int .i64 m1a, .int .i64 0, .int .i64 m1c, .int .i64 m2a, .int .i64 0, .int .i64 m2c, .int .i64 m3a, .int .i64 0, .int .i64 m3c, .int .i64 m4a, .int .i64 0, .int .i64 m4c, .int .i64 m5a, .int .i64 0, .int .i64 m5c, .int .i64 m6a, .int .i64 0, .int .i64 m6c, .int .i64 m7a, .int .i64 0, .int .i64 m7c, .int .i64 m8a, .int .i64 0, .int .i64 m8c, .int .i64 m9a, .int .i64 0, .int .i64 m9c, .int .i64 m10a, .int .i64 0, .int .i64 m10c, .int .i64 m11a, .int .i64 0, .int .i64 m11c, .int .i64 m12a, .int .i64 0, .int .i64 m12c, .int .i64 m13a, .int .i64 m13b, .int .i64 m13c, .int .i64 m14a, .int .i64 m14b, .int .i64 m14c, .int .i64 m15a, .int .i64 m15b, .int .i64 m15c] := Blk.keep hb (by repeat' (first | (with_reducible first | assumption | refine Blk.drew ?_ | refine Blk.drewN ?_ _ | apply Blk.set | (refine Blk.new ?_; focus (first | rfl | (simp; done))) | refine Blk.alloc ?_ _ | refine Blk.other ?_ ?_ _) | exact eqL rfl | (refine neB ?_; omega)))
                                                      have ca := Ba.cell
                                                      have fa := Ba.free
                                                      have la_W14 := Ba.lt
                                                      have kaW14 : Acc w W14 := by
                                                        refine Acc.call ?_ hb
                                                        (repeat' (first | (with_reducible first | assumption | exact Acc.refl _ | refine Acc.drew ?_ | refine Acc.drewN ?_ _ | refine Acc.alloc ?_ _ | refine Acc.setCell ?_ ?_ _) | (refine leB ?_; omega)))
                                                      clear hb
                                                      cases k13 with
                                                      | false =>
                                                        obtain rfl : o = false := HE.out.symm.trans (by unfold okTb rl4 rlT okT; simp [K13.out])
                                                        go_wp2_with fail
                                                        go_ret
                                                        refine ⟨rfl, ?_⟩
                                                        show Acc w _
                                                        (repeat' (first | (with_reducible first | assumption | exact Acc.refl _ | refine Acc.drew ?_ | refine Acc.drewN ?_ _ | refine Acc.alloc ?_ _ | refine Acc.setCell ?_ ?_ _) | (refine leB ?_; omega)))
                                                      | true =>
                                                        by_cases hz : m13b = 0
                                                        · subst hz
                                                          go_wp2_with fail
                                                          rw [rounds_succ]
                                                          go_wp2_with fail
                                                          refine (valid_at K14.out (specValid_any m14a m14b m14c _)).mono ?_
                                                          rintro e W15 ⟨rfl, hb⟩
                                                          have Ba : Blk W15 (w.heap.size) [.int .i64 m0a, .int .i64 0, .int .i64 m0c, .int .i64 m1a, .int .i64 0, .int .i64 m1c, .int .i64 m2a, .int .i64 0, .int .i64 m2c, .int .i64 m3a, .int .i64 0, .int .i64 m3c, .int .i64 m4a, .int .i64 0, .int .i64 m4c, .int .i64 m5a, .int .i64 0, .int .i64 m5c, .int .i64 m6a, .int .i64 0, .int .i64 m6c, .int .i64 m7a, .int .i64 0, .int .i64 m7c, .int .i64 m8a, .int .i64 0, .int .i64 m8c, .int .i64 m9a, .int .i64 0, .int .i64 m9c, .int .i64 m10a, .int .i64 0, .int .i64 m10c, .int .i64 m11a, .int .i64 0, .int .i64 m11c, .int .i64 m12a, .int .i64 0, .int .i64 m12c, .int .i64 m13a, .int .i64 0, .int .i64 m13c, .int .i64 m14a, .int .i64 m14b, .int .i64 m14c, .int .i64 m15a, .int .i64 m15b, .int .i64 m15c] := Blk.keep hb (by repeat' (first | (with_reducible first | assumption | refine Blk.drew ?_ | refine Blk.drewN ?_ _ | apply Blk.set | (refine Blk.new ?_; focus (first | rfl | (simp; done))) | refine Blk.alloc ?_ _ | refine Blk.other ?_ ?_ _) | exact eqL rfl | (refine neB ?_; omega)))
                                                          have ca := Ba.cell
                                                          have fa := Ba.free
                                                          have la_W15 := Ba.lt
                                                          have kaW15 : Acc w W15 := by
                                                            refine Acc.call ?_ hb
                                                            (repeat' (first | (with_reducible first | assumption | exact Acc.refl _ | refine Acc.drew ?_ | refine Acc.drewN ?_ _ | refine Acc.alloc ?_ _ | refine Acc.setCell ?_ ?_ _) | (refine leB ?_; omega)))
                                                          clear hb
                                                          cases k14 with
                                                          | false =>
                                                            obtain rfl : o = false := HE.out.symm.trans (by unfold okTb rl4 rlT okT; simp [K14.out])
                                                            go_wp2_with fail
                                                            go_ret
                                                            refine ⟨rfl, ?_⟩
                                                            show Acc w _
                                                            (repeat' (first | (with_reducible first | assumption | exact Acc.refl _ | refine Acc.drew ?_ | refine Acc.drewN ?_ _ | refine Acc.alloc ?_ _ | refine Acc.setCell ?_ ?_ _) | (refine leB ?_; omega)))
                                                          | true =>
                                                            by_cases hz : m14b = 0
                                                            · subst hz
                                                              go_wp2_with fail
                                                              rw [rounds_succ]
                                                              go_wp2_with fail
                                                              refine (valid_at K15.out (specValid_any m15a m15b m15c _)).mono ?_
                                                              rintro e W16 ⟨rfl, hb⟩
                                                              have Ba : Blk W16 (w.heap.size) [.int .i64 m0a, .int .i64 0, .int .i64 m0c, .int .i64 m1a, .int .i64 0, .int .i64 m1c, .int .i64 m2a, .int .i64 0, .int .i64 m2c, .int .i64 m3a, .int .i64 0, .int .i64 m3c, .int .i64 m4a, .int .i64 0, .int .i64 m4c, .int .i64 m5a, .int .i64 0, .int .i64 m5c, .int .i64 m6a, .int .i64 0, .int .i64 m6c, .int .i64 m7a, .int .i64 0, .int .i64 m7c, .int .i64 m8a, .int .i64 0, .int .i64 m8c, .int .i64 m9a, .int .i64 0, .int .i64 m9c, .int .i64 m10a, .int .i64 0, .int .i64 m10c, .int .i64 m11a, .int .i64 0, .int .i64 m11c, .int .i64 m12a, .int .i64 0, .int .i64 m12c, .int .i64 m13a, .int .i64 0, .int .i64 m13c, .int .i64 m14a, .int .i64 0, .int .i64 m14c, .int .i64 m15a, .int .i64 m15b, .int .i64 m15c] := Blk.keep hb (by repeat' (first | (with_reducible first | assumption | refine Blk.drew ?_ | refine Blk.drewN ?_ _ | apply Blk.set | (refine Blk.new ?_; focus (first | rfl | (simp; done))) | refine Blk.alloc ?_ _ | refine Blk.other ?_ ?_ _) | exact eqL rfl | (refine neB ?_; omega)))
                                                              have ca := Ba.cell
                                                              have fa := Ba.free
                                                              have la_W16 := Ba.lt
                                                              have kaW16 : Acc w W16 := by
                                                                refine Acc.call ?_ hb
                                                                (repeat' (first | (with_reducible first | assumption | exact Acc.refl _ | refine Acc.drew ?_ | refine Acc.drewN ?_ _ | refine Acc.alloc ?_ _ | refine Acc.setCell ?_ ?_ _) | (refine leB ?_; omega)))
                                                              clear hb
                                                              cases k15 with
                                                              | false =>
                                                                obtain rfl : o = false := HE.out.symm.trans (by unfold okTb rl4 rlT okT; simp [K15.out])
                                                                go_wp2_with fail
                                                                go_ret
                                                                refine ⟨rfl, ?_⟩
                                                                show Acc w _
                                                                (repeat' (first | (with_reducible first | assumption | exact Acc.refl _ | refine Acc.drew ?_ | refine Acc.drewN ?_ _ | refine Acc.alloc ?_ _ | refine Acc.setCell ?_ ?_ _) | (refine leB ?_; omega)))
                                                              | true =>
                                                                by_cases hz : m15b = 0
                                                                · subst hz
                                                                  go_wp2_with fail
                                                                  rw [rounds_succ]
                                                                  go_wp2_with fail
                                                                  obtain rfl : o = true := HE.out.symm.trans (by unfold okTb rl4 rlT okT; simp [K0.out, K1.out, K2.out, K3.out, K4.out, K5.out, K6.out, K7.out, K8.out, K9.out, K10.out, K11.out, K12.out, K13.out, K14.out, K15.out])
                                                                  go_ret
                                                                  refine ⟨rfl, ?_⟩
                                                                  show Acc w _
                                                                  (repeat' (first | (with_reducible first | assumption | exact Acc.refl _ | refine Acc.drew ?_ | refine Acc.drewN ?_ _ | refine Acc.alloc ?_ _ | refine Acc.setCell ?_ ?_ _) | (refine leB ?_; omega)))
                                                                · skip
                                                                  obtain rfl : o = false := HE.out.symm.trans (by unfold okTb rl4 rlT okT; simp [hz])
                                                                  go_wp2_with fail
                                                                  go_ret
                                                                  refine ⟨rfl, ?_⟩
                                                                  show Acc w _
                                                                  (repeat' (first | (with_reducible first | assumption | exact Acc.refl _ | refine Acc.drew ?_ | refine Acc.drewN ?_ _ | refine Acc.alloc ?_ _ | refine Acc.setCell ?_ ?_ _) | (refine leB ?_; omega)))
                                                            · skip
                                                              obtain rfl : o = false := HE.out.symm.trans (by unfold okTb rl4 rlT okT; simp [hz])
                                                              go_wp2_with fail
                                                              go_ret
                                                              refine ⟨rfl, ?_⟩
                                                              show Acc w _
                                                              (repeat' (first | (with_reducible first | assumption | exact Acc.refl _ | refine Acc.drew ?_ | refine Acc.drewN ?_ _ | refine Acc.alloc ?_ _ | refine Acc.setCell ?_ ?_ _) | (refine leB ?_; omega)))
                                                        · skip
                                                          obtain rfl : o = false := HE.out.symm.trans (by unfold okTb rl4 rlT okT; simp [hz])
                                                          go_wp2_with fail
                                                          go_ret
                                                          refine ⟨rfl, ?_⟩
                                                          show Acc w _
                                                          (repeat' (first | (with_reducible first | assumption | exact Acc.refl _ | refine Acc.drew ?_ | refine Acc.drewN ?_ _ | refine Acc.alloc ?_ _ | refine Acc.setCell ?_ ?_ _) | (refine leB ?_; omega)))
                                                    · skip
                                                      obtain rfl : o = false := HE.out.symm.trans (by unfold okTb rl4 rlT okT; simp [hz])
                                                      go_wp2_with fail
                                                      go_ret
                                                      refine ⟨rfl, ?_⟩
                                                      show Acc w _
                                                      (repeat' (first | (with_reducible first | assumption | exact Acc.refl _ | refine Acc.drew ?_ | refine Acc.drewN ?_ _ | refine Acc.alloc ?_ _ | refine Acc.setCell ?_ ?_ _) | (refine leB ?_; omega)))
                                                · skip
                                                  obtain rfl : o = false := HE.out.symm.trans (by unfold okTb rl4 rlT okT; simp [hz])
                                                  go_wp2_with fail
                                                  go_ret
                                                  refine ⟨rfl, ?_⟩
                                                  show Acc w _
                                                  (repeat' (first | (with_reducible first | assumption | exact Acc.refl _ | refine Acc.drew ?_ | refine Acc.drewN ?_ _ | refine Acc.alloc ?_ _ | refine Acc.setCell ?_ ?_ _) | (refine leB ?_; omega)))
                                            · skip
                                              obtain rfl : o = false := HE.out.symm.trans (by unfold okTb rl4 rlT okT; simp [hz])
                                              go_wp2_with fail
                                              go_ret
                                              refine ⟨rfl, ?_⟩
                                              show Acc w _
                                              (repeat' (first | (with_reducible first | assumption | exact Acc.refl _ | refine Acc.drew ?_ | refine Acc.drewN ?_ _ | refine Acc.alloc ?_ _ | refine Acc.setCell ?_ ?_ _) | (refine leB ?_; omega)))
                                        · skip
                                          obtain rfl : o = false := HE.out.symm.trans (by unfold okTb rl4 rlT okT; simp [hz])
                                          go_wp2_with fail
                                          go_ret
                                          refine ⟨rfl, ?_⟩
                                          show Acc w _
                                          (repeat' (first | (with_reducible first | assumption | exact Acc.refl _ | refine Acc.drew ?_ | refine Acc.drewN ?_ _ | refine Acc.alloc ?_ _ | refine Acc.setCell ?_ ?_ _) | (refine leB ?_; omega)))
                                    · skip
                                      obtain rfl : o = false := HE.out.symm.trans (by unfold okTb rl4 rlT okT; simp [hz])
                                      go_wp2_with fail
                                      go_ret
                                      refine ⟨rfl, ?_⟩
                                      show Acc w _
                                      (repeat' (first | (with_reducible first | assumption | exact Acc.refl _ | refine Acc.drew ?_ | refine Acc.drewN ?_ _ | refine Acc.alloc ?_ _ | refine Acc.setCell ?_ ?_ _) | (refine leB ?_; omega)))
                                · skip
                                  obtain rfl : o = false := HE.out.symm.trans (by unfold okTb rl4 rlT okT; simp [hz])
                                  go_wp2_with fail
                                  go_ret
                                  refine ⟨rfl, ?_⟩
                                  show Acc w _
                                  (repeat' (first | (with_reducible first | assumption | exact Acc.refl _ | refine Acc.drew ?_ | refine Acc.drewN ?_ _ | refine Acc.alloc ?_ _ | refine Acc.setCell ?_ ?_ _) | (refine leB ?_; omega)))
                            · skip
                              obtain rfl : o = false := HE.out.symm.trans (by unfold okTb rl4 rlT okT; simp [hz])
                              go_wp2_with fail
                              go_ret
                              refine ⟨rfl, ?_⟩
                              show Acc w _
                              (repeat' (first | (with_reducible first | assumption | exact Acc.refl _ | refine Acc.drew ?_ | refine Acc.drewN ?_ _ | refine Acc.alloc ?_ _ | refine Acc.setCell ?_ ?_ _) | (refine leB ?_; omega)))
                        · skip
                          obtain rfl : o = false := HE.out.symm.trans (by unfold okTb rl4 rlT okT; simp [hz])
                          go_wp2_with fail
                          go_ret
                          refine ⟨rfl, ?_⟩
                          show Acc w _
                          (repeat' (first | (with_reducible first | assumption | exact Acc.refl _ | refine Acc.drew ?_ | refine Acc.drewN ?_ _ | refine Acc.alloc ?_ _ | refine Acc.setCell ?_ ?_ _) | (refine leB ?_; omega)))
                    · skip
                      obtain rfl : o = false := HE.out.symm.trans (by unfold okTb rl4 rlT okT; simp [hz])
                      go_wp2_with fail
                      go_ret
                      refine ⟨rfl, ?_⟩
                      show Acc w _
                      (repeat' (first | (with_reducible first | assumption | exact Acc.refl _ | refine Acc.drew ?_ | refine Acc.drewN ?_ _ | refine Acc.alloc ?_ _ | refine Acc.setCell ?_ ?_ _) | (refine leB ?_; omega)))
                · skip
                  obtain rfl : o = false := HE.out.symm.trans (by unfold okTb rl4 rlT okT; simp [hz])
                  go_wp2_with fail
                  go_ret
                  refine ⟨rfl, ?_⟩
                  show Acc w _
                  (repeat' (first | (with_reducible first | assumption | exact Acc.refl _ | refine Acc.drew ?_ | refine Acc.drewN ?_ _ | refine Acc.alloc ?_ _ | refine Acc.setCell ?_ ?_ _) | (refine leB ?_; omega)))
            · skip
              obtain rfl : o = false := HE.out.symm.trans (by unfold okTb rl4 rlT okT; simp [hz])
              go_wp2_with fail
              go_ret
              refine ⟨rfl, ?_⟩
              show Acc w _
              (repeat' (first | (with_reducible first | assumption | exact Acc.refl _ | refine Acc.drew ?_ | refine Acc.drewN ?_ _ | refine Acc.alloc ?_ _ | refine Acc.setCell ?_ ?_ _) | (refine leB ?_; omega)))
        · skip
          obtain rfl : o = false := HE.out.symm.trans (by unfold okTb rl4 rlT okT; simp [hz])
          go_wp2_with fail
          go_ret
          refine ⟨rfl, ?_⟩
          show Acc w _
          (repeat' (first | (with_reducible first | assumption | exact Acc.refl _ | refine Acc.drew ?_ | refine Acc.drewN ?_ _ | refine Acc.alloc ?_ _ | refine Acc.setCell ?_ ?_ _) | (refine leB ?_; omega)))
    · skip
      obtain rfl : o = false := HE.out.symm.trans (by unfold okTb rl4 rlT okT; simp [hz])
      go_wp2_with fail
      go_ret
      refine ⟨rfl, ?_⟩
      show Acc w _
      (repeat' (first | (with_reducible first | assumption | exact Acc.refl _ | refine Acc.drew ?_ | refine Acc.drewN ?_ _ | refine Acc.alloc ?_ _ | refine Acc.setCell ?_ ?_ _) | (refine leB ?_; omega)))
end Go.Proofs.YtgmpbdndkjnbfaaDoor
