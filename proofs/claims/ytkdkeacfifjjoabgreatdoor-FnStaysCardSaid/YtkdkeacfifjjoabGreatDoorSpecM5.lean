/-
  The model: directions, rotators, phases.
-/
import Derived.Test.YtkdkeacfifjjoabGreatDoorSpecM1
import Derived.Test.YtkdkeacfifjjoabGreatDoorBMath
import Derived.Deep.RegionHeld3
namespace Go.Proofs.YtkdkeacfifjjoabGreatDoor
open Go.ChangeShapes Go.WideShapes Go.ChangeAt Go.RowKit
set_option linter.unusedVariables false

theorem in_at {a b : Bool} (h : a = b) {P : Program} {f : FuncId} {ar : Array Value} {w : World} (c : Calls P f ar w fun e w' => e = .returned (.bool a) ∧ w = w') :
    Calls P f ar w fun e w' => e = .returned (.bool b) ∧ w = w' := by subst h; exact c
theorem ddir_bd {p q : Int} (h : dirB p q = true) : inB p (-100) 100 = true ∧ inB q (-100) 100 = true ∧ ¬ (p = 0 ∧ q = 0) := by
  unfold dirB at h
  simp only [Bool.and_eq_true, Bool.not_eq_true', Bool.and_eq_false_iff, beq_eq_false_iff_ne] at h
  exact ⟨h.1.1, h.1.2, fun k => by rcases h.2 with h | h; exact h k.1; exact h k.2⟩
theorem dsq_bd {a : Int} (h1 : -100 ≤ a) (h2 : a ≤ 100) : 0 ≤ a * a ∧ a * a ≤ 10000 := by
  have := mul_bd (a := a) (b := a) (m := 100) (n := 100) (by omega) (by omega) (by omega) (by omega)
  exact ⟨isq_nonneg a, by omega⟩
theorem dtwo_bd {p q : Int} (hp : -100 ≤ p ∧ p ≤ 100) (hq : -100 ≤ q ∧ q ≤ 100) : -20000 ≤ 2 * p * q ∧ 2 * p * q ≤ 20000 := by
  have := mul_bd (a := p) (b := q) (m := 100) (n := 100) (by omega) (by omega) (by omega) (by omega)
  have e : 2 * p * q = 2 * (p * q) := by rw [Int.mul_assoc]
  omega
set_option maxHeartbeats 8000000 in
theorem specDir_yes (p q c1 c2 c3 s1 s2 s3 : Int) (h : dirB p q = true) (hc : dirC p q = (c1, c2, c3)) (hs : dirS p q = (s1, s2, s3)) (w : World) :
    Calls Tryz.prog 44 #[.int .i64 p, .int .i64 q] w fun e w' => e = .returned (.tuple #[.agg #[.int .i64 c1, .int .i64 c2, .int .i64 c3], .agg #[.int .i64 s1, .int .i64 s2, .int .i64 s3], .bool true]) ∧ Below w.heap.size w w' := by
  obtain ⟨i1, i2, hne⟩ := ddir_bd h
  have bp := inB_bd i1
  have bq := inB_bd i2
  have sp := dsq_bd bp.1 bp.2
  have sq := dsq_bd bq.1 bq.2
  have tb := dtwo_bd bp bq
  have H1 := Lib.hid fun w => in_at i1 (specIn_any p (-100) 100 w)
  have H2 := Lib.hid fun w => in_at i2 (specIn_any q (-100) 100 w)
  have HC := Lib.hid hc
  have HS := Lib.hid hs
  obtain ⟨kc, hkc⟩ : ∃ k, okR (makeF (p * p - q * q) 0 (p * p + q * q)) = k := ⟨_, rfl⟩
  obtain ⟨ks, hks⟩ : ∃ k, okR (makeF (2 * p * q) 0 (p * p + q * q)) = k := ⟨_, rfl⟩
  have DC := Lib.hid hkc
  have DS := Lib.hid hks
  clear i1 i2 hc hs hkc hks h
  by_cases hp : p = 0
  · have hq : ¬ q = 0 := fun e => hne ⟨hp, e⟩
    have hb1 : (p == 0) = true := by simp [hp]
    have hb2 : (q == 0) = false := by simp [hq]
    clear hne hp hq
    go_enter Tryz.func44, Tryz.ntmps44
    go_wp2_with fail
    refine (H1.out _).mono ?_
    rintro e wq ⟨rfl, rfl⟩
    go_wp2_with fail
    refine (H2.out _).mono ?_
    rintro e wq ⟨rfl, rfl⟩
    go_wp2_with fail
    refine (gave_any HC.out DC.out (specMake_any (p * p - q * q) 0 (p * p + q * q) _)).mono ?_
    rintro e W1 ⟨rfl, hb⟩
    obtain ⟨Brc, Brs⟩ : Blk W1 (w.heap.size) [.int .i64 0, .int .i64 0, .int .i64 0] ∧ Blk W1 (w.heap.size + 1) [.int .i64 0, .int .i64 0, .int .i64 0] := by
      refine ⟨?_, ?_⟩ <;> refine Blk.keep hb ?_ <;> (repeat' (first | (with_reducible first | assumption | refine Blk.drew ?_ | refine Blk.drewN ?_ _ | apply Blk.set | (refine Blk.new ?_; focus (first | rfl | (simp; done))) | refine Blk.alloc ?_ _ | refine Blk.other ?_ ?_ _) | exact eqL rfl | (refine neB ?_; omega)))
    have crc := Brc.cell
    have frc := Brc.free
    have lrc_W1 := Brc.lt
    have crs := Brs.cell
    have frs := Brs.free
    have lrs_W1 := Brs.lt
    have kaW1 : Acc w W1 := by
      refine Acc.call ?_ hb
      (repeat' (first | (with_reducible first | assumption | exact Acc.refl _ | refine Acc.drew ?_ | refine Acc.drewN ?_ _ | refine Acc.alloc ?_ _ | refine Acc.setCell ?_ ?_ _) | (refine leB ?_; omega)))
    clear hb
    go_wp2_with fail
    refine (gave_any HS.out DS.out (specMake_any (2 * p * q) 0 (p * p + q * q) _)).mono ?_
    rintro e W2 ⟨rfl, hb⟩
    obtain ⟨Brc, Brs, Bc⟩ : Blk W2 (w.heap.size) [.int .i64 0, .int .i64 0, .int .i64 0] ∧ Blk W2 (w.heap.size + 1) [.int .i64 0, .int .i64 0, .int .i64 0] ∧ Blk W2 (W1.heap.size) [.int .i64 c1, .int .i64 c2, .int .i64 c3] := by
      refine ⟨?_, ?_, ?_⟩ <;> refine Blk.keep hb ?_ <;> (repeat' (first | (with_reducible first | assumption | refine Blk.drew ?_ | refine Blk.drewN ?_ _ | apply Blk.set | (refine Blk.new ?_; focus (first | rfl | (simp; done))) | refine Blk.alloc ?_ _ | refine Blk.other ?_ ?_ _) | exact eqL rfl | (refine neB ?_; omega)))
    have crc := Brc.cell
    have frc := Brc.free
    have lrc_W2 := Brc.lt
    have crs := Brs.cell
    have frs := Brs.free
    have lrs_W2 := Brs.lt
    have cc := Bc.cell
    have fc := Bc.free
    have lc_W2 := Bc.lt
    have kaW2 : Acc w W2 := by
      refine Acc.call ?_ hb
      (repeat' (first | (with_reducible first | assumption | exact Acc.refl _ | refine Acc.drew ?_ | refine Acc.drewN ?_ _ | refine Acc.alloc ?_ _ | refine Acc.setCell ?_ ?_ _) | (refine leB ?_; omega)))
    clear hb
    go_upto_region 6 with fail
    go_region_held3 (fun w' => (∀ k, w'.cell? ⟨W1.heap.size, k, none⟩ = [.int .i64 c1, .int .i64 c2, .int .i64 c3][k]?) ∧ (∀ k, w'.cell? ⟨W2.heap.size, k, none⟩ = [.int .i64 s1, .int .i64 s2, .int .i64 s3][k]?))
      (((try dsimp only); (refine ⟨Blk.cell ?_, Blk.cell ?_⟩ <;> (repeat' (first | (with_reducible first | assumption | refine Blk.drew ?_ | refine Blk.drewN ?_ _ | apply Blk.set | (refine Blk.new ?_; focus (first | rfl | (simp; done))) | refine Blk.alloc ?_ _ | refine Blk.other ?_ ?_ _) | exact eqL rfl | (refine neB ?_; omega))))))
      (first
        | fail)
    all_goals
      go_wp2_with fail
      refine bodyPost_ret (v := .tuple #[.agg #[.int .i64 c1, .int .i64 c2, .int .i64 c3], .agg #[.int .i64 s1, .int .i64 s2, .int .i64 s3], .bool true]) (by simp [results, Tryz.results44, go_sem, *]) rfl ⟨rfl, ?_⟩
      show Acc w _
      (repeat' (first | (with_reducible first | assumption | exact Acc.refl _ | refine Acc.drew ?_ | refine Acc.drewN ?_ _ | refine Acc.alloc ?_ _ | refine Acc.setCell ?_ ?_ _) | (refine leB ?_; omega)))
  · clear hne
    go_enter Tryz.func44, Tryz.ntmps44
    go_wp2_with fail
    refine (H1.out _).mono ?_
    rintro e wq ⟨rfl, rfl⟩
    go_wp2_with fail
    refine (H2.out _).mono ?_
    rintro e wq ⟨rfl, rfl⟩
    go_wp2_with fail
    refine (gave_any HC.out DC.out (specMake_any (p * p - q * q) 0 (p * p + q * q) _)).mono ?_
    rintro e W1 ⟨rfl, hb⟩
    obtain ⟨Brc, Brs⟩ : Blk W1 (w.heap.size) [.int .i64 0, .int .i64 0, .int .i64 0] ∧ Blk W1 (w.heap.size + 1) [.int .i64 0, .int .i64 0, .int .i64 0] := by
      refine ⟨?_, ?_⟩ <;> refine Blk.keep hb ?_ <;> (repeat' (first | (with_reducible first | assumption | refine Blk.drew ?_ | refine Blk.drewN ?_ _ | apply Blk.set | (refine Blk.new ?_; focus (first | rfl | (simp; done))) | refine Blk.alloc ?_ _ | refine Blk.other ?_ ?_ _) | exact eqL rfl | (refine neB ?_; omega)))
    have crc := Brc.cell
    have frc := Brc.free
    have lrc_W1 := Brc.lt
    have crs := Brs.cell
    have frs := Brs.free
    have lrs_W1 := Brs.lt
    have kaW1 : Acc w W1 := by
      refine Acc.call ?_ hb
      (repeat' (first | (with_reducible first | assumption | exact Acc.refl _ | refine Acc.drew ?_ | refine Acc.drewN ?_ _ | refine Acc.alloc ?_ _ | refine Acc.setCell ?_ ?_ _) | (refine leB ?_; omega)))
    clear hb
    go_wp2_with fail
    refine (gave_any HS.out DS.out (specMake_any (2 * p * q) 0 (p * p + q * q) _)).mono ?_
    rintro e W2 ⟨rfl, hb⟩
    obtain ⟨Brc, Brs, Bc⟩ : Blk W2 (w.heap.size) [.int .i64 0, .int .i64 0, .int .i64 0] ∧ Blk W2 (w.heap.size + 1) [.int .i64 0, .int .i64 0, .int .i64 0] ∧ Blk W2 (W1.heap.size) [.int .i64 c1, .int .i64 c2, .int .i64 c3] := by
      refine ⟨?_, ?_, ?_⟩ <;> refine Blk.keep hb ?_ <;> (repeat' (first | (with_reducible first | assumption | refine Blk.drew ?_ | refine Blk.drewN ?_ _ | apply Blk.set | (refine Blk.new ?_; focus (first | rfl | (simp; done))) | refine Blk.alloc ?_ _ | refine Blk.other ?_ ?_ _) | exact eqL rfl | (refine neB ?_; omega)))
    have crc := Brc.cell
    have frc := Brc.free
    have lrc_W2 := Brc.lt
    have crs := Brs.cell
    have frs := Brs.free
    have lrs_W2 := Brs.lt
    have cc := Bc.cell
    have fc := Bc.free
    have lc_W2 := Bc.lt
    have kaW2 : Acc w W2 := by
      refine Acc.call ?_ hb
      (repeat' (first | (with_reducible first | assumption | exact Acc.refl _ | refine Acc.drew ?_ | refine Acc.drewN ?_ _ | refine Acc.alloc ?_ _ | refine Acc.setCell ?_ ?_ _) | (refine leB ?_; omega)))
    clear hb
    go_upto_region 6 with fail
    go_region_held3 (fun w' => (∀ k, w'.cell? ⟨W1.heap.size, k, none⟩ = [.int .i64 c1, .int .i64 c2, .int .i64 c3][k]?) ∧ (∀ k, w'.cell? ⟨W2.heap.size, k, none⟩ = [.int .i64 s1, .int .i64 s2, .int .i64 s3][k]?))
      (((try dsimp only); (refine ⟨Blk.cell ?_, Blk.cell ?_⟩ <;> (repeat' (first | (with_reducible first | assumption | refine Blk.drew ?_ | refine Blk.drewN ?_ _ | apply Blk.set | (refine Blk.new ?_; focus (first | rfl | (simp; done))) | refine Blk.alloc ?_ _ | refine Blk.other ?_ ?_ _) | exact eqL rfl | (refine neB ?_; omega))))))
      (first
        | fail)
    all_goals
      go_wp2_with fail
      refine bodyPost_ret (v := .tuple #[.agg #[.int .i64 c1, .int .i64 c2, .int .i64 c3], .agg #[.int .i64 s1, .int .i64 s2, .int .i64 s3], .bool true]) (by simp [results, Tryz.results44, go_sem, *]) rfl ⟨rfl, ?_⟩
      show Acc w _
      (repeat' (first | (with_reducible first | assumption | exact Acc.refl _ | refine Acc.drew ?_ | refine Acc.drewN ?_ _ | refine Acc.alloc ?_ _ | refine Acc.setCell ?_ ?_ _) | (refine leB ?_; omega)))
set_option maxHeartbeats 8000000 in
theorem specDir_no (p q : Int) (h : dirB p q = false) (w : World) :
    Calls Tryz.prog 44 #[.int .i64 p, .int .i64 q] w fun e w' => e = .returned (.tuple #[.agg #[.int .i64 0, .int .i64 0, .int .i64 0], .agg #[.int .i64 0, .int .i64 0, .int .i64 0], .bool false]) ∧ Below w.heap.size w w' := by
  cases i1 : inB p (-100) 100 with
  | false =>
    have H1 := Lib.hid fun w => in_at i1 (specIn_any p (-100) 100 w)
    clear i1 h
    go_enter Tryz.func44, Tryz.ntmps44
    go_wp2_with fail
    refine (H1.out _).mono ?_
    rintro e wq ⟨rfl, rfl⟩
    go_wp2_with fail
    refine bodyPost_ret (v := .tuple #[.agg #[.int .i64 0, .int .i64 0, .int .i64 0], .agg #[.int .i64 0, .int .i64 0, .int .i64 0], .bool false]) (by simp [results, Tryz.results44, go_sem, *]) rfl ⟨rfl, ?_⟩
    show Acc w _
    (repeat' (first | (with_reducible first | assumption | exact Acc.refl _ | refine Acc.drew ?_ | refine Acc.drewN ?_ _ | refine Acc.alloc ?_ _ | refine Acc.setCell ?_ ?_ _) | (refine leB ?_; omega)))
  | true =>
    have H1 := Lib.hid fun w => in_at i1 (specIn_any p (-100) 100 w)
    cases i2 : inB q (-100) 100 with
    | false =>
      have H2 := Lib.hid fun w => in_at i2 (specIn_any q (-100) 100 w)
      clear i1 i2 h
      go_enter Tryz.func44, Tryz.ntmps44
      go_wp2_with fail
      refine (H1.out _).mono ?_
      rintro e wq ⟨rfl, rfl⟩
      go_wp2_with fail
      refine (H2.out _).mono ?_
      rintro e wq ⟨rfl, rfl⟩
      go_wp2_with fail
      refine bodyPost_ret (v := .tuple #[.agg #[.int .i64 0, .int .i64 0, .int .i64 0], .agg #[.int .i64 0, .int .i64 0, .int .i64 0], .bool false]) (by simp [results, Tryz.results44, go_sem, *]) rfl ⟨rfl, ?_⟩
      show Acc w _
      (repeat' (first | (with_reducible first | assumption | exact Acc.refl _ | refine Acc.drew ?_ | refine Acc.drewN ?_ _ | refine Acc.alloc ?_ _ | refine Acc.setCell ?_ ?_ _) | (refine leB ?_; omega)))
    | true =>
      have H2 := Lib.hid fun w => in_at i2 (specIn_any q (-100) 100 w)
      unfold dirB at h
      rw [i1, i2] at h
      simp at h
      obtain ⟨rfl, rfl⟩ := h
      clear i1 i2
      go_enter Tryz.func44, Tryz.ntmps44
      go_wp2_with fail
      refine (H1.out _).mono ?_
      rintro e wq ⟨rfl, rfl⟩
      go_wp2_with fail
      refine (H2.out _).mono ?_
      rintro e wq ⟨rfl, rfl⟩
      go_wp2_with fail
      refine bodyPost_ret (v := .tuple #[.agg #[.int .i64 0, .int .i64 0, .int .i64 0], .agg #[.int .i64 0, .int .i64 0, .int .i64 0], .bool false]) (by simp [results, Tryz.results44, go_sem, *]) rfl ⟨rfl, ?_⟩
      show Acc w _
      (repeat' (first | (with_reducible first | assumption | exact Acc.refl _ | refine Acc.drew ?_ | refine Acc.drewN ?_ _ | refine Acc.alloc ?_ _ | refine Acc.setCell ?_ ?_ _) | (refine leB ?_; omega)))
set_option maxHeartbeats 8000000 in
theorem specRot_any (p q : Int) (w : World) :
    Calls Tryz.prog 106 #[.int .i64 p, .int .i64 q] w (Gave12 (rotM p q) w) := by
  cases h : dirB p q with
  | false =>
    rw [rot_not h]
    have HD := Lib.hid fun w => specDir_no p q h w
    clear h
    go_enter Tryz.func106, Tryz.ntmps106
    go_wp2_with fail
    refine (HD.out _).mono ?_
    rintro e W1 ⟨rfl, hb⟩
    have Br : Blk W1 (w.heap.size) [.int .i64 0, .int .i64 0, .int .i64 0, .int .i64 0, .int .i64 0, .int .i64 0, .int .i64 0, .int .i64 0, .int .i64 0, .int .i64 0, .int .i64 0, .int .i64 0] := Blk.keep hb (by repeat' (first | (with_reducible first | assumption | refine Blk.drew ?_ | refine Blk.drewN ?_ _ | apply Blk.set | (refine Blk.new ?_; focus (first | rfl | (simp; done))) | refine Blk.alloc ?_ _ | refine Blk.other ?_ ?_ _) | exact eqL rfl | (refine neB ?_; omega)))
    have cr := Br.cell
    have fr := Br.free
    have lr_W1 := Br.lt
    have kaW1 : Acc w W1 := by
      refine Acc.call ?_ hb
      (repeat' (first | (with_reducible first | assumption | exact Acc.refl _ | refine Acc.drew ?_ | refine Acc.drewN ?_ _ | refine Acc.alloc ?_ _ | refine Acc.setCell ?_ ?_ _) | (refine leB ?_; omega)))
    clear hb
    go_wp2_with fail
    refine (specFour_false 0 0 0 0 0 0 0 0 0 0 0 0 _).mono ?_
    rintro e W2 ⟨rfl, hb⟩
    have Br : Blk W2 (w.heap.size) [.int .i64 0, .int .i64 0, .int .i64 0, .int .i64 0, .int .i64 0, .int .i64 0, .int .i64 0, .int .i64 0, .int .i64 0, .int .i64 0, .int .i64 0, .int .i64 0] := Blk.keep hb (by repeat' (first | (with_reducible first | assumption | refine Blk.drew ?_ | refine Blk.drewN ?_ _ | apply Blk.set | (refine Blk.new ?_; focus (first | rfl | (simp; done))) | refine Blk.alloc ?_ _ | refine Blk.other ?_ ?_ _) | exact eqL rfl | (refine neB ?_; omega)))
    have cr := Br.cell
    have fr := Br.free
    have lr_W2 := Br.lt
    have kaW2 : Acc w W2 := by
      refine Acc.call ?_ hb
      (repeat' (first | (with_reducible first | assumption | exact Acc.refl _ | refine Acc.drew ?_ | refine Acc.drewN ?_ _ | refine Acc.alloc ?_ _ | refine Acc.setCell ?_ ?_ _) | (refine leB ?_; omega)))
    clear hb
    go_wp2_with fail
    refine bodyPost_ret (v := .tuple #[.agg #[.int .i64 0, .int .i64 0, .int .i64 0, .int .i64 0, .int .i64 0, .int .i64 0, .int .i64 0, .int .i64 0, .int .i64 0, .int .i64 0, .int .i64 0, .int .i64 0], .bool false]) (by simp [results, Tryz.results106, go_sem, *]) rfl ⟨fun _ _ _ _ _ _ _ _ _ _ _ _ h => (by cases h), fun _ => rfl, ?_⟩
    show Acc w _
    (repeat' (first | (with_reducible first | assumption | exact Acc.refl _ | refine Acc.drew ?_ | refine Acc.drewN ?_ _ | refine Acc.alloc ?_ _ | refine Acc.setCell ?_ ?_ _) | (refine leB ?_; omega)))
  | true =>
    rw [rot_some h]
    obtain ⟨n, x, y, -, -, -, -, -, -, -, -, oc, -, zc, os, -, zs, -, -⟩ := dir_val h
    obtain ⟨⟨c1, c2, c3⟩, hc⟩ : ∃ o, dirC p q = o := ⟨_, rfl⟩
    obtain ⟨⟨s1, s2, s3⟩, hs⟩ : ∃ o, dirS p q = o := ⟨_, rfl⟩
    have HD := Lib.hid fun w => specDir_yes p q c1 c2 c3 s1 s2 s3 h hc hs w
    rw [hc, hs]
    rw [hs] at os
    obtain ⟨⟨g1, g2⟩, -, -⟩ := okF_bd (show okF s1 s2 s3 = true from os)
    rw [show negT (s1, s2, s3) = (-s1, 0, s3) by unfold negT; rw [Int.zero_sub]]
    clear h hc hs oc zc os zs
    go_enter Tryz.func106, Tryz.ntmps106
    go_wp2_with fail
    refine (HD.out _).mono ?_
    rintro e W1 ⟨rfl, hb⟩
    have Br : Blk W1 (w.heap.size) [.int .i64 0, .int .i64 0, .int .i64 0, .int .i64 0, .int .i64 0, .int .i64 0, .int .i64 0, .int .i64 0, .int .i64 0, .int .i64 0, .int .i64 0, .int .i64 0] := Blk.keep hb (by repeat' (first | (with_reducible first | assumption | refine Blk.drew ?_ | refine Blk.drewN ?_ _ | apply Blk.set | (refine Blk.new ?_; focus (first | rfl | (simp; done))) | refine Blk.alloc ?_ _ | refine Blk.other ?_ ?_ _) | exact eqL rfl | (refine neB ?_; omega)))
    have cr := Br.cell
    have fr := Br.free
    have lr_W1 := Br.lt
    have kaW1 : Acc w W1 := by
      refine Acc.call ?_ hb
      (repeat' (first | (with_reducible first | assumption | exact Acc.refl _ | refine Acc.drew ?_ | refine Acc.drewN ?_ _ | refine Acc.alloc ?_ _ | refine Acc.setCell ?_ ?_ _) | (refine leB ?_; omega)))
    clear hb
    go_wp2_with fail
    refine (specFour_true c1 c2 c3 (-s1) 0 s3 s1 s2 s3 c1 c2 c3 _).mono ?_
    rintro e W2 ⟨rfl, hb⟩
    have Br : Blk W2 (w.heap.size) [.int .i64 0, .int .i64 0, .int .i64 0, .int .i64 0, .int .i64 0, .int .i64 0, .int .i64 0, .int .i64 0, .int .i64 0, .int .i64 0, .int .i64 0, .int .i64 0] := Blk.keep hb (by repeat' (first | (with_reducible first | assumption | refine Blk.drew ?_ | refine Blk.drewN ?_ _ | apply Blk.set | (refine Blk.new ?_; focus (first | rfl | (simp; done))) | refine Blk.alloc ?_ _ | refine Blk.other ?_ ?_ _) | exact eqL rfl | (refine neB ?_; omega)))
    have cr := Br.cell
    have fr := Br.free
    have lr_W2 := Br.lt
    have kaW2 : Acc w W2 := by
      refine Acc.call ?_ hb
      (repeat' (first | (with_reducible first | assumption | exact Acc.refl _ | refine Acc.drew ?_ | refine Acc.drewN ?_ _ | refine Acc.alloc ?_ _ | refine Acc.setCell ?_ ?_ _) | (refine leB ?_; omega)))
    clear hb
    go_wp2_with fail
    refine bodyPost_ret (v := .tuple #[.agg #[.int .i64 c1, .int .i64 c2, .int .i64 c3, .int .i64 (-s1), .int .i64 0, .int .i64 s3, .int .i64 s1, .int .i64 s2, .int .i64 s3, .int .i64 c1, .int .i64 c2, .int .i64 c3], .bool true]) (by simp [results, Tryz.results106, go_sem, *]) rfl ⟨fun _ _ _ _ _ _ _ _ _ _ _ _ h => (by cases h; rfl), fun h => (by cases h), ?_⟩
    show Acc w _
    (repeat' (first | (with_reducible first | assumption | exact Acc.refl _ | refine Acc.drew ?_ | refine Acc.drewN ?_ _ | refine Acc.alloc ?_ _ | refine Acc.setCell ?_ ?_ _) | (refine leB ?_; omega)))
set_option maxHeartbeats 4000000 in
theorem specPhase_0 (w : World) : Calls Tryz.prog 29 #[.int .i64 0] w fun e w' => e = .returned (.agg #[.int .i64 1, .int .i64 0, .int .i64 1]) ∧ Below w.heap.size w w' := by
  go_enter Tryz.func29, Tryz.ntmps29
  go_wp2_with fail
  refine bodyPost_ret (v := .agg #[.int .i64 1, .int .i64 0, .int .i64 1]) (by simp [results, Tryz.results29, go_sem, *]) rfl ⟨rfl, ?_⟩
  show Acc w _
  (repeat' (first | (with_reducible first | assumption | exact Acc.refl _ | refine Acc.drew ?_ | refine Acc.drewN ?_ _ | refine Acc.alloc ?_ _ | refine Acc.setCell ?_ ?_ _) | (refine leB ?_; omega)))
set_option maxHeartbeats 4000000 in
theorem specPhase_1 (w : World) : Calls Tryz.prog 29 #[.int .i64 1] w fun e w' => e = .returned (.agg #[.int .i64 0, .int .i64 1, .int .i64 1]) ∧ Below w.heap.size w w' := by
  go_enter Tryz.func29, Tryz.ntmps29
  go_wp2_with fail
  refine bodyPost_ret (v := .agg #[.int .i64 0, .int .i64 1, .int .i64 1]) (by simp [results, Tryz.results29, go_sem, *]) rfl ⟨rfl, ?_⟩
  show Acc w _
  (repeat' (first | (with_reducible first | assumption | exact Acc.refl _ | refine Acc.drew ?_ | refine Acc.drewN ?_ _ | refine Acc.alloc ?_ _ | refine Acc.setCell ?_ ?_ _) | (refine leB ?_; omega)))
set_option maxHeartbeats 4000000 in
theorem specPhase_2 (w : World) : Calls Tryz.prog 29 #[.int .i64 2] w fun e w' => e = .returned (.agg #[.int .i64 (-1), .int .i64 0, .int .i64 1]) ∧ Below w.heap.size w w' := by
  go_enter Tryz.func29, Tryz.ntmps29
  go_wp2_with fail
  refine bodyPost_ret (v := .agg #[.int .i64 (-1), .int .i64 0, .int .i64 1]) (by simp [results, Tryz.results29, go_sem, *]) rfl ⟨rfl, ?_⟩
  show Acc w _
  (repeat' (first | (with_reducible first | assumption | exact Acc.refl _ | refine Acc.drew ?_ | refine Acc.drewN ?_ _ | refine Acc.alloc ?_ _ | refine Acc.setCell ?_ ?_ _) | (refine leB ?_; omega)))
set_option maxHeartbeats 4000000 in
theorem specPhase_3 (w : World) : Calls Tryz.prog 29 #[.int .i64 3] w fun e w' => e = .returned (.agg #[.int .i64 0, .int .i64 (-1), .int .i64 1]) ∧ Below w.heap.size w w' := by
  go_enter Tryz.func29, Tryz.ntmps29
  go_wp2_with fail
  refine bodyPost_ret (v := .agg #[.int .i64 0, .int .i64 (-1), .int .i64 1]) (by simp [results, Tryz.results29, go_sem, *]) rfl ⟨rfl, ?_⟩
  show Acc w _
  (repeat' (first | (with_reducible first | assumption | exact Acc.refl _ | refine Acc.drew ?_ | refine Acc.drewN ?_ _ | refine Acc.alloc ?_ _ | refine Acc.setCell ?_ ?_ _) | (refine leB ?_; omega)))
theorem specPhase_any (k p1 p2 p3 : Int) (hk : inB k 0 3 = true) (hp : phaT k = (p1, p2, p3)) (w : World) : Calls Tryz.prog 29 #[.int .i64 k] w fun e w' => e = .returned (.agg #[.int .i64 p1, .int .i64 p2, .int .i64 p3]) ∧ Below w.heap.size w w' := by
  rcases pha_in hk with rfl | rfl | rfl | rfl
  · obtain ⟨rfl, rfl, rfl⟩ : 1 = p1 ∧ 0 = p2 ∧ 1 = p3 := by simpa [phaT] using hp
    exact specPhase_0 w
  · obtain ⟨rfl, rfl, rfl⟩ : 0 = p1 ∧ 1 = p2 ∧ 1 = p3 := by simpa [phaT] using hp
    exact specPhase_1 w
  · obtain ⟨rfl, rfl, rfl⟩ : -1 = p1 ∧ 0 = p2 ∧ 1 = p3 := by simpa [phaT] using hp
    exact specPhase_2 w
  · obtain ⟨rfl, rfl, rfl⟩ : 0 = p1 ∧ -1 = p2 ∧ 1 = p3 := by simpa [phaT] using hp
    exact specPhase_3 w
end Go.Proofs.YtkdkeacfifjjoabGreatDoor
