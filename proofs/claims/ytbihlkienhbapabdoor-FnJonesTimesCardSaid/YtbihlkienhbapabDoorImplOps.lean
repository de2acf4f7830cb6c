/-
  The program's sums, products, inverses, quotients of fractions, with errors.
-/
import Derived.Test.YtbihlkienhbapabDoorImplCheck
namespace Go.Proofs.YtbihlkienhbapabDoor
open Go.ChangeShapes Go.WideShapes Go.ChangeAt Go.RowKit
set_option linter.unusedVariables false

set_option maxHeartbeats 2000000 in
theorem plus_any (x y z a b c : Int) (w : World) (hx : i64B x) (hy : i64B y) (hz : i64B z) (ha : i64B a) (hb : i64B b) (hc : i64B c) :
    Calls Tryd.prog 68 #[.agg #[.int .i64 x, .int .i64 y, .int .i64 z], .agg #[.int .i64 a, .int .i64 b, .int .i64 c]] w (Erred (sumF 1 x y z a b c) w) := by
  have hb' := hb
  clear hb
  cases hk : (okF x y z && okF a b c) with
  | false =>
    have e : sumF 1 x y z a b c = none := by unfold sumF; rw [hk]; rfl
    rw [e]
    have HK := Lib.hid hk
    clear hk e
    go_enter Tryd.func68, Tryd.ntmps68
    go_wp2_with fail
    refine (checkBoth_any x y z a b c _ hx hy hz ha hb' hc).mono ?_
    rintro e w1 ⟨-, h1, hb⟩
    obtain ⟨s, rfl⟩ := h1 HK.out
    clear h1
    obtain ⟨q00, q01, q02⟩ := keep3 hb (b := w.heap.size) (x := .int .i64 x) (y := .int .i64 y) (z := .int .i64 z) (by go_simp)
    have kb0 : w.heap.size < w1.heap.size := World.block_lt_of_cell? _ _ q00
    obtain ⟨q10, q11, q12⟩ := keep3 hb (b := w.heap.size + 1) (x := .int .i64 a) (y := .int .i64 b) (z := .int .i64 c) (by go_simp)
    have kb1 : w.heap.size + 1 < w1.heap.size := World.block_lt_of_cell? _ _ q10
    obtain ⟨r0, r1, r2⟩ := keep3 hb (b := w.heap.size + 1 + 1) (x := .int .i64 0) (y := .int .i64 0) (z := .int .i64 0) (by go_simp)
    have kz : w.heap.size + 1 + 1 < w1.heap.size := World.block_lt_of_cell? _ _ r0
    obtain ⟨f0, f1, f2⟩ := keepf3 hb (b := w.heap.size + 1 + 1) (by go_simp) (by go_simp)
    have haw1 : Acc w w1 := by
      refine Acc.call ?_ hb
      (repeat' (first | assumption | exact Acc.refl _ | refine Acc.drew ?_ | refine Acc.alloc ?_ _ | refine Acc.setCell ?_ (by omega) _))
    clear hb
    go_wp2_with fail
    refine bodyPost_ret (v := .tuple #[.agg #[.int .i64 0, .int .i64 0, .int .i64 0], .iface 104 (.agg #[.string s])]) (by simp [results, Tryd.results68, go_sem, r0, r1, r2]) rfl ?_
    refine ⟨fun _ _ _ h => (by cases h), fun _ => ⟨_, rfl⟩, ?_⟩
    show Acc w _
    (repeat' (first | assumption | exact Acc.refl _ | refine Acc.drew ?_ | refine Acc.alloc ?_ _ | refine Acc.setCell ?_ (by omega) _))
  | true =>
    obtain ⟨k1, k2⟩ : okF x y z = true ∧ okF a b c = true := by simpa using hk
    obtain ⟨⟨x0, x1⟩, ⟨y0, y1⟩, ⟨z0, z1⟩⟩ := okF_bd k1
    obtain ⟨⟨a0, a1⟩, ⟨b0, b1⟩, ⟨c0, c1⟩⟩ := okF_bd k2
    have m1 := mul_bd (a := x) (b := c) (m := 2000000000) (n := 2000000000) (by omega) (by omega) (by omega) (by omega)
    have m2 := mul_bd (a := a) (b := z) (m := 2000000000) (n := 2000000000) (by omega) (by omega) (by omega) (by omega)
    have m3 := mul_bd (a := y) (b := c) (m := 2000000000) (n := 2000000000) (by omega) (by omega) (by omega) (by omega)
    have m4 := mul_bd (a := b) (b := z) (m := 2000000000) (n := 2000000000) (by omega) (by omega) (by omega) (by omega)
    have m5 := mul_bd (a := z) (b := c) (m := 2000000000) (n := 2000000000) (by omega) (by omega) (by omega) (by omega)
    have m6 : 1 ≤ z * c := by have := Int.mul_le_mul (a := 1) (b := 1) (c := z) (d := c) (by omega) (by omega) (by omega) (by omega); omega
    have N1 : -4000000000000000000 ≤ x * c := by omega
    have N2 : x * c ≤ 4000000000000000000 := by omega
    have N3 : -4000000000000000000 ≤ a * z := by omega
    have N4 : a * z ≤ 4000000000000000000 := by omega
    have N5 : -4000000000000000000 ≤ y * c := by omega
    have N6 : y * c ≤ 4000000000000000000 := by omega
    have N7 : -4000000000000000000 ≤ b * z := by omega
    have N8 : b * z ≤ 4000000000000000000 := by omega
    have N9 : z * c ≤ 4000000000000000000 := by omega
    clear m1 m2 m3 m4 m5
    have e : sumF 1 x y z a b c = lowE (x * c + a * z) (y * c + b * z) (z * c) := by
      unfold sumF lowE
      rw [hk, if_neg (show ¬ z * c < 1 by omega)]
      simp only [if_true, Int.one_mul]
    rw [e]
    have HK := Lib.hid hk
    clear hk k1 k2 e
    go_enter Tryd.func68, Tryd.ntmps68
    go_wp2_with fail
    refine (checkBoth_any x y z a b c _ hx hy hz ha hb' hc).mono ?_
    rintro e w1 ⟨h1, -, hb⟩
    obtain rfl := h1 HK.out
    clear h1
    obtain ⟨q00, q01, q02⟩ := keep3 hb (b := w.heap.size) (x := .int .i64 x) (y := .int .i64 y) (z := .int .i64 z) (by go_simp)
    have kb0 : w.heap.size < w1.heap.size := World.block_lt_of_cell? _ _ q00
    obtain ⟨q10, q11, q12⟩ := keep3 hb (b := w.heap.size + 1) (x := .int .i64 a) (y := .int .i64 b) (z := .int .i64 c) (by go_simp)
    have kb1 : w.heap.size + 1 < w1.heap.size := World.block_lt_of_cell? _ _ q10
    obtain ⟨r0, r1, r2⟩ := keep3 hb (b := w.heap.size + 1 + 1) (x := .int .i64 0) (y := .int .i64 0) (z := .int .i64 0) (by go_simp)
    have kz : w.heap.size + 1 + 1 < w1.heap.size := World.block_lt_of_cell? _ _ r0
    obtain ⟨f0, f1, f2⟩ := keepf3 hb (b := w.heap.size + 1 + 1) (by go_simp) (by go_simp)
    have haw1 : Acc w w1 := by
      refine Acc.call ?_ hb
      (repeat' (first | assumption | exact Acc.refl _ | refine Acc.drew ?_ | refine Acc.alloc ?_ _ | refine Acc.setCell ?_ (by omega) _))
    clear hb
    go_wp2_with fail
    refine (lowest_any (x * c + a * z) (y * c + b * z) (z * c) _ (by unfold i64B; omega) (by unfold i64B; omega) (by unfold i64B; omega)).mono ?_
    rintro e w2 ⟨h1, h2, hb⟩
    obtain ⟨q00, q01, q02⟩ := keep3 hb (b := w.heap.size) (x := .int .i64 x) (y := .int .i64 y) (z := .int .i64 z) (by go_simp)
    have kb0 : w.heap.size < w2.heap.size := World.block_lt_of_cell? _ _ q00
    obtain ⟨q10, q11, q12⟩ := keep3 hb (b := w.heap.size + 1) (x := .int .i64 a) (y := .int .i64 b) (z := .int .i64 c) (by go_simp)
    have kb1 : w.heap.size + 1 < w2.heap.size := World.block_lt_of_cell? _ _ q10
    obtain ⟨r0, r1, r2⟩ := keep3 hb (b := w.heap.size + 1 + 1) (x := .int .i64 0) (y := .int .i64 0) (z := .int .i64 0) (by go_simp)
    have kz : w.heap.size + 1 + 1 < w2.heap.size := World.block_lt_of_cell? _ _ r0
    obtain ⟨f0, f1, f2⟩ := keepf3 hb (b := w.heap.size + 1 + 1) (by go_simp) (by go_simp)
    have haw2 : Acc w w2 := by
      refine Acc.call ?_ hb
      (repeat' (first | assumption | exact Acc.refl _ | refine Acc.drew ?_ | refine Acc.alloc ?_ _ | refine Acc.setCell ?_ (by omega) _))
    clear hb
    cases ho : lowE (x * c + a * z) (y * c + b * z) (z * c) with
    | none =>
      obtain ⟨s, rfl⟩ := h2 ho
      have HO := Lib.hid ho
      clear h1 h2 ho
      go_wp2_with fail
      refine bodyPost_ret (v := .tuple #[.agg #[.int .i64 0, .int .i64 0, .int .i64 0], .iface 104 (.agg #[.string s])]) (by simp [results, Tryd.results68, go_sem, r0, r1, r2]) rfl ?_
      refine ⟨fun _ _ _ h => (by rw [HO.out] at h; cases h), fun _ => ⟨_, rfl⟩, ?_⟩
      show Acc w _
      (repeat' (first | assumption | exact Acc.refl _ | refine Acc.drew ?_ | refine Acc.alloc ?_ _ | refine Acc.setCell ?_ (by omega) _))
    | some v =>
      obtain ⟨p, q, r⟩ := v
      obtain rfl := h1 _ _ _ ho
      have HO := Lib.hid ho
      clear h1 h2 ho
      go_wp2_with fail
      refine bodyPost_ret (v := .tuple #[.agg #[.int .i64 p, .int .i64 q, .int .i64 r], .nilIface]) (by simp [results, Tryd.results68, go_sem, r0, r1, r2]) rfl ?_
      refine ⟨fun _ _ _ h => (by rw [HO.out] at h; cases h; rfl), fun h => (by rw [HO.out] at h; cases h), ?_⟩
      show Acc w _
      (repeat' (first | assumption | exact Acc.refl _ | refine Acc.drew ?_ | refine Acc.alloc ?_ _ | refine Acc.setCell ?_ (by omega) _))
set_option maxHeartbeats 2000000 in
theorem mtimes_any (x y z a b c : Int) (w : World) (hx : i64B x) (hy : i64B y) (hz : i64B z) (ha : i64B a) (hb : i64B b) (hc : i64B c) :
    Calls Tryd.prog 50 #[.agg #[.int .i64 x, .int .i64 y, .int .i64 z], .agg #[.int .i64 a, .int .i64 b, .int .i64 c]] w (Erred (timesF x y z a b c) w) := by
  have hb' := hb
  clear hb
  cases hk : (okF x y z && okF a b c) with
  | false =>
    have e : timesF x y z a b c = none := by unfold timesF; rw [hk]; rfl
    rw [e]
    have HK := Lib.hid hk
    clear hk e
    go_enter Tryd.func50, Tryd.ntmps50
    go_wp2_with fail
    refine (checkBoth_any x y z a b c _ hx hy hz ha hb' hc).mono ?_
    rintro e w1 ⟨-, h1, hb⟩
    obtain ⟨s, rfl⟩ := h1 HK.out
    clear h1
    obtain ⟨q00, q01, q02⟩ := keep3 hb (b := w.heap.size) (x := .int .i64 x) (y := .int .i64 y) (z := .int .i64 z) (by go_simp)
    have kb0 : w.heap.size < w1.heap.size := World.block_lt_of_cell? _ _ q00
    obtain ⟨q10, q11, q12⟩ := keep3 hb (b := w.heap.size + 1) (x := .int .i64 a) (y := .int .i64 b) (z := .int .i64 c) (by go_simp)
    have kb1 : w.heap.size + 1 < w1.heap.size := World.block_lt_of_cell? _ _ q10
    obtain ⟨r0, r1, r2⟩ := keep3 hb (b := w.heap.size + 1 + 1) (x := .int .i64 0) (y := .int .i64 0) (z := .int .i64 0) (by go_simp)
    have kz : w.heap.size + 1 + 1 < w1.heap.size := World.block_lt_of_cell? _ _ r0
    obtain ⟨f0, f1, f2⟩ := keepf3 hb (b := w.heap.size + 1 + 1) (by go_simp) (by go_simp)
    have haw1 : Acc w w1 := by
      refine Acc.call ?_ hb
      (repeat' (first | assumption | exact Acc.refl _ | refine Acc.drew ?_ | refine Acc.alloc ?_ _ | refine Acc.setCell ?_ (by omega) _))
    clear hb
    go_wp2_with fail
    refine bodyPost_ret (v := .tuple #[.agg #[.int .i64 0, .int .i64 0, .int .i64 0], .iface 104 (.agg #[.string s])]) (by simp [results, Tryd.results50, go_sem, r0, r1, r2]) rfl ?_
    refine ⟨fun _ _ _ h => (by cases h), fun _ => ⟨_, rfl⟩, ?_⟩
    show Acc w _
    (repeat' (first | assumption | exact Acc.refl _ | refine Acc.drew ?_ | refine Acc.alloc ?_ _ | refine Acc.setCell ?_ (by omega) _))
  | true =>
    obtain ⟨k1, k2⟩ : okF x y z = true ∧ okF a b c = true := by simpa using hk
    obtain ⟨⟨x0, x1⟩, ⟨y0, y1⟩, ⟨z0, z1⟩⟩ := okF_bd k1
    obtain ⟨⟨a0, a1⟩, ⟨b0, b1⟩, ⟨c0, c1⟩⟩ := okF_bd k2
    have m1 := mul_bd (a := x) (b := a) (m := 2000000000) (n := 2000000000) (by omega) (by omega) (by omega) (by omega)
    have m2 := mul_bd (a := y) (b := b) (m := 2000000000) (n := 2000000000) (by omega) (by omega) (by omega) (by omega)
    have m3 := mul_bd (a := x) (b := b) (m := 2000000000) (n := 2000000000) (by omega) (by omega) (by omega) (by omega)
    have m4 := mul_bd (a := y) (b := a) (m := 2000000000) (n := 2000000000) (by omega) (by omega) (by omega) (by omega)
    have m5 := mul_bd (a := z) (b := c) (m := 2000000000) (n := 2000000000) (by omega) (by omega) (by omega) (by omega)
    have m6 : 1 ≤ z * c := by have := Int.mul_le_mul (a := 1) (b := 1) (c := z) (d := c) (by omega) (by omega) (by omega) (by omega); omega
    have N1 : -4000000000000000000 ≤ x * a := by omega
    have N2 : x * a ≤ 4000000000000000000 := by omega
    have N3 : -4000000000000000000 ≤ y * b := by omega
    have N4 : y * b ≤ 4000000000000000000 := by omega
    have N5 : -4000000000000000000 ≤ x * b := by omega
    have N6 : x * b ≤ 4000000000000000000 := by omega
    have N7 : -4000000000000000000 ≤ y * a := by omega
    have N8 : y * a ≤ 4000000000000000000 := by omega
    have N9 : z * c ≤ 4000000000000000000 := by omega
    clear m1 m2 m3 m4 m5
    have e : timesF x y z a b c = lowE (x * a - y * b) (x * b + y * a) (z * c) := by
      unfold timesF lowE
      rw [hk, if_neg (show ¬ z * c < 1 by omega)]
      simp only [if_true]
    rw [e]
    have HK := Lib.hid hk
    clear hk k1 k2 e
    go_enter Tryd.func50, Tryd.ntmps50
    go_wp2_with fail
    refine (checkBoth_any x y z a b c _ hx hy hz ha hb' hc).mono ?_
    rintro e w1 ⟨h1, -, hb⟩
    obtain rfl := h1 HK.out
    clear h1
    obtain ⟨q00, q01, q02⟩ := keep3 hb (b := w.heap.size) (x := .int .i64 x) (y := .int .i64 y) (z := .int .i64 z) (by go_simp)
    have kb0 : w.heap.size < w1.heap.size := World.block_lt_of_cell? _ _ q00
    obtain ⟨q10, q11, q12⟩ := keep3 hb (b := w.heap.size + 1) (x := .int .i64 a) (y := .int .i64 b) (z := .int .i64 c) (by go_simp)
    have kb1 : w.heap.size + 1 < w1.heap.size := World.block_lt_of_cell? _ _ q10
    obtain ⟨r0, r1, r2⟩ := keep3 hb (b := w.heap.size + 1 + 1) (x := .int .i64 0) (y := .int .i64 0) (z := .int .i64 0) (by go_simp)
    have kz : w.heap.size + 1 + 1 < w1.heap.size := World.block_lt_of_cell? _ _ r0
    obtain ⟨f0, f1, f2⟩ := keepf3 hb (b := w.heap.size + 1 + 1) (by go_simp) (by go_simp)
    have haw1 : Acc w w1 := by
      refine Acc.call ?_ hb
      (repeat' (first | assumption | exact Acc.refl _ | refine Acc.drew ?_ | refine Acc.alloc ?_ _ | refine Acc.setCell ?_ (by omega) _))
    clear hb
    go_wp2_with fail
    refine (lowest_any (x * a - y * b) (x * b + y * a) (z * c) _ (by unfold i64B; omega) (by unfold i64B; omega) (by unfold i64B; omega)).mono ?_
    rintro e w2 ⟨h1, h2, hb⟩
    obtain ⟨q00, q01, q02⟩ := keep3 hb (b := w.heap.size) (x := .int .i64 x) (y := .int .i64 y) (z := .int .i64 z) (by go_simp)
    have kb0 : w.heap.size < w2.heap.size := World.block_lt_of_cell? _ _ q00
    obtain ⟨q10, q11, q12⟩ := keep3 hb (b := w.heap.size + 1) (x := .int .i64 a) (y := .int .i64 b) (z := .int .i64 c) (by go_simp)
    have kb1 : w.heap.size + 1 < w2.heap.size := World.block_lt_of_cell? _ _ q10
    obtain ⟨r0, r1, r2⟩ := keep3 hb (b := w.heap.size + 1 + 1) (x := .int .i64 0) (y := .int .i64 0) (z := .int .i64 0) (by go_simp)
    have kz : w.heap.size + 1 + 1 < w2.heap.size := World.block_lt_of_cell? _ _ r0
    obtain ⟨f0, f1, f2⟩ := keepf3 hb (b := w.heap.size + 1 + 1) (by go_simp) (by go_simp)
    have haw2 : Acc w w2 := by
      refine Acc.call ?_ hb
      (repeat' (first | assumption | exact Acc.refl _ | refine Acc.drew ?_ | refine Acc.alloc ?_ _ | refine Acc.setCell ?_ (by omega) _))
    clear hb
    cases ho : lowE (x * a - y * b) (x * b + y * a) (z * c) with
    | none =>
      obtain ⟨s, rfl⟩ := h2 ho
      have HO := Lib.hid ho
      clear h1 h2 ho
      go_wp2_with fail
      refine bodyPost_ret (v := .tuple #[.agg #[.int .i64 0, .int .i64 0, .int .i64 0], .iface 104 (.agg #[.string s])]) (by simp [results, Tryd.results50, go_sem, r0, r1, r2]) rfl ?_
      refine ⟨fun _ _ _ h => (by rw [HO.out] at h; cases h), fun _ => ⟨_, rfl⟩, ?_⟩
      show Acc w _
      (repeat' (first | assumption | exact Acc.refl _ | refine Acc.drew ?_ | refine Acc.alloc ?_ _ | refine Acc.setCell ?_ (by omega) _))
    | some v =>
      obtain ⟨p, q, r⟩ := v
      obtain rfl := h1 _ _ _ ho
      have HO := Lib.hid ho
      clear h1 h2 ho
      go_wp2_with fail
      refine bodyPost_ret (v := .tuple #[.agg #[.int .i64 p, .int .i64 q, .int .i64 r], .nilIface]) (by simp [results, Tryd.results50, go_sem, r0, r1, r2]) rfl ?_
      refine ⟨fun _ _ _ h => (by rw [HO.out] at h; cases h; rfl), fun h => (by rw [HO.out] at h; cases h), ?_⟩
      show Acc w _
      (repeat' (first | assumption | exact Acc.refl _ | refine Acc.drew ?_ | refine Acc.alloc ?_ _ | refine Acc.setCell ?_ (by omega) _))
set_option maxHeartbeats 2000000 in
theorem mirror_any (x y z : Int) (w : World) (hx : i64B x) (hy : i64B y) (hz : i64B z) :
    Calls Tryd.prog 61 #[.agg #[.int .i64 x, .int .i64 y, .int .i64 z]] w (Erred (mirrorF x y z) w) := by
  unfold mirrorF
  cases hk : okF x y z with
  | false =>
    rw [if_neg (by simp)]
    have HK := Lib.hid hk
    clear hk
    go_enter Tryd.func61, Tryd.ntmps61
    go_wp2_with fail
    refine (check_any x y z _ hx hy hz).mono ?_
    rintro e w1 ⟨-, h1, hb⟩
    obtain ⟨s, rfl⟩ := h1 HK.out
    clear h1
    obtain ⟨q00, q01, q02⟩ := keep3 hb (b := w.heap.size) (x := .int .i64 x) (y := .int .i64 y) (z := .int .i64 z) (by go_simp)
    have kb0 : w.heap.size < w1.heap.size := World.block_lt_of_cell? _ _ q00
    obtain ⟨r0, r1, r2⟩ := keep3 hb (b := w.heap.size + 1) (x := .int .i64 0) (y := .int .i64 0) (z := .int .i64 0) (by go_simp)
    have kz : w.heap.size + 1 < w1.heap.size := World.block_lt_of_cell? _ _ r0
    obtain ⟨f0, f1, f2⟩ := keepf3 hb (b := w.heap.size + 1) (by go_simp) (by go_simp)
    have haw1 : Acc w w1 := by
      refine Acc.call ?_ hb
      (repeat' (first | assumption | exact Acc.refl _ | refine Acc.drew ?_ | refine Acc.alloc ?_ _ | refine Acc.setCell ?_ (by omega) _))
    clear hb
    go_wp2_with fail
    refine bodyPost_ret (v := .tuple #[.agg #[.int .i64 0, .int .i64 0, .int .i64 0], .iface 104 (.agg #[.string s])]) (by simp [results, Tryd.results61, go_sem, r0, r1, r2]) rfl ?_
    refine ⟨fun _ _ _ h => (by cases h), fun _ => ⟨_, rfl⟩, ?_⟩
    show Acc w _
    (repeat' (first | assumption | exact Acc.refl _ | refine Acc.drew ?_ | refine Acc.alloc ?_ _ | refine Acc.setCell ?_ (by omega) _))
  | true =>
    rw [if_pos rfl]
    obtain ⟨⟨x0, x1⟩, ⟨y0, y1⟩, ⟨z0, z1⟩⟩ := okF_bd hk
    have HK := Lib.hid hk
    clear hk
    go_enter Tryd.func61, Tryd.ntmps61
    go_wp2_with fail
    refine (check_any x y z _ hx hy hz).mono ?_
    rintro e w1 ⟨h1, -, hb⟩
    obtain rfl := h1 HK.out
    clear h1
    obtain ⟨q00, q01, q02⟩ := keep3 hb (b := w.heap.size) (x := .int .i64 x) (y := .int .i64 y) (z := .int .i64 z) (by go_simp)
    have kb0 : w.heap.size < w1.heap.size := World.block_lt_of_cell? _ _ q00
    obtain ⟨r0, r1, r2⟩ := keep3 hb (b := w.heap.size + 1) (x := .int .i64 0) (y := .int .i64 0) (z := .int .i64 0) (by go_simp)
    have kz : w.heap.size + 1 < w1.heap.size := World.block_lt_of_cell? _ _ r0
    obtain ⟨f0, f1, f2⟩ := keepf3 hb (b := w.heap.size + 1) (by go_simp) (by go_simp)
    have haw1 : Acc w w1 := by
      refine Acc.call ?_ hb
      (repeat' (first | assumption | exact Acc.refl _ | refine Acc.drew ?_ | refine Acc.alloc ?_ _ | refine Acc.setCell ?_ (by omega) _))
    clear hb
    go_wp2_with fail
    refine bodyPost_ret (v := .tuple #[.agg #[.int .i64 x, .int .i64 (-y), .int .i64 z], .nilIface]) (by simp [results, Tryd.results61, go_sem, r0, r1, r2]) rfl ?_
    refine ⟨fun _ _ _ h => (by cases h; rfl), fun h => (by cases h), ?_⟩
    show Acc w _
    (repeat' (first | assumption | exact Acc.refl _ | refine Acc.drew ?_ | refine Acc.alloc ?_ _ | refine Acc.setCell ?_ (by omega) _))
set_option maxHeartbeats 2000000 in
theorem mpower_any (x y z : Int) (w : World) (hx : i64B x) (hy : i64B y) (hz : i64B z) :
    Calls Tryd.prog 62 #[.agg #[.int .i64 x, .int .i64 y, .int .i64 z]] w (Erred (powerF x y z) w) := by
  rw [power_eq]
  cases hk : okF x y z with
  | false =>
    rw [if_neg (by simp)]
    have HK := Lib.hid hk
    clear hk
    go_enter Tryd.func62, Tryd.ntmps62
    go_wp2_with fail
    refine (check_any x y z _ hx hy hz).mono ?_
    rintro e w1 ⟨-, h1, hb⟩
    obtain ⟨s, rfl⟩ := h1 HK.out
    clear h1
    obtain ⟨q00, q01, q02⟩ := keep3 hb (b := w.heap.size) (x := .int .i64 x) (y := .int .i64 y) (z := .int .i64 z) (by go_simp)
    have kb0 : w.heap.size < w1.heap.size := World.block_lt_of_cell? _ _ q00
    obtain ⟨r0, r1, r2⟩ := keep3 hb (b := w.heap.size + 1) (x := .int .i64 0) (y := .int .i64 0) (z := .int .i64 0) (by go_simp)
    have kz : w.heap.size + 1 < w1.heap.size := World.block_lt_of_cell? _ _ r0
    obtain ⟨f0, f1, f2⟩ := keepf3 hb (b := w.heap.size + 1) (by go_simp) (by go_simp)
    have haw1 : Acc w w1 := by
      refine Acc.call ?_ hb
      (repeat' (first | assumption | exact Acc.refl _ | refine Acc.drew ?_ | refine Acc.alloc ?_ _ | refine Acc.setCell ?_ (by omega) _))
    clear hb
    go_wp2_with fail
    refine bodyPost_ret (v := .tuple #[.agg #[.int .i64 0, .int .i64 0, .int .i64 0], .iface 104 (.agg #[.string s])]) (by simp [results, Tryd.results62, go_sem, r0, r1, r2]) rfl ?_
    refine ⟨fun _ _ _ h => (by cases h), fun _ => ⟨_, rfl⟩, ?_⟩
    show Acc w _
    (repeat' (first | assumption | exact Acc.refl _ | refine Acc.drew ?_ | refine Acc.alloc ?_ _ | refine Acc.setCell ?_ (by omega) _))
  | true =>
    rw [if_pos rfl]
    obtain ⟨⟨x0, x1⟩, ⟨y0, y1⟩, ⟨z0, z1⟩⟩ := okF_bd hk
    obtain ⟨N5, N6⟩ := sq_bd ⟨x0, x1⟩
    obtain ⟨N7, N8⟩ := sq_bd ⟨y0, y1⟩
    obtain ⟨N9, N10⟩ := sq_bd (x := z) ⟨by omega, z1⟩
    have HK := Lib.hid hk
    clear hk
    go_enter Tryd.func62, Tryd.ntmps62
    go_wp2_with fail
    refine (check_any x y z _ hx hy hz).mono ?_
    rintro e w1 ⟨h1, -, hb⟩
    obtain rfl := h1 HK.out
    clear h1
    obtain ⟨q00, q01, q02⟩ := keep3 hb (b := w.heap.size) (x := .int .i64 x) (y := .int .i64 y) (z := .int .i64 z) (by go_simp)
    have kb0 : w.heap.size < w1.heap.size := World.block_lt_of_cell? _ _ q00
    obtain ⟨r0, r1, r2⟩ := keep3 hb (b := w.heap.size + 1) (x := .int .i64 0) (y := .int .i64 0) (z := .int .i64 0) (by go_simp)
    have kz : w.heap.size + 1 < w1.heap.size := World.block_lt_of_cell? _ _ r0
    obtain ⟨f0, f1, f2⟩ := keepf3 hb (b := w.heap.size + 1) (by go_simp) (by go_simp)
    have haw1 : Acc w w1 := by
      refine Acc.call ?_ hb
      (repeat' (first | assumption | exact Acc.refl _ | refine Acc.drew ?_ | refine Acc.alloc ?_ _ | refine Acc.setCell ?_ (by omega) _))
    clear hb
    go_wp2_with fail
    refine (lowest_any (x * x + y * y) 0 (z * z) _ (by unfold i64B; omega) (by unfold i64B; omega) (by unfold i64B; omega)).mono ?_
    rintro e w2 ⟨h1, h2, hb⟩
    obtain ⟨q00, q01, q02⟩ := keep3 hb (b := w.heap.size) (x := .int .i64 x) (y := .int .i64 y) (z := .int .i64 z) (by go_simp)
    have kb0 : w.heap.size < w2.heap.size := World.block_lt_of_cell? _ _ q00
    obtain ⟨r0, r1, r2⟩ := keep3 hb (b := w.heap.size + 1) (x := .int .i64 0) (y := .int .i64 0) (z := .int .i64 0) (by go_simp)
    have kz : w.heap.size + 1 < w2.heap.size := World.block_lt_of_cell? _ _ r0
    obtain ⟨f0, f1, f2⟩ := keepf3 hb (b := w.heap.size + 1) (by go_simp) (by go_simp)
    have haw2 : Acc w w2 := by
      refine Acc.call ?_ hb
      (repeat' (first | assumption | exact Acc.refl _ | refine Acc.drew ?_ | refine Acc.alloc ?_ _ | refine Acc.setCell ?_ (by omega) _))
    clear hb
    cases ho : lowE (x * x + y * y) 0 (z * z) with
    | none =>
      obtain ⟨s, rfl⟩ := h2 ho
      have HO := Lib.hid ho
      clear h1 h2 ho
      go_wp2_with fail
      refine bodyPost_ret (v := .tuple #[.agg #[.int .i64 0, .int .i64 0, .int .i64 0], .iface 104 (.agg #[.string s])]) (by simp [results, Tryd.results62, go_sem, r0, r1, r2]) rfl ?_
      refine ⟨fun _ _ _ h => (by rw [HO.out] at h; cases h), fun _ => ⟨_, rfl⟩, ?_⟩
      show Acc w _
      (repeat' (first | assumption | exact Acc.refl _ | refine Acc.drew ?_ | refine Acc.alloc ?_ _ | refine Acc.setCell ?_ (by omega) _))
    | some v =>
      obtain ⟨p, q, r⟩ := v
      obtain rfl := h1 _ _ _ ho
      have HO := Lib.hid ho
      clear h1 h2 ho
      go_wp2_with fail
      refine bodyPost_ret (v := .tuple #[.agg #[.int .i64 p, .int .i64 q, .int .i64 r], .nilIface]) (by simp [results, Tryd.results62, go_sem, r0, r1, r2]) rfl ?_
      refine ⟨fun _ _ _ h => (by rw [HO.out] at h; cases h; rfl), fun h => (by rw [HO.out] at h; cases h), ?_⟩
      show Acc w _
      (repeat' (first | assumption | exact Acc.refl _ | refine Acc.drew ?_ | refine Acc.alloc ?_ _ | refine Acc.setCell ?_ (by omega) _))
end Go.Proofs.YtbihlkienhbapabDoor
