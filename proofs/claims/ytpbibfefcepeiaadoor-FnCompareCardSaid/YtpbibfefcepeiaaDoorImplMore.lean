/-
  The program's differences, quotients, orders and wide numbers of fractions, with errors.
-/
import Derived.Test.YtpbibfefcepeiaaDoorImplOps
import Derived.Test.YtpbibfefcepeiaaDoorSpecWide
import Derived.Deep.RegionWith
namespace Go.Proofs.YtpbibfefcepeiaaDoor
open Go.ChangeShapes Go.WideShapes Go.ChangeAt Go.RowKit
set_option linter.unusedVariables false

theorem okF_wrap {a b c : Int} (ha : i64B a) (hb : i64B b) : okF (RowKit.wrap64 (-a)) (RowKit.wrap64 (-b)) c = okF a b c := by
  unfold i64B at ha hb
  by_cases h1 : a = -9223372036854775808
  · subst h1
    have e : RowKit.wrap64 (- -9223372036854775808) = -9223372036854775808 := by unfold RowKit.wrap64; omega
    rw [e]
    have p : partB (-9223372036854775808) = false := by decide
    unfold okF
    rw [p]; rfl
  by_cases h2 : b = -9223372036854775808
  · subst h2
    have e : RowKit.wrap64 (- -9223372036854775808) = -9223372036854775808 := by unfold RowKit.wrap64; omega
    rw [e]
    have p : partB (-9223372036854775808) = false := by decide
    unfold okF
    rw [p, Bool.and_false, Bool.and_false]; rfl
  have e1 : RowKit.wrap64 (-a) = -a := by unfold RowKit.wrap64; omega
  have e2 : RowKit.wrap64 (-b) = -b := by unfold RowKit.wrap64; omega
  rw [e1, e2, okF_neg2]
theorem sumF_wrap {x y z a b c : Int} (ha : i64B a) (hb : i64B b) : sumF 1 x y z (RowKit.wrap64 (-a)) (RowKit.wrap64 (-b)) c = sumF (-1) x y z a b c := by
  rw [sumF_neg]
  cases hk : okF a b c with
  | false =>
    have h1 := okF_wrap (c := c) ha hb
    rw [hk] at h1
    have h2 := okF_neg2 a b c
    rw [hk] at h2
    unfold sumF
    rw [h1, h2]
    simp only [Bool.and_false, Bool.false_eq_true, if_false]
  | true =>
    obtain ⟨⟨a0, a1⟩, ⟨b0, b1⟩, -⟩ := okF_bd hk
    rw [show RowKit.wrap64 (-a) = -a by unfold RowKit.wrap64; omega, show RowKit.wrap64 (-b) = -b by unfold RowKit.wrap64; omega]
theorem wrap64_i64 (n : Int) : i64B (RowKit.wrap64 n) := by unfold i64B RowKit.wrap64; omega
set_option maxHeartbeats 4000000 in
theorem minus_any (x y z a b c : Int) (w : World) (hx : i64B x) (hy : i64B y) (hz : i64B z) (ha : i64B a) (hb : i64B b) (hc : i64B c) :
    Calls Tryd.prog 54 #[.agg #[.int .i64 x, .int .i64 y, .int .i64 z], .agg #[.int .i64 a, .int .i64 b, .int .i64 c]] w (Erred (sumF (-1) x y z a b c) w) := by
  rw [← sumF_wrap ha hb]
  obtain ⟨a', ea⟩ : ∃ a', RowKit.wrap64 (-a) = a' := ⟨_, rfl⟩
  obtain ⟨b', eb⟩ : ∃ b', RowKit.wrap64 (-b) = b' := ⟨_, rfl⟩
  have ba : i64B a' := ea ▸ wrap64_i64 _
  have bb : i64B b' := eb ▸ wrap64_i64 _
  have HP := Lib.hid fun w => plus_any x y z a' b' c w hx hy hz ba bb hc
  have HQ := Lib.hid fun w => opposite_any a b c a' b' w ea eb
  rw [ea, eb]
  clear ea eb hx hy hz ha hb hc ba bb
  cases ho : sumF 1 x y z a' b' c with
  | none =>
    have HE := Lib.hid fun w => (HP.out w).mono fun e w' h => (⟨h.2.1 ho, h.2.2⟩ : _ ∧ _)
    clear ho HP
    go_enter Tryd.func54, Tryd.ntmps54
    go_upto_region 1 with fail
    go_region_with
      (first
        | (go_at_call 77; refine (HQ.out _).mono ?_; rintro e w' ⟨rfl, hb⟩; obtain ⟨q0, q1, q2⟩ := keep3 hb (b := w.heap.size) (x := .int .i64 x) (y := .int .i64 y) (z := .int .i64 z) (by go_simp); obtain ⟨q3, q4, q5⟩ := keep3 hb (b := w.heap.size + 1) (x := .int .i64 a) (y := .int .i64 b) (z := .int .i64 c) (by go_simp); obtain ⟨q6, q7, q8⟩ := keep3 hb (b := w.heap.size + 1 + 1) (x := .int .i64 0) (y := .int .i64 0) (z := .int .i64 0) (by go_simp); have hz : w.heap.size + 1 + 1 < w'.heap.size := World.block_lt_of_cell? _ _ q6; obtain ⟨f0, f1, f2⟩ := keepf3 hb (b := w.heap.size + 1 + 1) (by go_simp) (by go_simp); refine with_fact (A := Acc w w') ?_ ?_; (focus (refine Acc.call ?_ hb; (repeat' (first | assumption | exact Acc.refl _ | refine Acc.drew ?_ | refine Acc.alloc ?_ _ | refine Acc.setCell ?_ (by omega) _)))); intro ha; clear hb)
        | (go_at_call 58; refine (HE.out _).mono ?_; rintro e w' ⟨⟨s, rfl⟩, hb⟩; obtain ⟨q0, q1, q2⟩ := keep3 hb (b := w.heap.size) (x := .int .i64 x) (y := .int .i64 y) (z := .int .i64 z) (by go_simp); obtain ⟨q3, q4, q5⟩ := keep3 hb (b := w.heap.size + 1) (x := .int .i64 a) (y := .int .i64 b) (z := .int .i64 c) (by go_simp); obtain ⟨q6, q7, q8⟩ := keep3 hb (b := w.heap.size + 1 + 1) (x := .int .i64 0) (y := .int .i64 0) (z := .int .i64 0) (by go_simp); have hz : w.heap.size + 1 + 1 < w'.heap.size := World.block_lt_of_cell? _ _ q6; obtain ⟨f0, f1, f2⟩ := keepf3 hb (b := w.heap.size + 1 + 1) (by go_simp) (by go_simp); refine with_fact (A := Acc w w') ?_ ?_; (focus (refine Acc.call ?_ hb; (repeat' (first | assumption | exact Acc.refl _ | refine Acc.drew ?_ | refine Acc.alloc ?_ _ | refine Acc.setCell ?_ (by omega) _)))); intro ha; clear hb))
    all_goals
      go_wp2_with fail
      refine bodyPost_ret (v := .tuple #[.agg #[.int .i64 0, .int .i64 0, .int .i64 0], .iface 72 (.agg #[.string s])]) (by simp [results, Tryd.results54, go_sem, q6, q7, q8]) rfl ?_
      refine ⟨fun _ _ _ h => (by cases h), fun _ => ⟨_, rfl⟩, ?_⟩
      show Acc w _
      (repeat' (first | assumption | exact Acc.refl _ | refine Acc.drew ?_ | refine Acc.alloc ?_ _ | refine Acc.setCell ?_ (by omega) _))
  | some v =>
    obtain ⟨p, q, r⟩ := v
    have HE := Lib.hid fun w => (HP.out w).mono fun e w' h => (⟨h.1 _ _ _ ho, h.2.2⟩ : _ ∧ _)
    clear ho HP
    go_enter Tryd.func54, Tryd.ntmps54
    go_upto_region 1 with fail
    go_region_with
      (first
        | (go_at_call 77; refine (HQ.out _).mono ?_; rintro e w' ⟨rfl, hb⟩; obtain ⟨q0, q1, q2⟩ := keep3 hb (b := w.heap.size) (x := .int .i64 x) (y := .int .i64 y) (z := .int .i64 z) (by go_simp); obtain ⟨q3, q4, q5⟩ := keep3 hb (b := w.heap.size + 1) (x := .int .i64 a) (y := .int .i64 b) (z := .int .i64 c) (by go_simp); obtain ⟨q6, q7, q8⟩ := keep3 hb (b := w.heap.size + 1 + 1) (x := .int .i64 0) (y := .int .i64 0) (z := .int .i64 0) (by go_simp); have hz : w.heap.size + 1 + 1 < w'.heap.size := World.block_lt_of_cell? _ _ q6; obtain ⟨f0, f1, f2⟩ := keepf3 hb (b := w.heap.size + 1 + 1) (by go_simp) (by go_simp); refine with_fact (A := Acc w w') ?_ ?_; (focus (refine Acc.call ?_ hb; (repeat' (first | assumption | exact Acc.refl _ | refine Acc.drew ?_ | refine Acc.alloc ?_ _ | refine Acc.setCell ?_ (by omega) _)))); intro ha; clear hb)
        | (go_at_call 58; refine (HE.out _).mono ?_; rintro e w' ⟨rfl, hb⟩; obtain ⟨q0, q1, q2⟩ := keep3 hb (b := w.heap.size) (x := .int .i64 x) (y := .int .i64 y) (z := .int .i64 z) (by go_simp); obtain ⟨q3, q4, q5⟩ := keep3 hb (b := w.heap.size + 1) (x := .int .i64 a) (y := .int .i64 b) (z := .int .i64 c) (by go_simp); obtain ⟨q6, q7, q8⟩ := keep3 hb (b := w.heap.size + 1 + 1) (x := .int .i64 0) (y := .int .i64 0) (z := .int .i64 0) (by go_simp); have hz : w.heap.size + 1 + 1 < w'.heap.size := World.block_lt_of_cell? _ _ q6; obtain ⟨f0, f1, f2⟩ := keepf3 hb (b := w.heap.size + 1 + 1) (by go_simp) (by go_simp); refine with_fact (A := Acc w w') ?_ ?_; (focus (refine Acc.call ?_ hb; (repeat' (first | assumption | exact Acc.refl _ | refine Acc.drew ?_ | refine Acc.alloc ?_ _ | refine Acc.setCell ?_ (by omega) _)))); intro ha; clear hb))
    all_goals
      go_wp2_with fail
      refine bodyPost_ret (v := .tuple #[.agg #[.int .i64 p, .int .i64 q, .int .i64 r], .nilIface]) (by simp [results, Tryd.results54, go_sem, q6, q7, q8]) rfl ?_
      refine ⟨fun _ _ _ h => (by cases h; rfl), fun h => (by cases h), ?_⟩
      show Acc w _
      (repeat' (first | assumption | exact Acc.refl _ | refine Acc.drew ?_ | refine Acc.alloc ?_ _ | refine Acc.setCell ?_ (by omega) _))
end Go.Proofs.YtpbibfefcepeiaaDoor
