/-
  The program's elements, turned.
-/
import Derived.Test.YtiibnncanpohjaaDoorImplM1
import Derived.Test.YtiibnncanpohjaaDoorBMath
import Derived.Deep.RegionHeld3
import Derived.Deep.RegionWith
import Derived.Deep.QuietTactic
import Derived.BigQuiet
namespace Go.Proofs.YtiibnncanpohjaaDoor
open Go.ChangeShapes Go.WideShapes Go.ChangeAt Go.RowKit
set_option linter.unusedVariables false

theorem ddir_bd2 {p q : Int} (h : dirB p q = true) : (-100 ≤ p ∧ p ≤ 100) ∧ (-100 ≤ q ∧ q ≤ 100) ∧ ¬ (p = 0 ∧ q = 0) := by
  unfold dirB at h
  simp only [Bool.and_eq_true, Bool.not_eq_true', Bool.and_eq_false_iff, beq_eq_false_iff_ne] at h
  exact ⟨inB_bd h.1.1, inB_bd h.1.2, fun k => by rcases h.2 with h | h; exact h k.1; exact h k.2⟩
theorem dno {p q : Int} (h : dirB p q = false) (hp : -100 ≤ p ∧ p ≤ 100) (hq : -100 ≤ q ∧ q ≤ 100) : p = 0 ∧ q = 0 := by
  unfold dirB inB at h
  simp only [Bool.and_eq_false_iff, decide_eq_false_iff_not, Bool.not_eq_false', Bool.and_eq_true, beq_iff_eq] at h
  omega
theorem dsq_bd2 {a : Int} (h1 : -100 ≤ a) (h2 : a ≤ 100) : 0 ≤ a * a ∧ a * a ≤ 10000 := by
  have := mul_bd (a := a) (b := a) (m := 100) (n := 100) (by omega) (by omega) (by omega) (by omega)
  exact ⟨isq_nonneg a, by omega⟩
theorem dtwo_bd2 {p q : Int} (hp : -100 ≤ p ∧ p ≤ 100) (hq : -100 ≤ q ∧ q ≤ 100) : -20000 ≤ 2 * p * q ∧ 2 * p * q ≤ 20000 := by
  have := mul_bd (a := p) (b := q) (m := 100) (n := 100) (by omega) (by omega) (by omega) (by omega)
  have e : 2 * p * q = 2 * (p * q) := by rw [Int.mul_assoc]
  omega
/-- The program's lowest terms of a direction. -/
theorem low_dir {x n : Int} {u : F3} (hn : 1 ≤ n) (h : makeF x 0 n = some u) : lowE x 0 n = some u := by
  unfold makeF at h
  split at h
  · unfold lowE
    rw [if_neg (by omega)]
    exact h
  · cases h
set_option maxHeartbeats 16000000 in
theorem turned_rot (p q c1 c2 c3 s1 s2 s3 : Int) (hip : i64B p) (hiq : i64B q) (h : dirB p q = true) (hc : dirC p q = (c1, c2, c3)) (hs : dirS p q = (s1, s2, s3)) (o : Option ((Int × Int × Int) × (Int × Int × Int) × (Int × Int × Int) × (Int × Int × Int))) (w : World)
    (K : ∀ W, Acc w W → Calls Tryd.prog 78 #[.agg #[.int .i64 c1, .int .i64 c2, .int .i64 c3], .agg #[.int .i64 s1, .int .i64 s2, .int .i64 s3]] W (Erred12 o W)) :
    Calls Tryd.prog 45 #[.agg #[.func (.func 78) #[] #[]], .int .i64 p, .int .i64 q] w (Erred12 o w) := by
  obtain ⟨bp, bq, hne⟩ := ddir_bd2 h
  have sp := dsq_bd2 bp.1 bp.2
  have sq := dsq_bd2 bq.1 bq.2
  have tb := dtwo_bd2 bp bq
  obtain ⟨n, x, y, en, ex, ey, n1, -, -, -, -, oc, -, -, os, -, -, mc, ms⟩ := dir_val h
  subst en ex ey
  rw [hc] at mc oc
  rw [hs] at ms os
  have lc := low_dir n1 mc
  have ls := low_dir n1 ms
  have HC := Lib.hid fun w => lowest_any (p * p - q * q) 0 (p * p + q * q) w (by unfold i64B; omega) (by unfold i64B; omega) (by unfold i64B; omega)
  have HS := Lib.hid fun w => lowest_any (2 * p * q) 0 (p * p + q * q) w (by unfold i64B; omega) (by unfold i64B; omega) (by unfold i64B; omega)
  rw [lc] at HC
  rw [ls] at HS
  have HK := Lib.hid K
  clear hne h hc hs mc ms lc ls oc os n1 K
  rcases (show p < q ∨ (¬ p < q ∧ q < p) ∨ (¬ p < q ∧ ¬ q < p) by omega) with hlt | ⟨hlt, hlt2⟩ | ⟨hlt, hlt2⟩
  · skip
    go_enter Tryd.func45, Tryd.ntmps45
    go_wp2_with fail
    refine (HC.out _).mono ?_
    rintro e W1 ⟨h, -, hb⟩
    obtain rfl := h _ _ _ rfl
    clear h
    obtain ⟨Be, Bz⟩ : Blk W1 (w.heap.size) [.func (.func 78) #[] #[]] ∧ Blk W1 (w.heap.size + 1) [.int .i64 0, .int .i64 0, .int .i64 0, .int .i64 0, .int .i64 0, .int .i64 0, .int .i64 0, .int .i64 0, .int .i64 0, .int .i64 0, .int .i64 0, .int .i64 0] := by
      refine ⟨?_, ?_⟩ <;> refine Blk.keep hb ?_ <;> (repeat' (first | (with_reducible first | assumption | refine Blk.drew ?_ | refine Blk.drewN ?_ _ | apply Blk.set | (refine Blk.new ?_; focus (first | rfl | (simp; done))) | refine Blk.alloc ?_ _ | refine Blk.other ?_ ?_ _) | exact eqL rfl | (refine neB ?_; omega)))
    have ce := Be.cell
    have fe := Be.free
    have le_W1 := Be.lt
    have cz := Bz.cell
    have fz := Bz.free
    have lz_W1 := Bz.lt
    have kaW1 : Acc w W1 := by
      refine Acc.call ?_ hb
      (repeat' (first | (with_reducible first | assumption | exact Acc.refl _ | refine Acc.drew ?_ | refine Acc.drewN ?_ _ | refine Acc.alloc ?_ _ | refine Acc.setCell ?_ ?_ _) | (refine leB ?_; omega)))
    clear hb
    go_wp2_with fail
    refine (HS.out _).mono ?_
    rintro e W2 ⟨h, -, hb⟩
    obtain rfl := h _ _ _ rfl
    clear h
    obtain ⟨Be, Bz, Bc⟩ : Blk W2 (w.heap.size) [.func (.func 78) #[] #[]] ∧ Blk W2 (w.heap.size + 1) [.int .i64 0, .int .i64 0, .int .i64 0, .int .i64 0, .int .i64 0, .int .i64 0, .int .i64 0, .int .i64 0, .int .i64 0, .int .i64 0, .int .i64 0, .int .i64 0] ∧ Blk W2 (W1.heap.size) [.int .i64 c1, .int .i64 c2, .int .i64 c3] := by
      refine ⟨?_, ?_, ?_⟩ <;> refine Blk.keep hb ?_ <;> (repeat' (first | (with_reducible first | assumption | refine Blk.drew ?_ | refine Blk.drewN ?_ _ | apply Blk.set | (refine Blk.new ?_; focus (first | rfl | (simp; done))) | refine Blk.alloc ?_ _ | refine Blk.other ?_ ?_ _) | exact eqL rfl | (refine neB ?_; omega)))
    have ce := Be.cell
    have fe := Be.free
    have le_W2 := Be.lt
    have cz := Bz.cell
    have fz := Bz.free
    have lz_W2 := Bz.lt
    have cc := Bc.cell
    have fc := Bc.free
    have lc_W2 := Bc.lt
    have kaW2 : Acc w W2 := by
      refine Acc.call ?_ hb
      (repeat' (first | (with_reducible first | assumption | exact Acc.refl _ | refine Acc.drew ?_ | refine Acc.drewN ?_ _ | refine Acc.alloc ?_ _ | refine Acc.setCell ?_ ?_ _) | (refine leB ?_; omega)))
    clear hb
    go_wp2_with fail
    refine (HK.out _ (by repeat' (first | (with_reducible first | assumption | exact Acc.refl _ | refine Acc.drew ?_ | refine Acc.drewN ?_ _ | refine Acc.alloc ?_ _ | refine Acc.setCell ?_ ?_ _) | (refine leB ?_; omega)))).mono ?_
    rintro e W3 ⟨h1, h2, hb⟩
    obtain ⟨Be, Bz, Bc, Bs⟩ : Blk W3 (w.heap.size) [.func (.func 78) #[] #[]] ∧ Blk W3 (w.heap.size + 1) [.int .i64 0, .int .i64 0, .int .i64 0, .int .i64 0, .int .i64 0, .int .i64 0, .int .i64 0, .int .i64 0, .int .i64 0, .int .i64 0, .int .i64 0, .int .i64 0] ∧ Blk W3 (W1.heap.size) [.int .i64 c1, .int .i64 c2, .int .i64 c3] ∧ Blk W3 (W2.heap.size) [.int .i64 s1, .int .i64 s2, .int .i64 s3] := by
      refine ⟨?_, ?_, ?_, ?_⟩ <;> refine Blk.keep hb ?_ <;> (repeat' (first | (with_reducible first | assumption | refine Blk.drew ?_ | refine Blk.drewN ?_ _ | apply Blk.set | (refine Blk.new ?_; focus (first | rfl | (simp; done))) | refine Blk.alloc ?_ _ | refine Blk.other ?_ ?_ _) | exact eqL rfl | (refine neB ?_; omega)))
    have ce := Be.cell
    have fe := Be.free
    have le_W3 := Be.lt
    have cz := Bz.cell
    have fz := Bz.free
    have lz_W3 := Bz.lt
    have cc := Bc.cell
    have fc := Bc.free
    have lc_W3 := Bc.lt
    have cs := Bs.cell
    have fs := Bs.free
    have ls_W3 := Bs.lt
    have kaW3 : Acc w W3 := by
      refine Acc.call ?_ hb
      (repeat' (first | (with_reducible first | assumption | exact Acc.refl _ | refine Acc.drew ?_ | refine Acc.drewN ?_ _ | refine Acc.alloc ?_ _ | refine Acc.setCell ?_ ?_ _) | (refine leB ?_; omega)))
    clear hb
    cases o with
    | none =>
      obtain ⟨s, rfl⟩ := h2 rfl
      clear h1 h2
      go_wp2_with fail
      refine bodyPost_ret (v := .tuple #[.agg #[.int .i64 0, .int .i64 0, .int .i64 0, .int .i64 0, .int .i64 0, .int .i64 0, .int .i64 0, .int .i64 0, .int .i64 0, .int .i64 0, .int .i64 0, .int .i64 0], .iface 103 (.agg #[.string s])]) (by simp [results, Tryd.results45, go_sem, *]) rfl ⟨fun _ _ _ _ _ _ _ _ _ _ _ _ h => (by cases h), fun _ => ⟨_, rfl⟩, ?_⟩
      show Acc w _
      (repeat' (first | (with_reducible first | assumption | exact Acc.refl _ | refine Acc.drew ?_ | refine Acc.drewN ?_ _ | refine Acc.alloc ?_ _ | refine Acc.setCell ?_ ?_ _) | (refine leB ?_; omega)))
    | some v =>
      obtain ⟨⟨p1, p2, p3⟩, ⟨t1, t2, t3⟩, ⟨r1, r2, r3⟩, u1, u2, u3⟩ := v
      obtain rfl := h1 _ _ _ _ _ _ _ _ _ _ _ _ rfl
      clear h1 h2
      go_wp2_with fail
      refine bodyPost_ret (v := .tuple #[.agg #[.int .i64 p1, .int .i64 p2, .int .i64 p3, .int .i64 t1, .int .i64 t2, .int .i64 t3, .int .i64 r1, .int .i64 r2, .int .i64 r3, .int .i64 u1, .int .i64 u2, .int .i64 u3], .nilIface]) (by simp [results, Tryd.results45, go_sem, *]) rfl ⟨fun _ _ _ _ _ _ _ _ _ _ _ _ h => (by cases h; rfl), fun h => (by cases h), ?_⟩
      show Acc w _
      (repeat' (first | (with_reducible first | assumption | exact Acc.refl _ | refine Acc.drew ?_ | refine Acc.drewN ?_ _ | refine Acc.alloc ?_ _ | refine Acc.setCell ?_ ?_ _) | (refine leB ?_; omega)))
  · skip
    go_enter Tryd.func45, Tryd.ntmps45
    go_wp2_with fail
    refine (HC.out _).mono ?_
    rintro e W1 ⟨h, -, hb⟩
    obtain rfl := h _ _ _ rfl
    clear h
    obtain ⟨Be, Bz⟩ : Blk W1 (w.heap.size) [.func (.func 78) #[] #[]] ∧ Blk W1 (w.heap.size + 1) [.int .i64 0, .int .i64 0, .int .i64 0, .int .i64 0, .int .i64 0, .int .i64 0, .int .i64 0, .int .i64 0, .int .i64 0, .int .i64 0, .int .i64 0, .int .i64 0] := by
      refine ⟨?_, ?_⟩ <;> refine Blk.keep hb ?_ <;> (repeat' (first | (with_reducible first | assumption | refine Blk.drew ?_ | refine Blk.drewN ?_ _ | apply Blk.set | (refine Blk.new ?_; focus (first | rfl | (simp; done))) | refine Blk.alloc ?_ _ | refine Blk.other ?_ ?_ _) | exact eqL rfl | (refine neB ?_; omega)))
    have ce := Be.cell
    have fe := Be.free
    have le_W1 := Be.lt
    have cz := Bz.cell
    have fz := Bz.free
    have lz_W1 := Bz.lt
    have kaW1 : Acc w W1 := by
      refine Acc.call ?_ hb
      (repeat' (first | (with_reducible first | assumption | exact Acc.refl _ | refine Acc.drew ?_ | refine Acc.drewN ?_ _ | refine Acc.alloc ?_ _ | refine Acc.setCell ?_ ?_ _) | (refine leB ?_; omega)))
    clear hb
    go_wp2_with fail
    refine (HS.out _).mono ?_
    rintro e W2 ⟨h, -, hb⟩
    obtain rfl := h _ _ _ rfl
    clear h
    obtain ⟨Be, Bz, Bc⟩ : Blk W2 (w.heap.size) [.func (.func 78) #[] #[]] ∧ Blk W2 (w.heap.size + 1) [.int .i64 0, .int .i64 0, .int .i64 0, .int .i64 0, .int .i64 0, .int .i64 0, .int .i64 0, .int .i64 0, .int .i64 0, .int .i64 0, .int .i64 0, .int .i64 0] ∧ Blk W2 (W1.heap.size) [.int .i64 c1, .int .i64 c2, .int .i64 c3] := by
      refine ⟨?_, ?_, ?_⟩ <;> refine Blk.keep hb ?_ <;> (repeat' (first | (with_reducible first | assumption | refine Blk.drew ?_ | refine Blk.drewN ?_ _ | apply Blk.set | (refine Blk.new ?_; focus (first | rfl | (simp; done))) | refine Blk.alloc ?_ _ | refine Blk.other ?_ ?_ _) | exact eqL rfl | (refine neB ?_; omega)))
    have ce := Be.cell
    have fe := Be.free
    have le_W2 := Be.lt
    have cz := Bz.cell
    have fz := Bz.free
    have lz_W2 := Bz.lt
    have cc := Bc.cell
    have fc := Bc.free
    have lc_W2 := Bc.lt
    have kaW2 : Acc w W2 := by
      refine Acc.call ?_ hb
      (repeat' (first | (with_reducible first | assumption | exact Acc.refl _ | refine Acc.drew ?_ | refine Acc.drewN ?_ _ | refine Acc.alloc ?_ _ | refine Acc.setCell ?_ ?_ _) | (refine leB ?_; omega)))
    clear hb
    go_wp2_with fail
    refine (HK.out _ (by repeat' (first | (with_reducible first | assumption | exact Acc.refl _ | refine Acc.drew ?_ | refine Acc.drewN ?_ _ | refine Acc.alloc ?_ _ | refine Acc.setCell ?_ ?_ _) | (refine leB ?_; omega)))).mono ?_
    rintro e W3 ⟨h1, h2, hb⟩
    obtain ⟨Be, Bz, Bc, Bs⟩ : Blk W3 (w.heap.size) [.func (.func 78) #[] #[]] ∧ Blk W3 (w.heap.size + 1) [.int .i64 0, .int .i64 0, .int .i64 0, .int .i64 0, .int .i64 0, .int .i64 0, .int .i64 0, .int .i64 0, .int .i64 0, .int .i64 0, .int .i64 0, .int .i64 0] ∧ Blk W3 (W1.heap.size) [.int .i64 c1, .int .i64 c2, .int .i64 c3] ∧ Blk W3 (W2.heap.size) [.int .i64 s1, .int .i64 s2, .int .i64 s3] := by
      refine ⟨?_, ?_, ?_, ?_⟩ <;> refine Blk.keep hb ?_ <;> (repeat' (first | (with_reducible first | assumption | refine Blk.drew ?_ | refine Blk.drewN ?_ _ | apply Blk.set | (refine Blk.new ?_; focus (first | rfl | (simp; done))) | refine Blk.alloc ?_ _ | refine Blk.other ?_ ?_ _) | exact eqL rfl | (refine neB ?_; omega)))
    have ce := Be.cell
    have fe := Be.free
    have le_W3 := Be.lt
    have cz := Bz.cell
    have fz := Bz.free
    have lz_W3 := Bz.lt
    have cc := Bc.cell
    have fc := Bc.free
    have lc_W3 := Bc.lt
    have cs := Bs.cell
    have fs := Bs.free
    have ls_W3 := Bs.lt
    have kaW3 : Acc w W3 := by
      refine Acc.call ?_ hb
      (repeat' (first | (with_reducible first | assumption | exact Acc.refl _ | refine Acc.drew ?_ | refine Acc.drewN ?_ _ | refine Acc.alloc ?_ _ | refine Acc.setCell ?_ ?_ _) | (refine leB ?_; omega)))
    clear hb
    cases o with
    | none =>
      obtain ⟨s, rfl⟩ := h2 rfl
      clear h1 h2
      go_wp2_with fail
      refine bodyPost_ret (v := .tuple #[.agg #[.int .i64 0, .int .i64 0, .int .i64 0, .int .i64 0, .int .i64 0, .int .i64 0, .int .i64 0, .int .i64 0, .int .i64 0, .int .i64 0, .int .i64 0, .int .i64 0], .iface 103 (.agg #[.string s])]) (by simp [results, Tryd.results45, go_sem, *]) rfl ⟨fun _ _ _ _ _ _ _ _ _ _ _ _ h => (by cases h), fun _ => ⟨_, rfl⟩, ?_⟩
      show Acc w _
      (repeat' (first | (with_reducible first | assumption | exact Acc.refl _ | refine Acc.drew ?_ | refine Acc.drewN ?_ _ | refine Acc.alloc ?_ _ | refine Acc.setCell ?_ ?_ _) | (refine leB ?_; omega)))
    | some v =>
      obtain ⟨⟨p1, p2, p3⟩, ⟨t1, t2, t3⟩, ⟨r1, r2, r3⟩, u1, u2, u3⟩ := v
      obtain rfl := h1 _ _ _ _ _ _ _ _ _ _ _ _ rfl
      clear h1 h2
      go_wp2_with fail
      refine bodyPost_ret (v := .tuple #[.agg #[.int .i64 p1, .int .i64 p2, .int .i64 p3, .int .i64 t1, .int .i64 t2, .int .i64 t3, .int .i64 r1, .int .i64 r2, .int .i64 r3, .int .i64 u1, .int .i64 u2, .int .i64 u3], .nilIface]) (by simp [results, Tryd.results45, go_sem, *]) rfl ⟨fun _ _ _ _ _ _ _ _ _ _ _ _ h => (by cases h; rfl), fun h => (by cases h), ?_⟩
      show Acc w _
      (repeat' (first | (with_reducible first | assumption | exact Acc.refl _ | refine Acc.drew ?_ | refine Acc.drewN ?_ _ | refine Acc.alloc ?_ _ | refine Acc.setCell ?_ ?_ _) | (refine leB ?_; omega)))
  · skip
    go_enter Tryd.func45, Tryd.ntmps45
    go_wp2_with fail
    refine (HC.out _).mono ?_
    rintro e W1 ⟨h, -, hb⟩
    obtain rfl := h _ _ _ rfl
    clear h
    obtain ⟨Be, Bz⟩ : Blk W1 (w.heap.size) [.func (.func 78) #[] #[]] ∧ Blk W1 (w.heap.size + 1) [.int .i64 0, .int .i64 0, .int .i64 0, .int .i64 0, .int .i64 0, .int .i64 0, .int .i64 0, .int .i64 0, .int .i64 0, .int .i64 0, .int .i64 0, .int .i64 0] := by
      refine ⟨?_, ?_⟩ <;> refine Blk.keep hb ?_ <;> (repeat' (first | (with_reducible first | assumption | refine Blk.drew ?_ | refine Blk.drewN ?_ _ | apply Blk.set | (refine Blk.new ?_; focus (first | rfl | (simp; done))) | refine Blk.alloc ?_ _ | refine Blk.other ?_ ?_ _) | exact eqL rfl | (refine neB ?_; omega)))
    have ce := Be.cell
    have fe := Be.free
    have le_W1 := Be.lt
    have cz := Bz.cell
    have fz := Bz.free
    have lz_W1 := Bz.lt
    have kaW1 : Acc w W1 := by
      refine Acc.call ?_ hb
      (repeat' (first | (with_reducible first | assumption | exact Acc.refl _ | refine Acc.drew ?_ | refine Acc.drewN ?_ _ | refine Acc.alloc ?_ _ | refine Acc.setCell ?_ ?_ _) | (refine leB ?_; omega)))
    clear hb
    go_wp2_with fail
    refine (HS.out _).mono ?_
    rintro e W2 ⟨h, -, hb⟩
    obtain rfl := h _ _ _ rfl
    clear h
    obtain ⟨Be, Bz, Bc⟩ : Blk W2 (w.heap.size) [.func (.func 78) #[] #[]] ∧ Blk W2 (w.heap.size + 1) [.int .i64 0, .int .i64 0, .int .i64 0, .int .i64 0, .int .i64 0, .int .i64 0, .int .i64 0, .int .i64 0, .int .i64 0, .int .i64 0, .int .i64 0, .int .i64 0] ∧ Blk W2 (W1.heap.size) [.int .i64 c1, .int .i64 c2, .int .i64 c3] := by
      refine ⟨?_, ?_, ?_⟩ <;> refine Blk.keep hb ?_ <;> (repeat' (first | (with_reducible first | assumption | refine Blk.drew ?_ | refine Blk.drewN ?_ _ | apply Blk.set | (refine Blk.new ?_; focus (first | rfl | (simp; done))) | refine Blk.alloc ?_ _ | refine Blk.other ?_ ?_ _) | exact eqL rfl | (refine neB ?_; omega)))
    have ce := Be.cell
    have fe := Be.free
    have le_W2 := Be.lt
    have cz := Bz.cell
    have fz := Bz.free
    have lz_W2 := Bz.lt
    have cc := Bc.cell
    have fc := Bc.free
    have lc_W2 := Bc.lt
    have kaW2 : Acc w W2 := by
      refine Acc.call ?_ hb
      (repeat' (first | (with_reducible first | assumption | exact Acc.refl _ | refine Acc.drew ?_ | refine Acc.drewN ?_ _ | refine Acc.alloc ?_ _ | refine Acc.setCell ?_ ?_ _) | (refine leB ?_; omega)))
    clear hb
    go_wp2_with fail
    refine (HK.out _ (by repeat' (first | (with_reducible first | assumption | exact Acc.refl _ | refine Acc.drew ?_ | refine Acc.drewN ?_ _ | refine Acc.alloc ?_ _ | refine Acc.setCell ?_ ?_ _) | (refine leB ?_; omega)))).mono ?_
    rintro e W3 ⟨h1, h2, hb⟩
    obtain ⟨Be, Bz, Bc, Bs⟩ : Blk W3 (w.heap.size) [.func (.func 78) #[] #[]] ∧ Blk W3 (w.heap.size + 1) [.int .i64 0, .int .i64 0, .int .i64 0, .int .i64 0, .int .i64 0, .int .i64 0, .int .i64 0, .int .i64 0, .int .i64 0, .int .i64 0, .int .i64 0, .int .i64 0] ∧ Blk W3 (W1.heap.size) [.int .i64 c1, .int .i64 c2, .int .i64 c3] ∧ Blk W3 (W2.heap.size) [.int .i64 s1, .int .i64 s2, .int .i64 s3] := by
      refine ⟨?_, ?_, ?_, ?_⟩ <;> refine Blk.keep hb ?_ <;> (repeat' (first | (with_reducible first | assumption | refine Blk.drew ?_ | refine Blk.drewN ?_ _ | apply Blk.set | (refine Blk.new ?_; focus (first | rfl | (simp; done))) | refine Blk.alloc ?_ _ | refine Blk.other ?_ ?_ _) | exact eqL rfl | (refine neB ?_; omega)))
    have ce := Be.cell
    have fe := Be.free
    have le_W3 := Be.lt
    have cz := Bz.cell
    have fz := Bz.free
    have lz_W3 := Bz.lt
    have cc := Bc.cell
    have fc := Bc.free
    have lc_W3 := Bc.lt
    have cs := Bs.cell
    have fs := Bs.free
    have ls_W3 := Bs.lt
    have kaW3 : Acc w W3 := by
      refine Acc.call ?_ hb
      (repeat' (first | (with_reducible first | assumption | exact Acc.refl _ | refine Acc.drew ?_ | refine Acc.drewN ?_ _ | refine Acc.alloc ?_ _ | refine Acc.setCell ?_ ?_ _) | (refine leB ?_; omega)))
    clear hb
    cases o with
    | none =>
      obtain ⟨s, rfl⟩ := h2 rfl
      clear h1 h2
      go_wp2_with fail
      refine bodyPost_ret (v := .tuple #[.agg #[.int .i64 0, .int .i64 0, .int .i64 0, .int .i64 0, .int .i64 0, .int .i64 0, .int .i64 0, .int .i64 0, .int .i64 0, .int .i64 0, .int .i64 0, .int .i64 0], .iface 103 (.agg #[.string s])]) (by simp [results, Tryd.results45, go_sem, *]) rfl ⟨fun _ _ _ _ _ _ _ _ _ _ _ _ h => (by cases h), fun _ => ⟨_, rfl⟩, ?_⟩
      show Acc w _
      (repeat' (first | (with_reducible first | assumption | exact Acc.refl _ | refine Acc.drew ?_ | refine Acc.drewN ?_ _ | refine Acc.alloc ?_ _ | refine Acc.setCell ?_ ?_ _) | (refine leB ?_; omega)))
    | some v =>
      obtain ⟨⟨p1, p2, p3⟩, ⟨t1, t2, t3⟩, ⟨r1, r2, r3⟩, u1, u2, u3⟩ := v
      obtain rfl := h1 _ _ _ _ _ _ _ _ _ _ _ _ rfl
      clear h1 h2
      go_wp2_with fail
      refine bodyPost_ret (v := .tuple #[.agg #[.int .i64 p1, .int .i64 p2, .int .i64 p3, .int .i64 t1, .int .i64 t2, .int .i64 t3, .int .i64 r1, .int .i64 r2, .int .i64 r3, .int .i64 u1, .int .i64 u2, .int .i64 u3], .nilIface]) (by simp [results, Tryd.results45, go_sem, *]) rfl ⟨fun _ _ _ _ _ _ _ _ _ _ _ _ h => (by cases h; rfl), fun h => (by cases h), ?_⟩
      show Acc w _
      (repeat' (first | (with_reducible first | assumption | exact Acc.refl _ | refine Acc.drew ?_ | refine Acc.drewN ?_ _ | refine Acc.alloc ?_ _ | refine Acc.setCell ?_ ?_ _) | (refine leB ?_; omega)))
set_option maxHeartbeats 16000000 in
theorem turned_rot_no (p q : Int) (hip : i64B p) (hiq : i64B q) (h : dirB p q = false) (w : World) :
    Calls Tryd.prog 45 #[.agg #[.func (.func 78) #[] #[]], .int .i64 p, .int .i64 q] w (Erred12 none w) := by
  by_cases hin : (-100 ≤ p ∧ p ≤ 100) ∧ (-100 ≤ q ∧ q ≤ 100)
  · obtain ⟨rfl, rfl⟩ := dno h hin.1 hin.2
    have HC := Lib.hid fun w => lowest_any 0 0 0 w hip hip hip
    rw [show lowE 0 0 0 = none by decide] at HC
    clear h hin
    go_enter Tryd.func45, Tryd.ntmps45
    go_wp2_with fail
    refine (HC.out _).mono ?_
    rintro e W1 ⟨-, h, hb⟩
    obtain ⟨s, rfl⟩ := h rfl
    clear h
    obtain ⟨Be, Bz⟩ : Blk W1 (w.heap.size) [.func (.func 78) #[] #[]] ∧ Blk W1 (w.heap.size + 1) [.int .i64 0, .int .i64 0, .int .i64 0, .int .i64 0, .int .i64 0, .int .i64 0, .int .i64 0, .int .i64 0, .int .i64 0, .int .i64 0, .int .i64 0, .int .i64 0] := by
      refine ⟨?_, ?_⟩ <;> refine Blk.keep hb ?_ <;> (repeat' (first | (with_reducible first | assumption | refine Blk.drew ?_ | refine Blk.drewN ?_ _ | apply Blk.set | (refine Blk.new ?_; focus (first | rfl | (simp; done))) | refine Blk.alloc ?_ _ | refine Blk.other ?_ ?_ _) | exact eqL rfl | (refine neB ?_; omega)))
    have ce := Be.cell
    have fe := Be.free
    have le_W1 := Be.lt
    have cz := Bz.cell
    have fz := Bz.free
    have lz_W1 := Bz.lt
    have kaW1 : Acc w W1 := by
      refine Acc.call ?_ hb
      (repeat' (first | (with_reducible first | assumption | exact Acc.refl _ | refine Acc.drew ?_ | refine Acc.drewN ?_ _ | refine Acc.alloc ?_ _ | refine Acc.setCell ?_ ?_ _) | (refine leB ?_; omega)))
    clear hb
    go_wp2_with fail
    refine bodyPost_ret (v := .tuple #[.agg #[.int .i64 0, .int .i64 0, .int .i64 0, .int .i64 0, .int .i64 0, .int .i64 0, .int .i64 0, .int .i64 0, .int .i64 0, .int .i64 0, .int .i64 0, .int .i64 0], .iface 103 (.agg #[.string s])]) (by simp [results, Tryd.results45, go_sem, *]) rfl ⟨fun _ _ _ _ _ _ _ _ _ _ _ _ h => (by cases h), fun _ => ⟨_, rfl⟩, ?_⟩
    show Acc w _
    (repeat' (first | (with_reducible first | assumption | exact Acc.refl _ | refine Acc.drew ?_ | refine Acc.drewN ?_ _ | refine Acc.alloc ?_ _ | refine Acc.setCell ?_ ?_ _) | (refine leB ?_; omega)))
  · clear h
    rcases (show p < q ∨ (¬ p < q ∧ q < p) ∨ (¬ p < q ∧ ¬ q < p) by omega) with hlt | ⟨hlt, hlt2⟩ | ⟨hlt, hlt2⟩
    · skip
      by_cases h1 : 100 < q
      · clear hin
        go_enter Tryd.func45, Tryd.ntmps45
        go_wp2_with fail
        refine bodyPost_ret (by conv => lhs; simp [results, Tryd.results45, go_sem, *]) rfl ⟨fun _ _ _ _ _ _ _ _ _ _ _ _ h => (by cases h), fun _ => ⟨_, rfl⟩, ?_⟩
        show Acc w _
        (repeat' (first | (with_reducible first | assumption | exact Acc.refl _ | refine Acc.drew ?_ | refine Acc.drewN ?_ _ | refine Acc.alloc ?_ _ | refine Acc.setCell ?_ ?_ _) | (refine leB ?_; omega)))
      · have h2 : p < -100 := by omega
        clear hin
        go_enter Tryd.func45, Tryd.ntmps45
        go_wp2_with fail
        refine bodyPost_ret (by conv => lhs; simp [results, Tryd.results45, go_sem, *]) rfl ⟨fun _ _ _ _ _ _ _ _ _ _ _ _ h => (by cases h), fun _ => ⟨_, rfl⟩, ?_⟩
        show Acc w _
        (repeat' (first | (with_reducible first | assumption | exact Acc.refl _ | refine Acc.drew ?_ | refine Acc.drewN ?_ _ | refine Acc.alloc ?_ _ | refine Acc.setCell ?_ ?_ _) | (refine leB ?_; omega)))
    · skip
      by_cases h1 : 100 < p
      · clear hin
        go_enter Tryd.func45, Tryd.ntmps45
        go_wp2_with fail
        refine bodyPost_ret (by conv => lhs; simp [results, Tryd.results45, go_sem, *]) rfl ⟨fun _ _ _ _ _ _ _ _ _ _ _ _ h => (by cases h), fun _ => ⟨_, rfl⟩, ?_⟩
        show Acc w _
        (repeat' (first | (with_reducible first | assumption | exact Acc.refl _ | refine Acc.drew ?_ | refine Acc.drewN ?_ _ | refine Acc.alloc ?_ _ | refine Acc.setCell ?_ ?_ _) | (refine leB ?_; omega)))
      · have h2 : q < -100 := by omega
        clear hin
        go_enter Tryd.func45, Tryd.ntmps45
        go_wp2_with fail
        refine bodyPost_ret (by conv => lhs; simp [results, Tryd.results45, go_sem, *]) rfl ⟨fun _ _ _ _ _ _ _ _ _ _ _ _ h => (by cases h), fun _ => ⟨_, rfl⟩, ?_⟩
        show Acc w _
        (repeat' (first | (with_reducible first | assumption | exact Acc.refl _ | refine Acc.drew ?_ | refine Acc.drewN ?_ _ | refine Acc.alloc ?_ _ | refine Acc.setCell ?_ ?_ _) | (refine leB ?_; omega)))
    · skip
      by_cases h1 : 100 < p
      · clear hin
        go_enter Tryd.func45, Tryd.ntmps45
        go_wp2_with fail
        refine bodyPost_ret (by conv => lhs; simp [results, Tryd.results45, go_sem, *]) rfl ⟨fun _ _ _ _ _ _ _ _ _ _ _ _ h => (by cases h), fun _ => ⟨_, rfl⟩, ?_⟩
        show Acc w _
        (repeat' (first | (with_reducible first | assumption | exact Acc.refl _ | refine Acc.drew ?_ | refine Acc.drewN ?_ _ | refine Acc.alloc ?_ _ | refine Acc.setCell ?_ ?_ _) | (refine leB ?_; omega)))
      · have h2 : p < -100 := by omega
        clear hin
        go_enter Tryd.func45, Tryd.ntmps45
        go_wp2_with fail
        refine bodyPost_ret (by conv => lhs; simp [results, Tryd.results45, go_sem, *]) rfl ⟨fun _ _ _ _ _ _ _ _ _ _ _ _ h => (by cases h), fun _ => ⟨_, rfl⟩, ?_⟩
        show Acc w _
        (repeat' (first | (with_reducible first | assumption | exact Acc.refl _ | refine Acc.drew ?_ | refine Acc.drewN ?_ _ | refine Acc.alloc ?_ _ | refine Acc.setCell ?_ ?_ _) | (refine leB ?_; omega)))
set_option maxHeartbeats 16000000 in
theorem turned_pla (kb : Nat) (p q c1 c2 c3 s1 s2 s3 : Int) (hip : i64B p) (hiq : i64B q) (h : dirB p q = true) (hc : dirC p q = (c1, c2, c3)) (hs : dirS p q = (s1, s2, s3)) (o : Option ((Int × Int × Int) × (Int × Int × Int) × (Int × Int × Int) × (Int × Int × Int))) (w : World)
    (K : ∀ W, Acc w W → Calls Tryd.prog 103 #[.agg #[.int .i64 c1, .int .i64 c2, .int .i64 c3], .agg #[.int .i64 s1, .int .i64 s2, .int .i64 s3], .pointer (some ⟨kb, 0, none⟩)] W (Erred12 o W)) :
    Calls Tryd.prog 45 #[.agg #[.func (.func 103) #[] #[.pointer (some ⟨kb, 0, none⟩)]], .int .i64 p, .int .i64 q] w (Erred12 o w) := by
  obtain ⟨bp, bq, hne⟩ := ddir_bd2 h
  have sp := dsq_bd2 bp.1 bp.2
  have sq := dsq_bd2 bq.1 bq.2
  have tb := dtwo_bd2 bp bq
  obtain ⟨n, x, y, en, ex, ey, n1, -, -, -, -, oc, -, -, os, -, -, mc, ms⟩ := dir_val h
  subst en ex ey
  rw [hc] at mc oc
  rw [hs] at ms os
  have lc := low_dir n1 mc
  have ls := low_dir n1 ms
  have HC := Lib.hid fun w => lowest_any (p * p - q * q) 0 (p * p + q * q) w (by unfold i64B; omega) (by unfold i64B; omega) (by unfold i64B; omega)
  have HS := Lib.hid fun w => lowest_any (2 * p * q) 0 (p * p + q * q) w (by unfold i64B; omega) (by unfold i64B; omega) (by unfold i64B; omega)
  rw [lc] at HC
  rw [ls] at HS
  have HK := Lib.hid K
  clear hne h hc hs mc ms lc ls oc os n1 K
  rcases (show p < q ∨ (¬ p < q ∧ q < p) ∨ (¬ p < q ∧ ¬ q < p) by omega) with hlt | ⟨hlt, hlt2⟩ | ⟨hlt, hlt2⟩
  · skip
    go_enter Tryd.func45, Tryd.ntmps45
    go_wp2_with fail
    refine (HC.out _).mono ?_
    rintro e W1 ⟨h, -, hb⟩
    obtain rfl := h _ _ _ rfl
    clear h
    obtain ⟨Be, Bz⟩ : Blk W1 (w.heap.size) [.func (.func 103) #[] #[.pointer (some ⟨kb, 0, none⟩)]] ∧ Blk W1 (w.heap.size + 1) [.int .i64 0, .int .i64 0, .int .i64 0, .int .i64 0, .int .i64 0, .int .i64 0, .int .i64 0, .int .i64 0, .int .i64 0, .int .i64 0, .int .i64 0, .int .i64 0] := by
      refine ⟨?_, ?_⟩ <;> refine Blk.keep hb ?_ <;> (repeat' (first | (with_reducible first | assumption | refine Blk.drew ?_ | refine Blk.drewN ?_ _ | apply Blk.set | (refine Blk.new ?_; focus (first | rfl | (simp; done))) | refine Blk.alloc ?_ _ | refine Blk.other ?_ ?_ _) | exact eqL rfl | (refine neB ?_; omega)))
    have ce := Be.cell
    have fe := Be.free
    have le_W1 := Be.lt
    have cz := Bz.cell
    have fz := Bz.free
    have lz_W1 := Bz.lt
    have kaW1 : Acc w W1 := by
      refine Acc.call ?_ hb
      (repeat' (first | (with_reducible first | assumption | exact Acc.refl _ | refine Acc.drew ?_ | refine Acc.drewN ?_ _ | refine Acc.alloc ?_ _ | refine Acc.setCell ?_ ?_ _) | (refine leB ?_; omega)))
    clear hb
    go_wp2_with fail
    refine (HS.out _).mono ?_
    rintro e W2 ⟨h, -, hb⟩
    obtain rfl := h _ _ _ rfl
    clear h
    obtain ⟨Be, Bz, Bc⟩ : Blk W2 (w.heap.size) [.func (.func 103) #[] #[.pointer (some ⟨kb, 0, none⟩)]] ∧ Blk W2 (w.heap.size + 1) [.int .i64 0, .int .i64 0, .int .i64 0, .int .i64 0, .int .i64 0, .int .i64 0, .int .i64 0, .int .i64 0, .int .i64 0, .int .i64 0, .int .i64 0, .int .i64 0] ∧ Blk W2 (W1.heap.size) [.int .i64 c1, .int .i64 c2, .int .i64 c3] := by
      refine ⟨?_, ?_, ?_⟩ <;> refine Blk.keep hb ?_ <;> (repeat' (first | (with_reducible first | assumption | refine Blk.drew ?_ | refine Blk.drewN ?_ _ | apply Blk.set | (refine Blk.new ?_; focus (first | rfl | (simp; done))) | refine Blk.alloc ?_ _ | refine Blk.other ?_ ?_ _) | exact eqL rfl | (refine neB ?_; omega)))
    have ce := Be.cell
    have fe := Be.free
    have le_W2 := Be.lt
    have cz := Bz.cell
    have fz := Bz.free
    have lz_W2 := Bz.lt
    have cc := Bc.cell
    have fc := Bc.free
    have lc_W2 := Bc.lt
    have kaW2 : Acc w W2 := by
      refine Acc.call ?_ hb
      (repeat' (first | (with_reducible first | assumption | exact Acc.refl _ | refine Acc.drew ?_ | refine Acc.drewN ?_ _ | refine Acc.alloc ?_ _ | refine Acc.setCell ?_ ?_ _) | (refine leB ?_; omega)))
    clear hb
    go_wp2_with fail
    refine (HK.out _ (by repeat' (first | (with_reducible first | assumption | exact Acc.refl _ | refine Acc.drew ?_ | refine Acc.drewN ?_ _ | refine Acc.alloc ?_ _ | refine Acc.setCell ?_ ?_ _) | (refine leB ?_; omega)))).mono ?_
    rintro e W3 ⟨h1, h2, hb⟩
    obtain ⟨Be, Bz, Bc, Bs⟩ : Blk W3 (w.heap.size) [.func (.func 103) #[] #[.pointer (some ⟨kb, 0, none⟩)]] ∧ Blk W3 (w.heap.size + 1) [.int .i64 0, .int .i64 0, .int .i64 0, .int .i64 0, .int .i64 0, .int .i64 0, .int .i64 0, .int .i64 0, .int .i64 0, .int .i64 0, .int .i64 0, .int .i64 0] ∧ Blk W3 (W1.heap.size) [.int .i64 c1, .int .i64 c2, .int .i64 c3] ∧ Blk W3 (W2.heap.size) [.int .i64 s1, .int .i64 s2, .int .i64 s3] := by
      refine ⟨?_, ?_, ?_, ?_⟩ <;> refine Blk.keep hb ?_ <;> (repeat' (first | (with_reducible first | assumption | refine Blk.drew ?_ | refine Blk.drewN ?_ _ | apply Blk.set | (refine Blk.new ?_; focus (first | rfl | (simp; done))) | refine Blk.alloc ?_ _ | refine Blk.other ?_ ?_ _) | exact eqL rfl | (refine neB ?_; omega)))
    have ce := Be.cell
    have fe := Be.free
    have le_W3 := Be.lt
    have cz := Bz.cell
    have fz := Bz.free
    have lz_W3 := Bz.lt
    have cc := Bc.cell
    have fc := Bc.free
    have lc_W3 := Bc.lt
    have cs := Bs.cell
    have fs := Bs.free
    have ls_W3 := Bs.lt
    have kaW3 : Acc w W3 := by
      refine Acc.call ?_ hb
      (repeat' (first | (with_reducible first | assumption | exact Acc.refl _ | refine Acc.drew ?_ | refine Acc.drewN ?_ _ | refine Acc.alloc ?_ _ | refine Acc.setCell ?_ ?_ _) | (refine leB ?_; omega)))
    clear hb
    cases o with
    | none =>
      obtain ⟨s, rfl⟩ := h2 rfl
      clear h1 h2
      go_wp2_with fail
      refine bodyPost_ret (v := .tuple #[.agg #[.int .i64 0, .int .i64 0, .int .i64 0, .int .i64 0, .int .i64 0, .int .i64 0, .int .i64 0, .int .i64 0, .int .i64 0, .int .i64 0, .int .i64 0, .int .i64 0], .iface 103 (.agg #[.string s])]) (by simp [results, Tryd.results45, go_sem, *]) rfl ⟨fun _ _ _ _ _ _ _ _ _ _ _ _ h => (by cases h), fun _ => ⟨_, rfl⟩, ?_⟩
      show Acc w _
      (repeat' (first | (with_reducible first | assumption | exact Acc.refl _ | refine Acc.drew ?_ | refine Acc.drewN ?_ _ | refine Acc.alloc ?_ _ | refine Acc.setCell ?_ ?_ _) | (refine leB ?_; omega)))
    | some v =>
      obtain ⟨⟨p1, p2, p3⟩, ⟨t1, t2, t3⟩, ⟨r1, r2, r3⟩, u1, u2, u3⟩ := v
      obtain rfl := h1 _ _ _ _ _ _ _ _ _ _ _ _ rfl
      clear h1 h2
      go_wp2_with fail
      refine bodyPost_ret (v := .tuple #[.agg #[.int .i64 p1, .int .i64 p2, .int .i64 p3, .int .i64 t1, .int .i64 t2, .int .i64 t3, .int .i64 r1, .int .i64 r2, .int .i64 r3, .int .i64 u1, .int .i64 u2, .int .i64 u3], .nilIface]) (by simp [results, Tryd.results45, go_sem, *]) rfl ⟨fun _ _ _ _ _ _ _ _ _ _ _ _ h => (by cases h; rfl), fun h => (by cases h), ?_⟩
      show Acc w _
      (repeat' (first | (with_reducible first | assumption | exact Acc.refl _ | refine Acc.drew ?_ | refine Acc.drewN ?_ _ | refine Acc.alloc ?_ _ | refine Acc.setCell ?_ ?_ _) | (refine leB ?_; omega)))
  · skip
    go_enter Tryd.func45, Tryd.ntmps45
    go_wp2_with fail
    refine (HC.out _).mono ?_
    rintro e W1 ⟨h, -, hb⟩
    obtain rfl := h _ _ _ rfl
    clear h
    obtain ⟨Be, Bz⟩ : Blk W1 (w.heap.size) [.func (.func 103) #[] #[.pointer (some ⟨kb, 0, none⟩)]] ∧ Blk W1 (w.heap.size + 1) [.int .i64 0, .int .i64 0, .int .i64 0, .int .i64 0, .int .i64 0, .int .i64 0, .int .i64 0, .int .i64 0, .int .i64 0, .int .i64 0, .int .i64 0, .int .i64 0] := by
      refine ⟨?_, ?_⟩ <;> refine Blk.keep hb ?_ <;> (repeat' (first | (with_reducible first | assumption | refine Blk.drew ?_ | refine Blk.drewN ?_ _ | apply Blk.set | (refine Blk.new ?_; focus (first | rfl | (simp; done))) | refine Blk.alloc ?_ _ | refine Blk.other ?_ ?_ _) | exact eqL rfl | (refine neB ?_; omega)))
    have ce := Be.cell
    have fe := Be.free
    have le_W1 := Be.lt
    have cz := Bz.cell
    have fz := Bz.free
    have lz_W1 := Bz.lt
    have kaW1 : Acc w W1 := by
      refine Acc.call ?_ hb
      (repeat' (first | (with_reducible first | assumption | exact Acc.refl _ | refine Acc.drew ?_ | refine Acc.drewN ?_ _ | refine Acc.alloc ?_ _ | refine Acc.setCell ?_ ?_ _) | (refine leB ?_; omega)))
    clear hb
    go_wp2_with fail
    refine (HS.out _).mono ?_
    rintro e W2 ⟨h, -, hb⟩
    obtain rfl := h _ _ _ rfl
    clear h
    obtain ⟨Be, Bz, Bc⟩ : Blk W2 (w.heap.size) [.func (.func 103) #[] #[.pointer (some ⟨kb, 0, none⟩)]] ∧ Blk W2 (w.heap.size + 1) [.int .i64 0, .int .i64 0, .int .i64 0, .int .i64 0, .int .i64 0, .int .i64 0, .int .i64 0, .int .i64 0, .int .i64 0, .int .i64 0, .int .i64 0, .int .i64 0] ∧ Blk W2 (W1.heap.size) [.int .i64 c1, .int .i64 c2, .int .i64 c3] := by
      refine ⟨?_, ?_, ?_⟩ <;> refine Blk.keep hb ?_ <;> (repeat' (first | (with_reducible first | assumption | refine Blk.drew ?_ | refine Blk.drewN ?_ _ | apply Blk.set | (refine Blk.new ?_; focus (first | rfl | (simp; done))) | refine Blk.alloc ?_ _ | refine Blk.other ?_ ?_ _) | exact eqL rfl | (refine neB ?_; omega)))
    have ce := Be.cell
    have fe := Be.free
    have le_W2 := Be.lt
    have cz := Bz.cell
    have fz := Bz.free
    have lz_W2 := Bz.lt
    have cc := Bc.cell
    have fc := Bc.free
    have lc_W2 := Bc.lt
    have kaW2 : Acc w W2 := by
      refine Acc.call ?_ hb
      (repeat' (first | (with_reducible first | assumption | exact Acc.refl _ | refine Acc.drew ?_ | refine Acc.drewN ?_ _ | refine Acc.alloc ?_ _ | refine Acc.setCell ?_ ?_ _) | (refine leB ?_; omega)))
    clear hb
    go_wp2_with fail
    refine (HK.out _ (by repeat' (first | (with_reducible first | assumption | exact Acc.refl _ | refine Acc.drew ?_ | refine Acc.drewN ?_ _ | refine Acc.alloc ?_ _ | refine Acc.setCell ?_ ?_ _) | (refine leB ?_; omega)))).mono ?_
    rintro e W3 ⟨h1, h2, hb⟩
    obtain ⟨Be, Bz, Bc, Bs⟩ : Blk W3 (w.heap.size) [.func (.func 103) #[] #[.pointer (some ⟨kb, 0, none⟩)]] ∧ Blk W3 (w.heap.size + 1) [.int .i64 0, .int .i64 0, .int .i64 0, .int .i64 0, .int .i64 0, .int .i64 0, .int .i64 0, .int .i64 0, .int .i64 0, .int .i64 0, .int .i64 0, .int .i64 0] ∧ Blk W3 (W1.heap.size) [.int .i64 c1, .int .i64 c2, .int .i64 c3] ∧ Blk W3 (W2.heap.size) [.int .i64 s1, .int .i64 s2, .int .i64 s3] := by
      refine ⟨?_, ?_, ?_, ?_⟩ <;> refine Blk.keep hb ?_ <;> (repeat' (first | (with_reducible first | assumption | refine Blk.drew ?_ | refine Blk.drewN ?_ _ | apply Blk.set | (refine Blk.new ?_; focus (first | rfl | (simp; done))) | refine Blk.alloc ?_ _ | refine Blk.other ?_ ?_ _) | exact eqL rfl | (refine neB ?_; omega)))
    have ce := Be.cell
    have fe := Be.free
    have le_W3 := Be.lt
    have cz := Bz.cell
    have fz := Bz.free
    have lz_W3 := Bz.lt
    have cc := Bc.cell
    have fc := Bc.free
    have lc_W3 := Bc.lt
    have cs := Bs.cell
    have fs := Bs.free
    have ls_W3 := Bs.lt
    have kaW3 : Acc w W3 := by
      refine Acc.call ?_ hb
      (repeat' (first | (with_reducible first | assumption | exact Acc.refl _ | refine Acc.drew ?_ | refine Acc.drewN ?_ _ | refine Acc.alloc ?_ _ | refine Acc.setCell ?_ ?_ _) | (refine leB ?_; omega)))
    clear hb
    cases o with
    | none =>
      obtain ⟨s, rfl⟩ := h2 rfl
      clear h1 h2
      go_wp2_with fail
      refine bodyPost_ret (v := .tuple #[.agg #[.int .i64 0, .int .i64 0, .int .i64 0, .int .i64 0, .int .i64 0, .int .i64 0, .int .i64 0, .int .i64 0, .int .i64 0, .int .i64 0, .int .i64 0, .int .i64 0], .iface 103 (.agg #[.string s])]) (by simp [results, Tryd.results45, go_sem, *]) rfl ⟨fun _ _ _ _ _ _ _ _ _ _ _ _ h => (by cases h), fun _ => ⟨_, rfl⟩, ?_⟩
      show Acc w _
      (repeat' (first | (with_reducible first | assumption | exact Acc.refl _ | refine Acc.drew ?_ | refine Acc.drewN ?_ _ | refine Acc.alloc ?_ _ | refine Acc.setCell ?_ ?_ _) | (refine leB ?_; omega)))
    | some v =>
      obtain ⟨⟨p1, p2, p3⟩, ⟨t1, t2, t3⟩, ⟨r1, r2, r3⟩, u1, u2, u3⟩ := v
      obtain rfl := h1 _ _ _ _ _ _ _ _ _ _ _ _ rfl
      clear h1 h2
      go_wp2_with fail
      refine bodyPost_ret (v := .tuple #[.agg #[.int .i64 p1, .int .i64 p2, .int .i64 p3, .int .i64 t1, .int .i64 t2, .int .i64 t3, .int .i64 r1, .int .i64 r2, .int .i64 r3, .int .i64 u1, .int .i64 u2, .int .i64 u3], .nilIface]) (by simp [results, Tryd.results45, go_sem, *]) rfl ⟨fun _ _ _ _ _ _ _ _ _ _ _ _ h => (by cases h; rfl), fun h => (by cases h), ?_⟩
      show Acc w _
      (repeat' (first | (with_reducible first | assumption | exact Acc.refl _ | refine Acc.drew ?_ | refine Acc.drewN ?_ _ | refine Acc.alloc ?_ _ | refine Acc.setCell ?_ ?_ _) | (refine leB ?_; omega)))
  · skip
    go_enter Tryd.func45, Tryd.ntmps45
    go_wp2_with fail
    refine (HC.out _).mono ?_
    rintro e W1 ⟨h, -, hb⟩
    obtain rfl := h _ _ _ rfl
    clear h
    obtain ⟨Be, Bz⟩ : Blk W1 (w.heap.size) [.func (.func 103) #[] #[.pointer (some ⟨kb, 0, none⟩)]] ∧ Blk W1 (w.heap.size + 1) [.int .i64 0, .int .i64 0, .int .i64 0, .int .i64 0, .int .i64 0, .int .i64 0, .int .i64 0, .int .i64 0, .int .i64 0, .int .i64 0, .int .i64 0, .int .i64 0] := by
      refine ⟨?_, ?_⟩ <;> refine Blk.keep hb ?_ <;> (repeat' (first | (with_reducible first | assumption | refine Blk.drew ?_ | refine Blk.drewN ?_ _ | apply Blk.set | (refine Blk.new ?_; focus (first | rfl | (simp; done))) | refine Blk.alloc ?_ _ | refine Blk.other ?_ ?_ _) | exact eqL rfl | (refine neB ?_; omega)))
    have ce := Be.cell
    have fe := Be.free
    have le_W1 := Be.lt
    have cz := Bz.cell
    have fz := Bz.free
    have lz_W1 := Bz.lt
    have kaW1 : Acc w W1 := by
      refine Acc.call ?_ hb
      (repeat' (first | (with_reducible first | assumption | exact Acc.refl _ | refine Acc.drew ?_ | refine Acc.drewN ?_ _ | refine Acc.alloc ?_ _ | refine Acc.setCell ?_ ?_ _) | (refine leB ?_; omega)))
    clear hb
    go_wp2_with fail
    refine (HS.out _).mono ?_
    rintro e W2 ⟨h, -, hb⟩
    obtain rfl := h _ _ _ rfl
    clear h
    obtain ⟨Be, Bz, Bc⟩ : Blk W2 (w.heap.size) [.func (.func 103) #[] #[.pointer (some ⟨kb, 0, none⟩)]] ∧ Blk W2 (w.heap.size + 1) [.int .i64 0, .int .i64 0, .int .i64 0, .int .i64 0, .int .i64 0, .int .i64 0, .int .i64 0, .int .i64 0, .int .i64 0, .int .i64 0, .int .i64 0, .int .i64 0] ∧ Blk W2 (W1.heap.size) [.int .i64 c1, .int .i64 c2, .int .i64 c3] := by
      refine ⟨?_, ?_, ?_⟩ <;> refine Blk.keep hb ?_ <;> (repeat' (first | (with_reducible first | assumption | refine Blk.drew ?_ | refine Blk.drewN ?_ _ | apply Blk.set | (refine Blk.new ?_; focus (first | rfl | (simp; done))) | refine Blk.alloc ?_ _ | refine Blk.other ?_ ?_ _) | exact eqL rfl | (refine neB ?_; omega)))
    have ce := Be.cell
    have fe := Be.free
    have le_W2 := Be.lt
    have cz := Bz.cell
    have fz := Bz.free
    have lz_W2 := Bz.lt
    have cc := Bc.cell
    have fc := Bc.free
    have lc_W2 := Bc.lt
    have kaW2 : Acc w W2 := by
      refine Acc.call ?_ hb
      (repeat' (first | (with_reducible first | assumption | exact Acc.refl _ | refine Acc.drew ?_ | refine Acc.drewN ?_ _ | refine Acc.alloc ?_ _ | refine Acc.setCell ?_ ?_ _) | (refine leB ?_; omega)))
    clear hb
    go_wp2_with fail
    refine (HK.out _ (by repeat' (first | (with_reducible first | assumption | exact Acc.refl _ | refine Acc.drew ?_ | refine Acc.drewN ?_ _ | refine Acc.alloc ?_ _ | refine Acc.setCell ?_ ?_ _) | (refine leB ?_; omega)))).mono ?_
    rintro e W3 ⟨h1, h2, hb⟩
    obtain ⟨Be, Bz, Bc, Bs⟩ : Blk W3 (w.heap.size) [.func (.func 103) #[] #[.pointer (some ⟨kb, 0, none⟩)]] ∧ Blk W3 (w.heap.size + 1) [.int .i64 0, .int .i64 0, .int .i64 0, .int .i64 0, .int .i64 0, .int .i64 0, .int .i64 0, .int .i64 0, .int .i64 0, .int .i64 0, .int .i64 0, .int .i64 0] ∧ Blk W3 (W1.heap.size) [.int .i64 c1, .int .i64 c2, .int .i64 c3] ∧ Blk W3 (W2.heap.size) [.int .i64 s1, .int .i64 s2, .int .i64 s3] := by
      refine ⟨?_, ?_, ?_, ?_⟩ <;> refine Blk.keep hb ?_ <;> (repeat' (first | (with_reducible first | assumption | refine Blk.drew ?_ | refine Blk.drewN ?_ _ | apply Blk.set | (refine Blk.new ?_; focus (first | rfl | (simp; done))) | refine Blk.alloc ?_ _ | refine Blk.other ?_ ?_ _) | exact eqL rfl | (refine neB ?_; omega)))
    have ce := Be.cell
    have fe := Be.free
    have le_W3 := Be.lt
    have cz := Bz.cell
    have fz := Bz.free
    have lz_W3 := Bz.lt
    have cc := Bc.cell
    have fc := Bc.free
    have lc_W3 := Bc.lt
    have cs := Bs.cell
    have fs := Bs.free
    have ls_W3 := Bs.lt
    have kaW3 : Acc w W3 := by
      refine Acc.call ?_ hb
      (repeat' (first | (with_reducible first | assumption | exact Acc.refl _ | refine Acc.drew ?_ | refine Acc.drewN ?_ _ | refine Acc.alloc ?_ _ | refine Acc.setCell ?_ ?_ _) | (refine leB ?_; omega)))
    clear hb
    cases o with
    | none =>
      obtain ⟨s, rfl⟩ := h2 rfl
      clear h1 h2
      go_wp2_with fail
      refine bodyPost_ret (v := .tuple #[.agg #[.int .i64 0, .int .i64 0, .int .i64 0, .int .i64 0, .int .i64 0, .int .i64 0, .int .i64 0, .int .i64 0, .int .i64 0, .int .i64 0, .int .i64 0, .int .i64 0], .iface 103 (.agg #[.string s])]) (by simp [results, Tryd.results45, go_sem, *]) rfl ⟨fun _ _ _ _ _ _ _ _ _ _ _ _ h => (by cases h), fun _ => ⟨_, rfl⟩, ?_⟩
      show Acc w _
      (repeat' (first | (with_reducible first | assumption | exact Acc.refl _ | refine Acc.drew ?_ | refine Acc.drewN ?_ _ | refine Acc.alloc ?_ _ | refine Acc.setCell ?_ ?_ _) | (refine leB ?_; omega)))
    | some v =>
      obtain ⟨⟨p1, p2, p3⟩, ⟨t1, t2, t3⟩, ⟨r1, r2, r3⟩, u1, u2, u3⟩ := v
      obtain rfl := h1 _ _ _ _ _ _ _ _ _ _ _ _ rfl
      clear h1 h2
      go_wp2_with fail
      refine bodyPost_ret (v := .tuple #[.agg #[.int .i64 p1, .int .i64 p2, .int .i64 p3, .int .i64 t1, .int .i64 t2, .int .i64 t3, .int .i64 r1, .int .i64 r2, .int .i64 r3, .int .i64 u1, .int .i64 u2, .int .i64 u3], .nilIface]) (by simp [results, Tryd.results45, go_sem, *]) rfl ⟨fun _ _ _ _ _ _ _ _ _ _ _ _ h => (by cases h; rfl), fun h => (by cases h), ?_⟩
      show Acc w _
      (repeat' (first | (with_reducible first | assumption | exact Acc.refl _ | refine Acc.drew ?_ | refine Acc.drewN ?_ _ | refine Acc.alloc ?_ _ | refine Acc.setCell ?_ ?_ _) | (refine leB ?_; omega)))
set_option maxHeartbeats 16000000 in
theorem turned_pla_no (kb : Nat) (p q : Int) (hip : i64B p) (hiq : i64B q) (h : dirB p q = false) (w : World) :
    Calls Tryd.prog 45 #[.agg #[.func (.func 103) #[] #[.pointer (some ⟨kb, 0, none⟩)]], .int .i64 p, .int .i64 q] w (Erred12 none w) := by
  by_cases hin : (-100 ≤ p ∧ p ≤ 100) ∧ (-100 ≤ q ∧ q ≤ 100)
  · obtain ⟨rfl, rfl⟩ := dno h hin.1 hin.2
    have HC := Lib.hid fun w => lowest_any 0 0 0 w hip hip hip
    rw [show lowE 0 0 0 = none by decide] at HC
    clear h hin
    go_enter Tryd.func45, Tryd.ntmps45
    go_wp2_with fail
    refine (HC.out _).mono ?_
    rintro e W1 ⟨-, h, hb⟩
    obtain ⟨s, rfl⟩ := h rfl
    clear h
    obtain ⟨Be, Bz⟩ : Blk W1 (w.heap.size) [.func (.func 103) #[] #[.pointer (some ⟨kb, 0, none⟩)]] ∧ Blk W1 (w.heap.size + 1) [.int .i64 0, .int .i64 0, .int .i64 0, .int .i64 0, .int .i64 0, .int .i64 0, .int .i64 0, .int .i64 0, .int .i64 0, .int .i64 0, .int .i64 0, .int .i64 0] := by
      refine ⟨?_, ?_⟩ <;> refine Blk.keep hb ?_ <;> (repeat' (first | (with_reducible first | assumption | refine Blk.drew ?_ | refine Blk.drewN ?_ _ | apply Blk.set | (refine Blk.new ?_; focus (first | rfl | (simp; done))) | refine Blk.alloc ?_ _ | refine Blk.other ?_ ?_ _) | exact eqL rfl | (refine neB ?_; omega)))
    have ce := Be.cell
    have fe := Be.free
    have le_W1 := Be.lt
    have cz := Bz.cell
    have fz := Bz.free
    have lz_W1 := Bz.lt
    have kaW1 : Acc w W1 := by
      refine Acc.call ?_ hb
      (repeat' (first | (with_reducible first | assumption | exact Acc.refl _ | refine Acc.drew ?_ | refine Acc.drewN ?_ _ | refine Acc.alloc ?_ _ | refine Acc.setCell ?_ ?_ _) | (refine leB ?_; omega)))
    clear hb
    go_wp2_with fail
    refine bodyPost_ret (v := .tuple #[.agg #[.int .i64 0, .int .i64 0, .int .i64 0, .int .i64 0, .int .i64 0, .int .i64 0, .int .i64 0, .int .i64 0, .int .i64 0, .int .i64 0, .int .i64 0, .int .i64 0], .iface 103 (.agg #[.string s])]) (by simp [results, Tryd.results45, go_sem, *]) rfl ⟨fun _ _ _ _ _ _ _ _ _ _ _ _ h => (by cases h), fun _ => ⟨_, rfl⟩, ?_⟩
    show Acc w _
    (repeat' (first | (with_reducible first | assumption | exact Acc.refl _ | refine Acc.drew ?_ | refine Acc.drewN ?_ _ | refine Acc.alloc ?_ _ | refine Acc.setCell ?_ ?_ _) | (refine leB ?_; omega)))
  · clear h
    rcases (show p < q ∨ (¬ p < q ∧ q < p) ∨ (¬ p < q ∧ ¬ q < p) by omega) with hlt | ⟨hlt, hlt2⟩ | ⟨hlt, hlt2⟩
    · skip
      by_cases h1 : 100 < q
      · clear hin
        go_enter Tryd.func45, Tryd.ntmps45
        go_wp2_with fail
        refine bodyPost_ret (by conv => lhs; simp [results, Tryd.results45, go_sem, *]) rfl ⟨fun _ _ _ _ _ _ _ _ _ _ _ _ h => (by cases h), fun _ => ⟨_, rfl⟩, ?_⟩
        show Acc w _
        (repeat' (first | (with_reducible first | assumption | exact Acc.refl _ | refine Acc.drew ?_ | refine Acc.drewN ?_ _ | refine Acc.alloc ?_ _ | refine Acc.setCell ?_ ?_ _) | (refine leB ?_; omega)))
      · have h2 : p < -100 := by omega
        clear hin
        go_enter Tryd.func45, Tryd.ntmps45
        go_wp2_with fail
        refine bodyPost_ret (by conv => lhs; simp [results, Tryd.results45, go_sem, *]) rfl ⟨fun _ _ _ _ _ _ _ _ _ _ _ _ h => (by cases h), fun _ => ⟨_, rfl⟩, ?_⟩
        show Acc w _
        (repeat' (first | (with_reducible first | assumption | exact Acc.refl _ | refine Acc.drew ?_ | refine Acc.drewN ?_ _ | refine Acc.alloc ?_ _ | refine Acc.setCell ?_ ?_ _) | (refine leB ?_; omega)))
    · skip
      by_cases h1 : 100 < p
      · clear hin
        go_enter Tryd.func45, Tryd.ntmps45
        go_wp2_with fail
        refine bodyPost_ret (by conv => lhs; simp [results, Tryd.results45, go_sem, *]) rfl ⟨fun _ _ _ _ _ _ _ _ _ _ _ _ h => (by cases h), fun _ => ⟨_, rfl⟩, ?_⟩
        show Acc w _
        (repeat' (first | (with_reducible first | assumption | exact Acc.refl _ | refine Acc.drew ?_ | refine Acc.drewN ?_ _ | refine Acc.alloc ?_ _ | refine Acc.setCell ?_ ?_ _) | (refine leB ?_; omega)))
      · have h2 : q < -100 := by omega
        clear hin
        go_enter Tryd.func45, Tryd.ntmps45
        go_wp2_with fail
        refine bodyPost_ret (by conv => lhs; simp [results, Tryd.results45, go_sem, *]) rfl ⟨fun _ _ _ _ _ _ _ _ _ _ _ _ h => (by cases h), fun _ => ⟨_, rfl⟩, ?_⟩
        show Acc w _
        (repeat' (first | (with_reducible first | assumption | exact Acc.refl _ | refine Acc.drew ?_ | refine Acc.drewN ?_ _ | refine Acc.alloc ?_ _ | refine Acc.setCell ?_ ?_ _) | (refine leB ?_; omega)))
    · skip
      by_cases h1 : 100 < p
      · clear hin
        go_enter Tryd.func45, Tryd.ntmps45
        go_wp2_with fail
        refine bodyPost_ret (by conv => lhs; simp [results, Tryd.results45, go_sem, *]) rfl ⟨fun _ _ _ _ _ _ _ _ _ _ _ _ h => (by cases h), fun _ => ⟨_, rfl⟩, ?_⟩
        show Acc w _
        (repeat' (first | (with_reducible first | assumption | exact Acc.refl _ | refine Acc.drew ?_ | refine Acc.drewN ?_ _ | refine Acc.alloc ?_ _ | refine Acc.setCell ?_ ?_ _) | (refine leB ?_; omega)))
      · have h2 : p < -100 := by omega
        clear hin
        go_enter Tryd.func45, Tryd.ntmps45
        go_wp2_with fail
        refine bodyPost_ret (by conv => lhs; simp [results, Tryd.results45, go_sem, *]) rfl ⟨fun _ _ _ _ _ _ _ _ _ _ _ _ h => (by cases h), fun _ => ⟨_, rfl⟩, ?_⟩
        show Acc w _
        (repeat' (first | (with_reducible first | assumption | exact Acc.refl _ | refine Acc.drew ?_ | refine Acc.drewN ?_ _ | refine Acc.alloc ?_ _ | refine Acc.setCell ?_ ?_ _) | (refine leB ?_; omega)))
set_option maxHeartbeats 16000000 in
theorem turned_fil (p q c1 c2 c3 s1 s2 s3 : Int) (hip : i64B p) (hiq : i64B q) (h : dirB p q = true) (hc : dirC p q = (c1, c2, c3)) (hs : dirS p q = (s1, s2, s3)) (o : Option ((Int × Int × Int) × (Int × Int × Int) × (Int × Int × Int) × (Int × Int × Int))) (w : World)
    (K : ∀ W, Acc w W → Calls Tryd.prog 106 #[.agg #[.int .i64 c1, .int .i64 c2, .int .i64 c3], .agg #[.int .i64 s1, .int .i64 s2, .int .i64 s3]] W (Erred12 o W)) :
    Calls Tryd.prog 45 #[.agg #[.func (.func 106) #[] #[]], .int .i64 p, .int .i64 q] w (Erred12 o w) := by
  obtain ⟨bp, bq, hne⟩ := ddir_bd2 h
  have sp := dsq_bd2 bp.1 bp.2
  have sq := dsq_bd2 bq.1 bq.2
  have tb := dtwo_bd2 bp bq
  obtain ⟨n, x, y, en, ex, ey, n1, -, -, -, -, oc, -, -, os, -, -, mc, ms⟩ := dir_val h
  subst en ex ey
  rw [hc] at mc oc
  rw [hs] at ms os
  have lc := low_dir n1 mc
  have ls := low_dir n1 ms
  have HC := Lib.hid fun w => lowest_any (p * p - q * q) 0 (p * p + q * q) w (by unfold i64B; omega) (by unfold i64B; omega) (by unfold i64B; omega)
  have HS := Lib.hid fun w => lowest_any (2 * p * q) 0 (p * p + q * q) w (by unfold i64B; omega) (by unfold i64B; omega) (by unfold i64B; omega)
  rw [lc] at HC
  rw [ls] at HS
  have HK := Lib.hid K
  clear hne h hc hs mc ms lc ls oc os n1 K
  rcases (show p < q ∨ (¬ p < q ∧ q < p) ∨ (¬ p < q ∧ ¬ q < p) by omega) with hlt | ⟨hlt, hlt2⟩ | ⟨hlt, hlt2⟩
  · skip
    go_enter Tryd.func45, Tryd.ntmps45
    go_wp2_with fail
    refine (HC.out _).mono ?_
    rintro e W1 ⟨h, -, hb⟩
    obtain rfl := h _ _ _ rfl
    clear h
    obtain ⟨Be, Bz⟩ : Blk W1 (w.heap.size) [.func (.func 106) #[] #[]] ∧ Blk W1 (w.heap.size + 1) [.int .i64 0, .int .i64 0, .int .i64 0, .int .i64 0, .int .i64 0, .int .i64 0, .int .i64 0, .int .i64 0, .int .i64 0, .int .i64 0, .int .i64 0, .int .i64 0] := by
      refine ⟨?_, ?_⟩ <;> refine Blk.keep hb ?_ <;> (repeat' (first | (with_reducible first | assumption | refine Blk.drew ?_ | refine Blk.drewN ?_ _ | apply Blk.set | (refine Blk.new ?_; focus (first | rfl | (simp; done))) | refine Blk.alloc ?_ _ | refine Blk.other ?_ ?_ _) | exact eqL rfl | (refine neB ?_; omega)))
    have ce := Be.cell
    have fe := Be.free
    have le_W1 := Be.lt
    have cz := Bz.cell
    have fz := Bz.free
    have lz_W1 := Bz.lt
    have kaW1 : Acc w W1 := by
      refine Acc.call ?_ hb
      (repeat' (first | (with_reducible first | assumption | exact Acc.refl _ | refine Acc.drew ?_ | refine Acc.drewN ?_ _ | refine Acc.alloc ?_ _ | refine Acc.setCell ?_ ?_ _) | (refine leB ?_; omega)))
    clear hb
    go_wp2_with fail
    refine (HS.out _).mono ?_
    rintro e W2 ⟨h, -, hb⟩
    obtain rfl := h _ _ _ rfl
    clear h
    obtain ⟨Be, Bz, Bc⟩ : Blk W2 (w.heap.size) [.func (.func 106) #[] #[]] ∧ Blk W2 (w.heap.size + 1) [.int .i64 0, .int .i64 0, .int .i64 0, .int .i64 0, .int .i64 0, .int .i64 0, .int .i64 0, .int .i64 0, .int .i64 0, .int .i64 0, .int .i64 0, .int .i64 0] ∧ Blk W2 (W1.heap.size) [.int .i64 c1, .int .i64 c2, .int .i64 c3] := by
      refine ⟨?_, ?_, ?_⟩ <;> refine Blk.keep hb ?_ <;> (repeat' (first | (with_reducible first | assumption | refine Blk.drew ?_ | refine Blk.drewN ?_ _ | apply Blk.set | (refine Blk.new ?_; focus (first | rfl | (simp; done))) | refine Blk.alloc ?_ _ | refine Blk.other ?_ ?_ _) | exact eqL rfl | (refine neB ?_; omega)))
    have ce := Be.cell
    have fe := Be.free
    have le_W2 := Be.lt
    have cz := Bz.cell
    have fz := Bz.free
    have lz_W2 := Bz.lt
    have cc := Bc.cell
    have fc := Bc.free
    have lc_W2 := Bc.lt
    have kaW2 : Acc w W2 := by
      refine Acc.call ?_ hb
      (repeat' (first | (with_reducible first | assumption | exact Acc.refl _ | refine Acc.drew ?_ | refine Acc.drewN ?_ _ | refine Acc.alloc ?_ _ | refine Acc.setCell ?_ ?_ _) | (refine leB ?_; omega)))
    clear hb
    go_wp2_with fail
    refine (HK.out _ (by repeat' (first | (with_reducible first | assumption | exact Acc.refl _ | refine Acc.drew ?_ | refine Acc.drewN ?_ _ | refine Acc.alloc ?_ _ | refine Acc.setCell ?_ ?_ _) | (refine leB ?_; omega)))).mono ?_
    rintro e W3 ⟨h1, h2, hb⟩
    obtain ⟨Be, Bz, Bc, Bs⟩ : Blk W3 (w.heap.size) [.func (.func 106) #[] #[]] ∧ Blk W3 (w.heap.size + 1) [.int .i64 0, .int .i64 0, .int .i64 0, .int .i64 0, .int .i64 0, .int .i64 0, .int .i64 0, .int .i64 0, .int .i64 0, .int .i64 0, .int .i64 0, .int .i64 0] ∧ Blk W3 (W1.heap.size) [.int .i64 c1, .int .i64 c2, .int .i64 c3] ∧ Blk W3 (W2.heap.size) [.int .i64 s1, .int .i64 s2, .int .i64 s3] := by
      refine ⟨?_, ?_, ?_, ?_⟩ <;> refine Blk.keep hb ?_ <;> (repeat' (first | (with_reducible first | assumption | refine Blk.drew ?_ | refine Blk.drewN ?_ _ | apply Blk.set | (refine Blk.new ?_; focus (first | rfl | (simp; done))) | refine Blk.alloc ?_ _ | refine Blk.other ?_ ?_ _) | exact eqL rfl | (refine neB ?_; omega)))
    have ce := Be.cell
    have fe := Be.free
    have le_W3 := Be.lt
    have cz := Bz.cell
    have fz := Bz.free
    have lz_W3 := Bz.lt
    have cc := Bc.cell
    have fc := Bc.free
    have lc_W3 := Bc.lt
    have cs := Bs.cell
    have fs := Bs.free
    have ls_W3 := Bs.lt
    have kaW3 : Acc w W3 := by
      refine Acc.call ?_ hb
      (repeat' (first | (with_reducible first | assumption | exact Acc.refl _ | refine Acc.drew ?_ | refine Acc.drewN ?_ _ | refine Acc.alloc ?_ _ | refine Acc.setCell ?_ ?_ _) | (refine leB ?_; omega)))
    clear hb
    cases o with
    | none =>
      obtain ⟨s, rfl⟩ := h2 rfl
      clear h1 h2
      go_wp2_with fail
      refine bodyPost_ret (v := .tuple #[.agg #[.int .i64 0, .int .i64 0, .int .i64 0, .int .i64 0, .int .i64 0, .int .i64 0, .int .i64 0, .int .i64 0, .int .i64 0, .int .i64 0, .int .i64 0, .int .i64 0], .iface 103 (.agg #[.string s])]) (by simp [results, Tryd.results45, go_sem, *]) rfl ⟨fun _ _ _ _ _ _ _ _ _ _ _ _ h => (by cases h), fun _ => ⟨_, rfl⟩, ?_⟩
      show Acc w _
      (repeat' (first | (with_reducible first | assumption | exact Acc.refl _ | refine Acc.drew ?_ | refine Acc.drewN ?_ _ | refine Acc.alloc ?_ _ | refine Acc.setCell ?_ ?_ _) | (refine leB ?_; omega)))
    | some v =>
      obtain ⟨⟨p1, p2, p3⟩, ⟨t1, t2, t3⟩, ⟨r1, r2, r3⟩, u1, u2, u3⟩ := v
      obtain rfl := h1 _ _ _ _ _ _ _ _ _ _ _ _ rfl
      clear h1 h2
      go_wp2_with fail
      refine bodyPost_ret (v := .tuple #[.agg #[.int .i64 p1, .int .i64 p2, .int .i64 p3, .int .i64 t1, .int .i64 t2, .int .i64 t3, .int .i64 r1, .int .i64 r2, .int .i64 r3, .int .i64 u1, .int .i64 u2, .int .i64 u3], .nilIface]) (by simp [results, Tryd.results45, go_sem, *]) rfl ⟨fun _ _ _ _ _ _ _ _ _ _ _ _ h => (by cases h; rfl), fun h => (by cases h), ?_⟩
      show Acc w _
      (repeat' (first | (with_reducible first | assumption | exact Acc.refl _ | refine Acc.drew ?_ | refine Acc.drewN ?_ _ | refine Acc.alloc ?_ _ | refine Acc.setCell ?_ ?_ _) | (refine leB ?_; omega)))
  · skip
    go_enter Tryd.func45, Tryd.ntmps45
    go_wp2_with fail
    refine (HC.out _).mono ?_
    rintro e W1 ⟨h, -, hb⟩
    obtain rfl := h _ _ _ rfl
    clear h
    obtain ⟨Be, Bz⟩ : Blk W1 (w.heap.size) [.func (.func 106) #[] #[]] ∧ Blk W1 (w.heap.size + 1) [.int .i64 0, .int .i64 0, .int .i64 0, .int .i64 0, .int .i64 0, .int .i64 0, .int .i64 0, .int .i64 0, .int .i64 0, .int .i64 0, .int .i64 0, .int .i64 0] := by
      refine ⟨?_, ?_⟩ <;> refine Blk.keep hb ?_ <;> (repeat' (first | (with_reducible first | assumption | refine Blk.drew ?_ | refine Blk.drewN ?_ _ | apply Blk.set | (refine Blk.new ?_; focus (first | rfl | (simp; done))) | refine Blk.alloc ?_ _ | refine Blk.other ?_ ?_ _) | exact eqL rfl | (refine neB ?_; omega)))
    have ce := Be.cell
    have fe := Be.free
    have le_W1 := Be.lt
    have cz := Bz.cell
    have fz := Bz.free
    have lz_W1 := Bz.lt
    have kaW1 : Acc w W1 := by
      refine Acc.call ?_ hb
      (repeat' (first | (with_reducible first | assumption | exact Acc.refl _ | refine Acc.drew ?_ | refine Acc.drewN ?_ _ | refine Acc.alloc ?_ _ | refine Acc.setCell ?_ ?_ _) | (refine leB ?_; omega)))
    clear hb
    go_wp2_with fail
    refine (HS.out _).mono ?_
    rintro e W2 ⟨h, -, hb⟩
    obtain rfl := h _ _ _ rfl
    clear h
    obtain ⟨Be, Bz, Bc⟩ : Blk W2 (w.heap.size) [.func (.func 106) #[] #[]] ∧ Blk W2 (w.heap.size + 1) [.int .i64 0, .int .i64 0, .int .i64 0, .int .i64 0, .int .i64 0, .int .i64 0, .int .i64 0, .int .i64 0, .int .i64 0, .int .i64 0, .int .i64 0, .int .i64 0] ∧ Blk W2 (W1.heap.size) [.int .i64 c1, .int .i64 c2, .int .i64 c3] := by
      refine ⟨?_, ?_, ?_⟩ <;> refine Blk.keep hb ?_ <;> (repeat' (first | (with_reducible first | assumption | refine Blk.drew ?_ | refine Blk.drewN ?_ _ | apply Blk.set | (refine Blk.new ?_; focus (first | rfl | (simp; done))) | refine Blk.alloc ?_ _ | refine Blk.other ?_ ?_ _) | exact eqL rfl | (refine neB ?_; omega)))
    have ce := Be.cell
    have fe := Be.free
    have le_W2 := Be.lt
    have cz := Bz.cell
    have fz := Bz.free
    have lz_W2 := Bz.lt
    have cc := Bc.cell
    have fc := Bc.free
    have lc_W2 := Bc.lt
    have kaW2 : Acc w W2 := by
      refine Acc.call ?_ hb
      (repeat' (first | (with_reducible first | assumption | exact Acc.refl _ | refine Acc.drew ?_ | refine Acc.drewN ?_ _ | refine Acc.alloc ?_ _ | refine Acc.setCell ?_ ?_ _) | (refine leB ?_; omega)))
    clear hb
    go_wp2_with fail
    refine (HK.out _ (by repeat' (first | (with_reducible first | assumption | exact Acc.refl _ | refine Acc.drew ?_ | refine Acc.drewN ?_ _ | refine Acc.alloc ?_ _ | refine Acc.setCell ?_ ?_ _) | (refine leB ?_; omega)))).mono ?_
    rintro e W3 ⟨h1, h2, hb⟩
    obtain ⟨Be, Bz, Bc, Bs⟩ : Blk W3 (w.heap.size) [.func (.func 106) #[] #[]] ∧ Blk W3 (w.heap.size + 1) [.int .i64 0, .int .i64 0, .int .i64 0, .int .i64 0, .int .i64 0, .int .i64 0, .int .i64 0, .int .i64 0, .int .i64 0, .int .i64 0, .int .i64 0, .int .i64 0] ∧ Blk W3 (W1.heap.size) [.int .i64 c1, .int .i64 c2, .int .i64 c3] ∧ Blk W3 (W2.heap.size) [.int .i64 s1, .int .i64 s2, .int .i64 s3] := by
      refine ⟨?_, ?_, ?_, ?_⟩ <;> refine Blk.keep hb ?_ <;> (repeat' (first | (with_reducible first | assumption | refine Blk.drew ?_ | refine Blk.drewN ?_ _ | apply Blk.set | (refine Blk.new ?_; focus (first | rfl | (simp; done))) | refine Blk.alloc ?_ _ | refine Blk.other ?_ ?_ _) | exact eqL rfl | (refine neB ?_; omega)))
    have ce := Be.cell
    have fe := Be.free
    have le_W3 := Be.lt
    have cz := Bz.cell
    have fz := Bz.free
    have lz_W3 := Bz.lt
    have cc := Bc.cell
    have fc := Bc.free
    have lc_W3 := Bc.lt
    have cs := Bs.cell
    have fs := Bs.free
    have ls_W3 := Bs.lt
    have kaW3 : Acc w W3 := by
      refine Acc.call ?_ hb
      (repeat' (first | (with_reducible first | assumption | exact Acc.refl _ | refine Acc.drew ?_ | refine Acc.drewN ?_ _ | refine Acc.alloc ?_ _ | refine Acc.setCell ?_ ?_ _) | (refine leB ?_; omega)))
    clear hb
    cases o with
    | none =>
      obtain ⟨s, rfl⟩ := h2 rfl
      clear h1 h2
      go_wp2_with fail
      refine bodyPost_ret (v := .tuple #[.agg #[.int .i64 0, .int .i64 0, .int .i64 0, .int .i64 0, .int .i64 0, .int .i64 0, .int .i64 0, .int .i64 0, .int .i64 0, .int .i64 0, .int .i64 0, .int .i64 0], .iface 103 (.agg #[.string s])]) (by simp [results, Tryd.results45, go_sem, *]) rfl ⟨fun _ _ _ _ _ _ _ _ _ _ _ _ h => (by cases h), fun _ => ⟨_, rfl⟩, ?_⟩
      show Acc w _
      (repeat' (first | (with_reducible first | assumption | exact Acc.refl _ | refine Acc.drew ?_ | refine Acc.drewN ?_ _ | refine Acc.alloc ?_ _ | refine Acc.setCell ?_ ?_ _) | (refine leB ?_; omega)))
    | some v =>
      obtain ⟨⟨p1, p2, p3⟩, ⟨t1, t2, t3⟩, ⟨r1, r2, r3⟩, u1, u2, u3⟩ := v
      obtain rfl := h1 _ _ _ _ _ _ _ _ _ _ _ _ rfl
      clear h1 h2
      go_wp2_with fail
      refine bodyPost_ret (v := .tuple #[.agg #[.int .i64 p1, .int .i64 p2, .int .i64 p3, .int .i64 t1, .int .i64 t2, .int .i64 t3, .int .i64 r1, .int .i64 r2, .int .i64 r3, .int .i64 u1, .int .i64 u2, .int .i64 u3], .nilIface]) (by simp [results, Tryd.results45, go_sem, *]) rfl ⟨fun _ _ _ _ _ _ _ _ _ _ _ _ h => (by cases h; rfl), fun h => (by cases h), ?_⟩
      show Acc w _
      (repeat' (first | (with_reducible first | assumption | exact Acc.refl _ | refine Acc.drew ?_ | refine Acc.drewN ?_ _ | refine Acc.alloc ?_ _ | refine Acc.setCell ?_ ?_ _) | (refine leB ?_; omega)))
  · skip
    go_enter Tryd.func45, Tryd.ntmps45
    go_wp2_with fail
    refine (HC.out _).mono ?_
    rintro e W1 ⟨h, -, hb⟩
    obtain rfl := h _ _ _ rfl
    clear h
    obtain ⟨Be, Bz⟩ : Blk W1 (w.heap.size) [.func (.func 106) #[] #[]] ∧ Blk W1 (w.heap.size + 1) [.int .i64 0, .int .i64 0, .int .i64 0, .int .i64 0, .int .i64 0, .int .i64 0, .int .i64 0, .int .i64 0, .int .i64 0, .int .i64 0, .int .i64 0, .int .i64 0] := by
      refine ⟨?_, ?_⟩ <;> refine Blk.keep hb ?_ <;> (repeat' (first | (with_reducible first | assumption | refine Blk.drew ?_ | refine Blk.drewN ?_ _ | apply Blk.set | (refine Blk.new ?_; focus (first | rfl | (simp; done))) | refine Blk.alloc ?_ _ | refine Blk.other ?_ ?_ _) | exact eqL rfl | (refine neB ?_; omega)))
    have ce := Be.cell
    have fe := Be.free
    have le_W1 := Be.lt
    have cz := Bz.cell
    have fz := Bz.free
    have lz_W1 := Bz.lt
    have kaW1 : Acc w W1 := by
      refine Acc.call ?_ hb
      (repeat' (first | (with_reducible first | assumption | exact Acc.refl _ | refine Acc.drew ?_ | refine Acc.drewN ?_ _ | refine Acc.alloc ?_ _ | refine Acc.setCell ?_ ?_ _) | (refine leB ?_; omega)))
    clear hb
    go_wp2_with fail
    refine (HS.out _).mono ?_
    rintro e W2 ⟨h, -, hb⟩
    obtain rfl := h _ _ _ rfl
    clear h
    obtain ⟨Be, Bz, Bc⟩ : Blk W2 (w.heap.size) [.func (.func 106) #[] #[]] ∧ Blk W2 (w.heap.size + 1) [.int .i64 0, .int .i64 0, .int .i64 0, .int .i64 0, .int .i64 0, .int .i64 0, .int .i64 0, .int .i64 0, .int .i64 0, .int .i64 0, .int .i64 0, .int .i64 0] ∧ Blk W2 (W1.heap.size) [.int .i64 c1, .int .i64 c2, .int .i64 c3] := by
      refine ⟨?_, ?_, ?_⟩ <;> refine Blk.keep hb ?_ <;> (repeat' (first | (with_reducible first | assumption | refine Blk.drew ?_ | refine Blk.drewN ?_ _ | apply Blk.set | (refine Blk.new ?_; focus (first | rfl | (simp; done))) | refine Blk.alloc ?_ _ | refine Blk.other ?_ ?_ _) | exact eqL rfl | (refine neB ?_; omega)))
    have ce := Be.cell
    have fe := Be.free
    have le_W2 := Be.lt
    have cz := Bz.cell
    have fz := Bz.free
    have lz_W2 := Bz.lt
    have cc := Bc.cell
    have fc := Bc.free
    have lc_W2 := Bc.lt
    have kaW2 : Acc w W2 := by
      refine Acc.call ?_ hb
      (repeat' (first | (with_reducible first | assumption | exact Acc.refl _ | refine Acc.drew ?_ | refine Acc.drewN ?_ _ | refine Acc.alloc ?_ _ | refine Acc.setCell ?_ ?_ _) | (refine leB ?_; omega)))
    clear hb
    go_wp2_with fail
    refine (HK.out _ (by repeat' (first | (with_reducible first | assumption | exact Acc.refl _ | refine Acc.drew ?_ | refine Acc.drewN ?_ _ | refine Acc.alloc ?_ _ | refine Acc.setCell ?_ ?_ _) | (refine leB ?_; omega)))).mono ?_
    rintro e W3 ⟨h1, h2, hb⟩
    obtain ⟨Be, Bz, Bc, Bs⟩ : Blk W3 (w.heap.size) [.func (.func 106) #[] #[]] ∧ Blk W3 (w.heap.size + 1) [.int .i64 0, .int .i64 0, .int .i64 0, .int .i64 0, .int .i64 0, .int .i64 0, .int .i64 0, .int .i64 0, .int .i64 0, .int .i64 0, .int .i64 0, .int .i64 0] ∧ Blk W3 (W1.heap.size) [.int .i64 c1, .int .i64 c2, .int .i64 c3] ∧ Blk W3 (W2.heap.size) [.int .i64 s1, .int .i64 s2, .int .i64 s3] := by
      refine ⟨?_, ?_, ?_, ?_⟩ <;> refine Blk.keep hb ?_ <;> (repeat' (first | (with_reducible first | assumption | refine Blk.drew ?_ | refine Blk.drewN ?_ _ | apply Blk.set | (refine Blk.new ?_; focus (first | rfl | (simp; done))) | refine Blk.alloc ?_ _ | refine Blk.other ?_ ?_ _) | exact eqL rfl | (refine neB ?_; omega)))
    have ce := Be.cell
    have fe := Be.free
    have le_W3 := Be.lt
    have cz := Bz.cell
    have fz := Bz.free
    have lz_W3 := Bz.lt
    have cc := Bc.cell
    have fc := Bc.free
    have lc_W3 := Bc.lt
    have cs := Bs.cell
    have fs := Bs.free
    have ls_W3 := Bs.lt
    have kaW3 : Acc w W3 := by
      refine Acc.call ?_ hb
      (repeat' (first | (with_reducible first | assumption | exact Acc.refl _ | refine Acc.drew ?_ | refine Acc.drewN ?_ _ | refine Acc.alloc ?_ _ | refine Acc.setCell ?_ ?_ _) | (refine leB ?_; omega)))
    clear hb
    cases o with
    | none =>
      obtain ⟨s, rfl⟩ := h2 rfl
      clear h1 h2
      go_wp2_with fail
      refine bodyPost_ret (v := .tuple #[.agg #[.int .i64 0, .int .i64 0, .int .i64 0, .int .i64 0, .int .i64 0, .int .i64 0, .int .i64 0, .int .i64 0, .int .i64 0, .int .i64 0, .int .i64 0, .int .i64 0], .iface 103 (.agg #[.string s])]) (by simp [results, Tryd.results45, go_sem, *]) rfl ⟨fun _ _ _ _ _ _ _ _ _ _ _ _ h => (by cases h), fun _ => ⟨_, rfl⟩, ?_⟩
      show Acc w _
      (repeat' (first | (with_reducible first | assumption | exact Acc.refl _ | refine Acc.drew ?_ | refine Acc.drewN ?_ _ | refine Acc.alloc ?_ _ | refine Acc.setCell ?_ ?_ _) | (refine leB ?_; omega)))
    | some v =>
      obtain ⟨⟨p1, p2, p3⟩, ⟨t1, t2, t3⟩, ⟨r1, r2, r3⟩, u1, u2, u3⟩ := v
      obtain rfl := h1 _ _ _ _ _ _ _ _ _ _ _ _ rfl
      clear h1 h2
      go_wp2_with fail
      refine bodyPost_ret (v := .tuple #[.agg #[.int .i64 p1, .int .i64 p2, .int .i64 p3, .int .i64 t1, .int .i64 t2, .int .i64 t3, .int .i64 r1, .int .i64 r2, .int .i64 r3, .int .i64 u1, .int .i64 u2, .int .i64 u3], .nilIface]) (by simp [results, Tryd.results45, go_sem, *]) rfl ⟨fun _ _ _ _ _ _ _ _ _ _ _ _ h => (by cases h; rfl), fun h => (by cases h), ?_⟩
      show Acc w _
      (repeat' (first | (with_reducible first | assumption | exact Acc.refl _ | refine Acc.drew ?_ | refine Acc.drewN ?_ _ | refine Acc.alloc ?_ _ | refine Acc.setCell ?_ ?_ _) | (refine leB ?_; omega)))
set_option maxHeartbeats 16000000 in
theorem turned_fil_no (p q : Int) (hip : i64B p) (hiq : i64B q) (h : dirB p q = false) (w : World) :
    Calls Tryd.prog 45 #[.agg #[.func (.func 106) #[] #[]], .int .i64 p, .int .i64 q] w (Erred12 none w) := by
  by_cases hin : (-100 ≤ p ∧ p ≤ 100) ∧ (-100 ≤ q ∧ q ≤ 100)
  · obtain ⟨rfl, rfl⟩ := dno h hin.1 hin.2
    have HC := Lib.hid fun w => lowest_any 0 0 0 w hip hip hip
    rw [show lowE 0 0 0 = none by decide] at HC
    clear h hin
    go_enter Tryd.func45, Tryd.ntmps45
    go_wp2_with fail
    refine (HC.out _).mono ?_
    rintro e W1 ⟨-, h, hb⟩
    obtain ⟨s, rfl⟩ := h rfl
    clear h
    obtain ⟨Be, Bz⟩ : Blk W1 (w.heap.size) [.func (.func 106) #[] #[]] ∧ Blk W1 (w.heap.size + 1) [.int .i64 0, .int .i64 0, .int .i64 0, .int .i64 0, .int .i64 0, .int .i64 0, .int .i64 0, .int .i64 0, .int .i64 0, .int .i64 0, .int .i64 0, .int .i64 0] := by
      refine ⟨?_, ?_⟩ <;> refine Blk.keep hb ?_ <;> (repeat' (first | (with_reducible first | assumption | refine Blk.drew ?_ | refine Blk.drewN ?_ _ | apply Blk.set | (refine Blk.new ?_; focus (first | rfl | (simp; done))) | refine Blk.alloc ?_ _ | refine Blk.other ?_ ?_ _) | exact eqL rfl | (refine neB ?_; omega)))
    have ce := Be.cell
    have fe := Be.free
    have le_W1 := Be.lt
    have cz := Bz.cell
    have fz := Bz.free
    have lz_W1 := Bz.lt
    have kaW1 : Acc w W1 := by
      refine Acc.call ?_ hb
      (repeat' (first | (with_reducible first | assumption | exact Acc.refl _ | refine Acc.drew ?_ | refine Acc.drewN ?_ _ | refine Acc.alloc ?_ _ | refine Acc.setCell ?_ ?_ _) | (refine leB ?_; omega)))
    clear hb
    go_wp2_with fail
    refine bodyPost_ret (v := .tuple #[.agg #[.int .i64 0, .int .i64 0, .int .i64 0, .int .i64 0, .int .i64 0, .int .i64 0, .int .i64 0, .int .i64 0, .int .i64 0, .int .i64 0, .int .i64 0, .int .i64 0], .iface 103 (.agg #[.string s])]) (by simp [results, Tryd.results45, go_sem, *]) rfl ⟨fun _ _ _ _ _ _ _ _ _ _ _ _ h => (by cases h), fun _ => ⟨_, rfl⟩, ?_⟩
    show Acc w _
    (repeat' (first | (with_reducible first | assumption | exact Acc.refl _ | refine Acc.drew ?_ | refine Acc.drewN ?_ _ | refine Acc.alloc ?_ _ | refine Acc.setCell ?_ ?_ _) | (refine leB ?_; omega)))
  · clear h
    rcases (show p < q ∨ (¬ p < q ∧ q < p) ∨ (¬ p < q ∧ ¬ q < p) by omega) with hlt | ⟨hlt, hlt2⟩ | ⟨hlt, hlt2⟩
    · skip
      by_cases h1 : 100 < q
      · clear hin
        go_enter Tryd.func45, Tryd.ntmps45
        go_wp2_with fail
        refine bodyPost_ret (by conv => lhs; simp [results, Tryd.results45, go_sem, *]) rfl ⟨fun _ _ _ _ _ _ _ _ _ _ _ _ h => (by cases h), fun _ => ⟨_, rfl⟩, ?_⟩
        show Acc w _
        (repeat' (first | (with_reducible first | assumption | exact Acc.refl _ | refine Acc.drew ?_ | refine Acc.drewN ?_ _ | refine Acc.alloc ?_ _ | refine Acc.setCell ?_ ?_ _) | (refine leB ?_; omega)))
      · have h2 : p < -100 := by omega
        clear hin
        go_enter Tryd.func45, Tryd.ntmps45
        go_wp2_with fail
        refine bodyPost_ret (by conv => lhs; simp [results, Tryd.results45, go_sem, *]) rfl ⟨fun _ _ _ _ _ _ _ _ _ _ _ _ h => (by cases h), fun _ => ⟨_, rfl⟩, ?_⟩
        show Acc w _
        (repeat' (first | (with_reducible first | assumption | exact Acc.refl _ | refine Acc.drew ?_ | refine Acc.drewN ?_ _ | refine Acc.alloc ?_ _ | refine Acc.setCell ?_ ?_ _) | (refine leB ?_; omega)))
    · skip
      by_cases h1 : 100 < p
      · clear hin
        go_enter Tryd.func45, Tryd.ntmps45
        go_wp2_with fail
        refine bodyPost_ret (by conv => lhs; simp [results, Tryd.results45, go_sem, *]) rfl ⟨fun _ _ _ _ _ _ _ _ _ _ _ _ h => (by cases h), fun _ => ⟨_, rfl⟩, ?_⟩
        show Acc w _
        (repeat' (first | (with_reducible first | assumption | exact Acc.refl _ | refine Acc.drew ?_ | refine Acc.drewN ?_ _ | refine Acc.alloc ?_ _ | refine Acc.setCell ?_ ?_ _) | (refine leB ?_; omega)))
      · have h2 : q < -100 := by omega
        clear hin
        go_enter Tryd.func45, Tryd.ntmps45
        go_wp2_with fail
        refine bodyPost_ret (by conv => lhs; simp [results, Tryd.results45, go_sem, *]) rfl ⟨fun _ _ _ _ _ _ _ _ _ _ _ _ h => (by cases h), fun _ => ⟨_, rfl⟩, ?_⟩
        show Acc w _
        (repeat' (first | (with_reducible first | assumption | exact Acc.refl _ | refine Acc.drew ?_ | refine Acc.drewN ?_ _ | refine Acc.alloc ?_ _ | refine Acc.setCell ?_ ?_ _) | (refine leB ?_; omega)))
    · skip
      by_cases h1 : 100 < p
      · clear hin
        go_enter Tryd.func45, Tryd.ntmps45
        go_wp2_with fail
        refine bodyPost_ret (by conv => lhs; simp [results, Tryd.results45, go_sem, *]) rfl ⟨fun _ _ _ _ _ _ _ _ _ _ _ _ h => (by cases h), fun _ => ⟨_, rfl⟩, ?_⟩
        show Acc w _
        (repeat' (first | (with_reducible first | assumption | exact Acc.refl _ | refine Acc.drew ?_ | refine Acc.drewN ?_ _ | refine Acc.alloc ?_ _ | refine Acc.setCell ?_ ?_ _) | (refine leB ?_; omega)))
      · have h2 : p < -100 := by omega
        clear hin
        go_enter Tryd.func45, Tryd.ntmps45
        go_wp2_with fail
        refine bodyPost_ret (by conv => lhs; simp [results, Tryd.results45, go_sem, *]) rfl ⟨fun _ _ _ _ _ _ _ _ _ _ _ _ h => (by cases h), fun _ => ⟨_, rfl⟩, ?_⟩
        show Acc w _
        (repeat' (first | (with_reducible first | assumption | exact Acc.refl _ | refine Acc.drew ?_ | refine Acc.drewN ?_ _ | refine Acc.alloc ?_ _ | refine Acc.setCell ?_ ?_ _) | (refine leB ?_; omega)))
end Go.Proofs.YtiibnncanpohjaaDoor
