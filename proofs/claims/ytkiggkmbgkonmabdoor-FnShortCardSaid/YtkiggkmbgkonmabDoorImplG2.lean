/-
  The program's plates, turned.
-/
import Derived.Test.YtkiggkmbgkonmabDoorImplG1
import Derived.Test.YtkiggkmbgkonmabDoorImplM6c
import Derived.Test.YtkiggkmbgkonmabDoorBMath
namespace Go.Proofs.YtkiggkmbgkonmabDoor
open Go.ChangeShapes Go.WideShapes Go.ChangeAt Go.RowKit
set_option linter.unusedVariables false

set_option linter.unusedSimpArgs false
theorem ddir_bd2 {p q : Int} (h : dirB p q = true) : (-100 ≤ p ∧ p ≤ 100) ∧ (-100 ≤ q ∧ q ≤ 100) ∧ ¬ (p = 0 ∧ q = 0) := by
  unfold dirB at h
  simp only [Bool.and_eq_true, Bool.not_eq_true', Bool.and_eq_false_iff, beq_eq_false_iff_ne] at h
  exact ⟨inB_bd h.1.1, inB_bd h.1.2, fun k => by rcases h.2 with h | h; exact h k.1; exact h k.2⟩
theorem dno {p q : Int} (h : dirB p q = false) (hp : -100 ≤ p ∧ p ≤ 100) (hq : -100 ≤ q ∧ q ≤ 100) : p = 0 ∧ q = 0 := by
  unfold dirB inB at h
  simp only [Bool.and_eq_false_iff, decide_eq_false_iff_not, Bool.not_eq_false', Bool.and_eq_true, beq_iff_eq] at h
  omega
theorem dsq_bd2 {a : Int} (h1 : -100 ≤ a) (h2 : a ≤ 100) : 0 ≤ a * a ∧ a * a ≤ 10000 := by
  have := mul_bd (a := a) (b := a) (m := 100) (n := 100) (by omega) (by omega) (by omega) (by omega)
  exact ⟨isq_nonneg a, by omega⟩
theorem dtwo_bd2 {p q : Int} (hp : -100 ≤ p ∧ p ≤ 100) (hq : -100 ≤ q ∧ q ≤ 100) : -20000 ≤ 2 * p * q ∧ 2 * p * q ≤ 20000 := by
  have := mul_bd (a := p) (b := q) (m := 100) (n := 100) (by omega) (by omega) (by omega) (by omega)
  have e : 2 * p * q = 2 * (p * q) := by rw [Int.mul_assoc]
  omega
/-- The program's lowest terms of a direction. -/
theorem low_dir {x n : Int} {u : F3} (hn : 1 ≤ n) (h : makeF x 0 n = some u) : lowE x 0 n = some u := by
  unfold makeF at h
  split at h
  · unfold lowE
    rw [if_neg (by omega)]
    exact h
  · cases h
theorem pla_progN {p q k f1 f2 f3 c1 c3 s1 s3 : Int} (hf : phaT k = (f1, f2, f3)) (hr : rotM p q = some ((c1, 0, c3), (-s1, 0, s3), (s1, 0, s3), c1, 0, c3)) (hok : okM ((c1, 0, c3), (-s1, 0, s3), (s1, 0, s3), c1, 0, c3) = true) : plaM p q k = ((adjM ((c1, 0, c3), (-s1, 0, s3), (s1, 0, s3), c1, 0, c3)).bind fun B => (if inB k 0 3 = true then some (f1, f2, f3) else none).bind fun (f : F3) => (mulM ((c1, 0, c3), (-s1, 0, s3), (s1, 0, s3), c1, 0, c3) ((1, 0, 1), (0, 0, 1), (0, 0, 1), f)).bind fun X => mulM X B) := by
  unfold plaM diaM
  rw [hr, hf, Option.bind_some, adjM_of hok]
  cases inB k 0 3 <;> rfl
set_option maxHeartbeats 16000000 in
theorem turnP_any (kb : Nat) (p q k : Int) (h : dirB p q = true) (w : World) (Bk : Blk w kb [.int .i64 k]) :
    Calls Tryd.prog 41 #[.agg #[.func (.func 76) #[] #[.pointer (some ⟨kb, 0, none⟩)]], .int .i64 p, .int .i64 q] w (Erred12 (plaM p q k) w) := by
  obtain ⟨bp, bq, hne⟩ := ddir_bd2 h
  have sp := dsq_bd2 bp.1 bp.2
  have sq := dsq_bd2 bq.1 bq.2
  have tb := dtwo_bd2 bp bq
  obtain ⟨n, x, y, en, ex, ey, n1, -, -, -, -, oc, -, zc, os, -, zs, mc, ms⟩ := dir_val h
  subst en ex ey
  obtain ⟨⟨c1, c2, c3⟩, hc⟩ : ∃ o, dirC p q = o := ⟨_, rfl⟩
  obtain ⟨⟨s1, s2, s3⟩, hs⟩ : ∃ o, dirS p q = o := ⟨_, rfl⟩
  rw [hc] at oc zc mc
  rw [hs] at os zs ms
  obtain rfl : s2 = 0 := zs
  obtain rfl : c2 = 0 := zc
  obtain ⟨hc1, hc2, hc3⟩ := okF_i64 (show okF c1 0 c3 = true from oc)
  obtain ⟨hs1, hs2, hs3⟩ := okF_i64 (show okF s1 0 s3 = true from os)
  obtain ⟨bs1, -, -⟩ := okF_bd (show okF s1 0 s3 = true from os)
  have lc := low_dir n1 mc
  have ls := low_dir n1 ms
  have HC := Lib.hid fun w => lowest_any (p * p - q * q) 0 (p * p + q * q) w (by unfold i64B; omega) (by unfold i64B; omega) (by unfold i64B; omega)
  have HS := Lib.hid fun w => lowest_any (2 * p * q) 0 (p * p + q * q) w (by unfold i64B; omega) (by unfold i64B; omega) (by unfold i64B; omega)
  rw [lc] at HC
  rw [ls] at HS
  have en : negT (s1, 0, s3) = (-s1, 0, s3) := by unfold negT; rw [Int.zero_sub]
  have hr := rot_some h
  have hok := (rot_ok hr).2
  rw [hc, hs, en] at hr hok
  obtain ⟨⟨f1, f2, f3⟩, hf⟩ : ∃ o, phaT k = o := ⟨_, rfl⟩
  rw [pla_progN hf hr hok]
  obtain ⟨o, ho⟩ : ∃ o, ((adjM ((c1, 0, c3), (-s1, 0, s3), (s1, 0, s3), c1, 0, c3)).bind fun B => (if inB k 0 3 = true then some (f1, f2, f3) else none).bind fun (f : F3) => (mulM ((c1, 0, c3), (-s1, 0, s3), (s1, 0, s3), c1, 0, c3) ((1, 0, 1), (0, 0, 1), (0, 0, 1), f)).bind fun X => mulM X B) = o := ⟨_, rfl⟩
  have HK := Lib.hid fun (W : World) (a : Acc w W) => plaClo_any kb k c1 0 c3 s1 s3 f1 f2 f3 hc1 hc2 hc3 bs1 hs3 hok hf W (Bk.keep a)
  rw [ho] at HK ⊢
  have HD := Lib.hid h
  clear hne h hc hs mc ms lc ls oc os n1 ho hr hok hf en Bk
  go_enter Tryd.func41, Tryd.ntmps41
  go_wp2_with fail
  refine (checkDirB_any p q _).mono ?_
  rintro e W1 h
  obtain ⟨h, hb⟩ := Chk.out h
  obtain ⟨Be, Bz⟩ : Blk W1 (w.heap.size) [.func (.func 76) #[] #[.pointer (some ⟨kb, 0, none⟩)]] ∧ Blk W1 (w.heap.size + 1) [.int .i64 0, .int .i64 0, .int .i64 0, .int .i64 0, .int .i64 0, .int .i64 0, .int .i64 0, .int .i64 0, .int .i64 0, .int .i64 0, .int .i64 0, .int .i64 0] := by
    refine ⟨?_, ?_⟩ <;> refine Blk.keep hb ?_ <;> (repeat' (first | (with_reducible first | assumption | refine Blk.drew ?_ | refine Blk.drewN ?_ _ | apply Blk.set | (refine Blk.new ?_; focus (first | rfl | (simp; done))) | refine Blk.alloc ?_ _ | refine Blk.other ?_ ?_ _) | exact eqL rfl | (refine neB ?_; omega)))
  have ce := Be.cell
  have fe := Be.free
  have le_W1 := Be.lt
  have cz := Bz.cell
  have fz := Bz.free
  have lz_W1 := Bz.lt
  have kaW1 : Acc w W1 := by
    refine Acc.call ?_ hb
    (repeat' (first | (with_reducible first | assumption | exact Acc.refl _ | refine Acc.drew ?_ | refine Acc.drewN ?_ _ | refine Acc.alloc ?_ _ | refine Acc.setCell ?_ ?_ _) | (refine leB ?_; omega)))
  clear hb
  rcases h with ⟨hy, rfl⟩ | ⟨s, hn, rfl⟩
  · skip
    clear hy
    go_wp2_with fail
    refine (HC.out _).mono ?_
    rintro e W2 ⟨h, -, hb⟩
    obtain rfl := h _ _ _ rfl
    clear h
    obtain ⟨Be, Bz⟩ : Blk W2 (w.heap.size) [.func (.func 76) #[] #[.pointer (some ⟨kb, 0, none⟩)]] ∧ Blk W2 (w.heap.size + 1) [.int .i64 0, .int .i64 0, .int .i64 0, .int .i64 0, .int .i64 0, .int .i64 0, .int .i64 0, .int .i64 0, .int .i64 0, .int .i64 0, .int .i64 0, .int .i64 0] := by
      refine ⟨?_, ?_⟩ <;> refine Blk.keep hb ?_ <;> (repeat' (first | (with_reducible first | assumption | refine Blk.drew ?_ | refine Blk.drewN ?_ _ | apply Blk.set | (refine Blk.new ?_; focus (first | rfl | (simp; done))) | refine Blk.alloc ?_ _ | refine Blk.other ?_ ?_ _) | exact eqL rfl | (refine neB ?_; omega)))
    have ce := Be.cell
    have fe := Be.free
    have le_W2 := Be.lt
    have cz := Bz.cell
    have fz := Bz.free
    have lz_W2 := Bz.lt
    have kaW2 : Acc w W2 := by
      refine Acc.call ?_ hb
      (repeat' (first | (with_reducible first | assumption | exact Acc.refl _ | refine Acc.drew ?_ | refine Acc.drewN ?_ _ | refine Acc.alloc ?_ _ | refine Acc.setCell ?_ ?_ _) | (refine leB ?_; omega)))
    clear hb
    go_wp2_with fail
    refine (HS.out _).mono ?_
    rintro e W3 ⟨h, -, hb⟩
    obtain rfl := h _ _ _ rfl
    clear h
    obtain ⟨Be, Bz, Bc⟩ : Blk W3 (w.heap.size) [.func (.func 76) #[] #[.pointer (some ⟨kb, 0, none⟩)]] ∧ Blk W3 (w.heap.size + 1) [.int .i64 0, .int .i64 0, .int .i64 0, .int .i64 0, .int .i64 0, .int .i64 0, .int .i64 0, .int .i64 0, .int .i64 0, .int .i64 0, .int .i64 0, .int .i64 0] ∧ Blk W3 (W2.heap.size) [.int .i64 c1, .int .i64 0, .int .i64 c3] := by
      refine ⟨?_, ?_, ?_⟩ <;> refine Blk.keep hb ?_ <;> (repeat' (first | (with_reducible first | assumption | refine Blk.drew ?_ | refine Blk.drewN ?_ _ | apply Blk.set | (refine Blk.new ?_; focus (first | rfl | (simp; done))) | refine Blk.alloc ?_ _ | refine Blk.other ?_ ?_ _) | exact eqL rfl | (refine neB ?_; omega)))
    have ce := Be.cell
    have fe := Be.free
    have le_W3 := Be.lt
    have cz := Bz.cell
    have fz := Bz.free
    have lz_W3 := Bz.lt
    have cc := Bc.cell
    have fc := Bc.free
    have lc_W3 := Bc.lt
    have kaW3 : Acc w W3 := by
      refine Acc.call ?_ hb
      (repeat' (first | (with_reducible first | assumption | exact Acc.refl _ | refine Acc.drew ?_ | refine Acc.drewN ?_ _ | refine Acc.alloc ?_ _ | refine Acc.setCell ?_ ?_ _) | (refine leB ?_; omega)))
    clear hb
    go_wp2_with fail
    refine (HK.out _ (by repeat' (first | (with_reducible first | assumption | exact Acc.refl _ | refine Acc.drew ?_ | refine Acc.drewN ?_ _ | refine Acc.alloc ?_ _ | refine Acc.setCell ?_ ?_ _) | (refine leB ?_; omega)))).mono ?_
    rintro e W4 ⟨h1, h2, hb⟩
    obtain ⟨Be, Bz, Bc, Bs⟩ : Blk W4 (w.heap.size) [.func (.func 76) #[] #[.pointer (some ⟨kb, 0, none⟩)]] ∧ Blk W4 (w.heap.size + 1) [.int .i64 0, .int .i64 0, .int .i64 0, .int .i64 0, .int .i64 0, .int .i64 0, .int .i64 0, .int .i64 0, .int .i64 0, .int .i64 0, .int .i64 0, .int .i64 0] ∧ Blk W4 (W2.heap.size) [.int .i64 c1, .int .i64 0, .int .i64 c3] ∧ Blk W4 (W3.heap.size) [.int .i64 s1, .int .i64 0, .int .i64 s3] := by
      refine ⟨?_, ?_, ?_, ?_⟩ <;> refine Blk.keep hb ?_ <;> (repeat' (first | (with_reducible first | assumption | refine Blk.drew ?_ | refine Blk.drewN ?_ _ | apply Blk.set | (refine Blk.new ?_; focus (first | rfl | (simp; done))) | refine Blk.alloc ?_ _ | refine Blk.other ?_ ?_ _) | exact eqL rfl | (refine neB ?_; omega)))
    have ce := Be.cell
    have fe := Be.free
    have le_W4 := Be.lt
    have cz := Bz.cell
    have fz := Bz.free
    have lz_W4 := Bz.lt
    have cc := Bc.cell
    have fc := Bc.free
    have lc_W4 := Bc.lt
    have cs := Bs.cell
    have fs := Bs.free
    have ls_W4 := Bs.lt
    have kaW4 : Acc w W4 := by
      refine Acc.call ?_ hb
      (repeat' (first | (with_reducible first | assumption | exact Acc.refl _ | refine Acc.drew ?_ | refine Acc.drewN ?_ _ | refine Acc.alloc ?_ _ | refine Acc.setCell ?_ ?_ _) | (refine leB ?_; omega)))
    clear hb
    cases o with
    | none =>
      obtain ⟨s, rfl⟩ := h2 rfl
      clear h1 h2
      go_wp2_with fail
      refine bodyPost_ret (v := .tuple #[.agg #[.int .i64 0, .int .i64 0, .int .i64 0, .int .i64 0, .int .i64 0, .int .i64 0, .int .i64 0, .int .i64 0, .int .i64 0, .int .i64 0, .int .i64 0, .int .i64 0], .iface 83 (.agg #[.string s])]) (by simp [results, Tryd.results41, go_sem, *]) rfl ⟨fun _ _ _ _ _ _ _ _ _ _ _ _ h => (by cases h), fun _ => ⟨_, rfl⟩, ?_⟩
      show Acc w _
      (repeat' (first | (with_reducible first | assumption | exact Acc.refl _ | refine Acc.drew ?_ | refine Acc.drewN ?_ _ | refine Acc.alloc ?_ _ | refine Acc.setCell ?_ ?_ _) | (refine leB ?_; omega)))
    | some v =>
      obtain ⟨⟨p1, p2, p3⟩, ⟨t1, t2, t3⟩, ⟨r1, r2, r3⟩, u1, u2, u3⟩ := v
      obtain rfl := h1 _ _ _ _ _ _ _ _ _ _ _ _ rfl
      clear h1 h2
      go_wp2_with fail
      refine bodyPost_ret (v := .tuple #[.agg #[.int .i64 p1, .int .i64 p2, .int .i64 p3, .int .i64 t1, .int .i64 t2, .int .i64 t3, .int .i64 r1, .int .i64 r2, .int .i64 r3, .int .i64 u1, .int .i64 u2, .int .i64 u3], .nilIface]) (by simp [results, Tryd.results41, go_sem, *]) rfl ⟨fun _ _ _ _ _ _ _ _ _ _ _ _ h => (by cases h; rfl), fun h => (by cases h), ?_⟩
      show Acc w _
      (repeat' (first | (with_reducible first | assumption | exact Acc.refl _ | refine Acc.drew ?_ | refine Acc.drewN ?_ _ | refine Acc.alloc ?_ _ | refine Acc.setCell ?_ ?_ _) | (refine leB ?_; omega)))
  · skip
    rw [HD.out] at hn
    cases hn
end Go.Proofs.YtkiggkmbgkonmabDoor
