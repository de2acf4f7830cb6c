/-
  The program's fibres: plates turned, matrices.
-/
import Derived.Test.YtkdkeacfifjjoabGreatDoorImplG1
import Derived.Test.YtkdkeacfifjjoabGreatDoorImplM6c
import Derived.Test.YtkdkeacfifjjoabGreatDoorBMath
import Derived.Test.YtkdkeacfifjjoabGreatDoorImplM2
import Derived.Test.YtkdkeacfifjjoabGreatDoorBFib
import Derived.Test.YtkdkeacfifjjoabGreatDoorImplM1
import Derived.Test.YtkdkeacfifjjoabGreatDoorImplG3
import Derived.Test.YtkdkeacfifjjoabGreatDoorBImplF
namespace Go.Proofs.YtkdkeacfifjjoabGreatDoor
open Go.ChangeShapes Go.WideShapes Go.ChangeAt Go.RowKit
set_option linter.unusedVariables false

set_option linter.unusedSimpArgs false
theorem ddir_bd2 {p q : Int} (h : dirB p q = true) : (-100 ≤ p ∧ p ≤ 100) ∧ (-100 ≤ q ∧ q ≤ 100) ∧ ¬ (p = 0 ∧ q = 0) := by
  unfold dirB at h
  simp only [Bool.and_eq_true, Bool.not_eq_true', Bool.and_eq_false_iff, beq_eq_false_iff_ne] at h
  exact ⟨inB_bd h.1.1, inB_bd h.1.2, fun k => by rcases h.2 with h | h; exact h k.1; exact h k.2⟩
theorem dsq_bd2 {a : Int} (h1 : -100 ≤ a) (h2 : a ≤ 100) : 0 ≤ a * a ∧ a * a ≤ 10000 := by
  have := mul_bd (a := a) (b := a) (m := 100) (n := 100) (by omega) (by omega) (by omega) (by omega)
  exact ⟨isq_nonneg a, by omega⟩
theorem dtwo_bd2 {p q : Int} (hp : -100 ≤ p ∧ p ≤ 100) (hq : -100 ≤ q ∧ q ≤ 100) : -20000 ≤ 2 * p * q ∧ 2 * p * q ≤ 20000 := by
  have := mul_bd (a := p) (b := q) (m := 100) (n := 100) (by omega) (by omega) (by omega) (by omega)
  have e : 2 * p * q = 2 * (p * q) := by rw [Int.mul_assoc]
  omega
/-- The program's lowest terms of a direction. -/
theorem low_dir {x n : Int} {u : F3} (hn : 1 ≤ n) (h : makeF x 0 n = some u) : lowE x 0 n = some u := by
  unfold makeF at h
  split at h
  · unfold lowE
    rw [if_neg (by omega)]
    exact h
  · cases h
theorem pla_progN {p q k f1 f2 f3 c1 c3 s1 s3 : Int} (hf : phaT k = (f1, f2, f3)) (hr : rotM p q = some ((c1, 0, c3), (-s1, 0, s3), (s1, 0, s3), c1, 0, c3)) (hok : okM ((c1, 0, c3), (-s1, 0, s3), (s1, 0, s3), c1, 0, c3) = true) : plaM p q k = ((adjM ((c1, 0, c3), (-s1, 0, s3), (s1, 0, s3), c1, 0, c3)).bind fun B => (if inB k 0 3 = true then some (f1, f2, f3) else none).bind fun (f : F3) => (mulM ((c1, 0, c3), (-s1, 0, s3), (s1, 0, s3), c1, 0, c3) ((1, 0, 1), (0, 0, 1), (0, 0, 1), f)).bind fun X => mulM X B) := by
  unfold plaM diaM
  rw [hr, hf, Option.bind_some, adjM_of hok]
  cases inB k 0 3 <;> rfl
set_option maxHeartbeats 16000000 in
theorem turnP_any (kb : Nat) (p q k : Int) (h : dirB p q = true) (w : World) (Bk : Blk w kb [.int .i64 k]) :
    Calls Tryz.prog 112 #[.agg #[.func (.func 137) #[] #[.pointer (some ⟨kb, 0, none⟩)]], .int .i64 p, .int .i64 q] w (Erred12 (plaM p q k) w) := by
  obtain ⟨bp, bq, hne⟩ := ddir_bd2 h
  have sp := dsq_bd2 bp.1 bp.2
  have sq := dsq_bd2 bq.1 bq.2
  have tb := dtwo_bd2 bp bq
  obtain ⟨n, x, y, en, ex, ey, n1, -, -, -, -, oc, -, zc, os, -, zs, mc, ms⟩ := dir_val h
  subst en ex ey
  obtain ⟨⟨c1, c2, c3⟩, hc⟩ : ∃ o, dirC p q = o := ⟨_, rfl⟩
  obtain ⟨⟨s1, s2, s3⟩, hs⟩ : ∃ o, dirS p q = o := ⟨_, rfl⟩
  rw [hc] at oc zc mc
  rw [hs] at os zs ms
  obtain rfl : s2 = 0 := zs
  obtain rfl : c2 = 0 := zc
  obtain ⟨hc1, hc2, hc3⟩ := okF_i64 (show okF c1 0 c3 = true from oc)
  obtain ⟨hs1, hs2, hs3⟩ := okF_i64 (show okF s1 0 s3 = true from os)
  obtain ⟨bs1, -, -⟩ := okF_bd (show okF s1 0 s3 = true from os)
  have lc := low_dir n1 mc
  have ls := low_dir n1 ms
  have HC := Lib.hid fun w => lowest_any (p * p - q * q) 0 (p * p + q * q) w (by unfold i64B; omega) (by unfold i64B; omega) (by unfold i64B; omega)
  have HS := Lib.hid fun w => lowest_any (2 * p * q) 0 (p * p + q * q) w (by unfold i64B; omega) (by unfold i64B; omega) (by unfold i64B; omega)
  rw [lc] at HC
  rw [ls] at HS
  have en : negT (s1, 0, s3) = (-s1, 0, s3) := by unfold negT; rw [Int.zero_sub]
  have hr := rot_some h
  have hok := (rot_ok hr).2
  rw [hc, hs, en] at hr hok
  obtain ⟨⟨f1, f2, f3⟩, hf⟩ : ∃ o, phaT k = o := ⟨_, rfl⟩
  rw [pla_progN hf hr hok]
  obtain ⟨o, ho⟩ : ∃ o, ((adjM ((c1, 0, c3), (-s1, 0, s3), (s1, 0, s3), c1, 0, c3)).bind fun B => (if inB k 0 3 = true then some (f1, f2, f3) else none).bind fun (f : F3) => (mulM ((c1, 0, c3), (-s1, 0, s3), (s1, 0, s3), c1, 0, c3) ((1, 0, 1), (0, 0, 1), (0, 0, 1), f)).bind fun X => mulM X B) = o := ⟨_, rfl⟩
  have HK := Lib.hid fun (W : World) (a : Acc w W) => plaClo_any kb k c1 0 c3 s1 s3 f1 f2 f3 hc1 hc2 hc3 bs1 hs3 hok hf W (Bk.keep a)
  rw [ho] at HK ⊢
  have HD := Lib.hid h
  clear hne h hc hs mc ms lc ls oc os n1 ho hr hok hf en Bk
  go_enter Tryz.func112, Tryz.ntmps112
  go_wp2_with fail
  refine (checkDirB_any p q _).mono ?_
  rintro e W1 h
  obtain ⟨h, hb⟩ := Chk.out h
  obtain ⟨Be, Bz⟩ : Blk W1 (w.heap.size) [.func (.func 137) #[] #[.pointer (some ⟨kb, 0, none⟩)]] ∧ Blk W1 (w.heap.size + 1) [.int .i64 0, .int .i64 0, .int .i64 0, .int .i64 0, .int .i64 0, .int .i64 0, .int .i64 0, .int .i64 0, .int .i64 0, .int .i64 0, .int .i64 0, .int .i64 0] := by
    refine ⟨?_, ?_⟩ <;> refine Blk.keep hb ?_ <;> (repeat' (first | (with_reducible first | assumption | refine Blk.drew ?_ | refine Blk.drewN ?_ _ | apply Blk.set | (refine Blk.new ?_; focus (first | rfl | (simp; done))) | refine Blk.alloc ?_ _ | refine Blk.other ?_ ?_ _) | exact eqL rfl | (refine neB ?_; omega)))
  have ce := Be.cell
  have fe := Be.free
  have le_W1 := Be.lt
  have cz := Bz.cell
  have fz := Bz.free
  have lz_W1 := Bz.lt
  have kaW1 : Acc w W1 := by
    refine Acc.call ?_ hb
    (repeat' (first | (with_reducible first | assumption | exact Acc.refl _ | refine Acc.drew ?_ | refine Acc.drewN ?_ _ | refine Acc.alloc ?_ _ | refine Acc.setCell ?_ ?_ _) | (refine leB ?_; omega)))
  clear hb
  rcases h with ⟨hy, rfl⟩ | ⟨s, hn, rfl⟩
  · skip
    clear hy
    go_wp2_with fail
    refine (HC.out _).mono ?_
    rintro e W2 ⟨h, -, hb⟩
    obtain rfl := h _ _ _ rfl
    clear h
    obtain ⟨Be, Bz⟩ : Blk W2 (w.heap.size) [.func (.func 137) #[] #[.pointer (some ⟨kb, 0, none⟩)]] ∧ Blk W2 (w.heap.size + 1) [.int .i64 0, .int .i64 0, .int .i64 0, .int .i64 0, .int .i64 0, .int .i64 0, .int .i64 0, .int .i64 0, .int .i64 0, .int .i64 0, .int .i64 0, .int .i64 0] := by
      refine ⟨?_, ?_⟩ <;> refine Blk.keep hb ?_ <;> (repeat' (first | (with_reducible first | assumption | refine Blk.drew ?_ | refine Blk.drewN ?_ _ | apply Blk.set | (refine Blk.new ?_; focus (first | rfl | (simp; done))) | refine Blk.alloc ?_ _ | refine Blk.other ?_ ?_ _) | exact eqL rfl | (refine neB ?_; omega)))
    have ce := Be.cell
    have fe := Be.free
    have le_W2 := Be.lt
    have cz := Bz.cell
    have fz := Bz.free
    have lz_W2 := Bz.lt
    have kaW2 : Acc w W2 := by
      refine Acc.call ?_ hb
      (repeat' (first | (with_reducible first | assumption | exact Acc.refl _ | refine Acc.drew ?_ | refine Acc.drewN ?_ _ | refine Acc.alloc ?_ _ | refine Acc.setCell ?_ ?_ _) | (refine leB ?_; omega)))
    clear hb
    go_wp2_with fail
    refine (HS.out _).mono ?_
    rintro e W3 ⟨h, -, hb⟩
    obtain rfl := h _ _ _ rfl
    clear h
    obtain ⟨Be, Bz, Bc⟩ : Blk W3 (w.heap.size) [.func (.func 137) #[] #[.pointer (some ⟨kb, 0, none⟩)]] ∧ Blk W3 (w.heap.size + 1) [.int .i64 0, .int .i64 0, .int .i64 0, .int .i64 0, .int .i64 0, .int .i64 0, .int .i64 0, .int .i64 0, .int .i64 0, .int .i64 0, .int .i64 0, .int .i64 0] ∧ Blk W3 (W2.heap.size) [.int .i64 c1, .int .i64 0, .int .i64 c3] := by
      refine ⟨?_, ?_, ?_⟩ <;> refine Blk.keep hb ?_ <;> (repeat' (first | (with_reducible first | assumption | refine Blk.drew ?_ | refine Blk.drewN ?_ _ | apply Blk.set | (refine Blk.new ?_; focus (first | rfl | (simp; done))) | refine Blk.alloc ?_ _ | refine Blk.other ?_ ?_ _) | exact eqL rfl | (refine neB ?_; omega)))
    have ce := Be.cell
    have fe := Be.free
    have le_W3 := Be.lt
    have cz := Bz.cell
    have fz := Bz.free
    have lz_W3 := Bz.lt
    have cc := Bc.cell
    have fc := Bc.free
    have lc_W3 := Bc.lt
    have kaW3 : Acc w W3 := by
      refine Acc.call ?_ hb
      (repeat' (first | (with_reducible first | assumption | exact Acc.refl _ | refine Acc.drew ?_ | refine Acc.drewN ?_ _ | refine Acc.alloc ?_ _ | refine Acc.setCell ?_ ?_ _) | (refine leB ?_; omega)))
    clear hb
    go_wp2_with fail
    refine (HK.out _ (by repeat' (first | (with_reducible first | assumption | exact Acc.refl _ | refine Acc.drew ?_ | refine Acc.drewN ?_ _ | refine Acc.alloc ?_ _ | refine Acc.setCell ?_ ?_ _) | (refine leB ?_; omega)))).mono ?_
    rintro e W4 ⟨h1, h2, hb⟩
    obtain ⟨Be, Bz, Bc, Bs⟩ : Blk W4 (w.heap.size) [.func (.func 137) #[] #[.pointer (some ⟨kb, 0, none⟩)]] ∧ Blk W4 (w.heap.size + 1) [.int .i64 0, .int .i64 0, .int .i64 0, .int .i64 0, .int .i64 0, .int .i64 0, .int .i64 0, .int .i64 0, .int .i64 0, .int .i64 0, .int .i64 0, .int .i64 0] ∧ Blk W4 (W2.heap.size) [.int .i64 c1, .int .i64 0, .int .i64 c3] ∧ Blk W4 (W3.heap.size) [.int .i64 s1, .int .i64 0, .int .i64 s3] := by
      refine ⟨?_, ?_, ?_, ?_⟩ <;> refine Blk.keep hb ?_ <;> (repeat' (first | (with_reducible first | assumption | refine Blk.drew ?_ | refine Blk.drewN ?_ _ | apply Blk.set | (refine Blk.new ?_; focus (first | rfl | (simp; done))) | refine Blk.alloc ?_ _ | refine Blk.other ?_ ?_ _) | exact eqL rfl | (refine neB ?_; omega)))
    have ce := Be.cell
    have fe := Be.free
    have le_W4 := Be.lt
    have cz := Bz.cell
    have fz := Bz.free
    have lz_W4 := Bz.lt
    have cc := Bc.cell
    have fc := Bc.free
    have lc_W4 := Bc.lt
    have cs := Bs.cell
    have fs := Bs.free
    have ls_W4 := Bs.lt
    have kaW4 : Acc w W4 := by
      refine Acc.call ?_ hb
      (repeat' (first | (with_reducible first | assumption | exact Acc.refl _ | refine Acc.drew ?_ | refine Acc.drewN ?_ _ | refine Acc.alloc ?_ _ | refine Acc.setCell ?_ ?_ _) | (refine leB ?_; omega)))
    clear hb
    cases o with
    | none =>
      obtain ⟨s, rfl⟩ := h2 rfl
      clear h1 h2
      go_wp2_with fail
      refine bodyPost_ret (v := .tuple #[.agg #[.int .i64 0, .int .i64 0, .int .i64 0, .int .i64 0, .int .i64 0, .int .i64 0, .int .i64 0, .int .i64 0, .int .i64 0, .int .i64 0, .int .i64 0, .int .i64 0], .iface 142 (.agg #[.string s])]) (by simp [results, Tryz.results112, go_sem, *]) rfl ⟨fun _ _ _ _ _ _ _ _ _ _ _ _ h => (by cases h), fun _ => ⟨_, rfl⟩, ?_⟩
      show Acc w _
      (repeat' (first | (with_reducible first | assumption | exact Acc.refl _ | refine Acc.drew ?_ | refine Acc.drewN ?_ _ | refine Acc.alloc ?_ _ | refine Acc.setCell ?_ ?_ _) | (refine leB ?_; omega)))
    | some v =>
      obtain ⟨⟨p1, p2, p3⟩, ⟨t1, t2, t3⟩, ⟨r1, r2, r3⟩, u1, u2, u3⟩ := v
      obtain rfl := h1 _ _ _ _ _ _ _ _ _ _ _ _ rfl
      clear h1 h2
      go_wp2_with fail
      refine bodyPost_ret (v := .tuple #[.agg #[.int .i64 p1, .int .i64 p2, .int .i64 p3, .int .i64 t1, .int .i64 t2, .int .i64 t3, .int .i64 r1, .int .i64 r2, .int .i64 r3, .int .i64 u1, .int .i64 u2, .int .i64 u3], .nilIface]) (by simp [results, Tryz.results112, go_sem, *]) rfl ⟨fun _ _ _ _ _ _ _ _ _ _ _ _ h => (by cases h; rfl), fun h => (by cases h), ?_⟩
      show Acc w _
      (repeat' (first | (with_reducible first | assumption | exact Acc.refl _ | refine Acc.drew ?_ | refine Acc.drewN ?_ _ | refine Acc.alloc ?_ _ | refine Acc.setCell ?_ ?_ _) | (refine leB ?_; omega)))
  · skip
    rw [HD.out] at hn
    cases hn

set_option linter.unusedSimpArgs false
theorem i64N_of {A : F4} (h : okM A = true) : i64B A.1.1 ∧ i64B A.1.2.1 ∧ i64B A.1.2.2 ∧ i64B A.2.1.1 ∧ i64B A.2.1.2.1 ∧ i64B A.2.1.2.2 ∧ i64B A.2.2.1.1 ∧ i64B A.2.2.1.2.1 ∧ i64B A.2.2.1.2.2 ∧ i64B A.2.2.2.1 ∧ i64B A.2.2.2.2.1 ∧ i64B A.2.2.2.2.2 := by
  obtain ⟨a, b, c, d⟩ := A
  obtain ⟨h1, h2, h3, h4⟩ := okM_of h
  obtain ⟨a1, a2, a3⟩ := okF_i64 h1
  obtain ⟨b1, b2, b3⟩ := okF_i64 h2
  obtain ⟨c1, c2, c3⟩ := okF_i64 h3
  obtain ⟨d1, d2, d3⟩ := okF_i64 h4
  exact ⟨a1, a2, a3, b1, b2, b3, c1, c2, c3, d1, d2, d3⟩
theorem mxT_any (a1 a2 a3 a4 a5 a6 a7 a8 a9 a10 a11 a12 b1 b2 b3 b4 b5 b6 b7 b8 b9 b10 b11 b12 : Int) (hA : okM ((a1, a2, a3), (a4, a5, a6), (a7, a8, a9), (a10, a11, a12)) = true) (hB : okM ((b1, b2, b3), (b4, b5, b6), (b7, b8, b9), (b10, b11, b12)) = true) (w : World) : Calls Tryz.prog 64 #[.agg #[.int .i64 a1, .int .i64 a2, .int .i64 a3, .int .i64 a4, .int .i64 a5, .int .i64 a6, .int .i64 a7, .int .i64 a8, .int .i64 a9, .int .i64 a10, .int .i64 a11, .int .i64 a12], .agg #[.int .i64 b1, .int .i64 b2, .int .i64 b3, .int .i64 b4, .int .i64 b5, .int .i64 b6, .int .i64 b7, .int .i64 b8, .int .i64 b9, .int .i64 b10, .int .i64 b11, .int .i64 b12]] w (Erred12 (mulM ((a1, a2, a3), (a4, a5, a6), (a7, a8, a9), (a10, a11, a12)) ((b1, b2, b3), (b4, b5, b6), (b7, b8, b9), (b10, b11, b12))) w) := by
  obtain ⟨ha1, ha2, ha3, ha4, ha5, ha6, ha7, ha8, ha9, ha10, ha11, ha12⟩ := i64N_of hA
  obtain ⟨hb1, hb2, hb3, hb4, hb5, hb6, hb7, hb8, hb9, hb10, hb11, hb12⟩ := i64N_of hB
  exact mxtimes_any a1 a2 a3 a4 a5 a6 a7 a8 a9 a10 a11 a12 b1 b2 b3 b4 b5 b6 b7 b8 b9 b10 b11 b12 ha1 ha2 ha3 ha4 ha5 ha6 ha7 ha8 ha9 ha10 ha11 ha12 hb1 hb2 hb3 hb4 hb5 hb6 hb7 hb8 hb9 hb10 hb11 hb12 w
/-- A plate's element, its phase's block under a letter. -/
theorem plateE_any (k : Int) (w : World) : Calls Tryz.prog 111 #[.int .i64 k] w fun e w' => ∃ kb : Nat, w.heap.size ≤ kb ∧ e = .returned (.agg #[.func (.func 137) #[] #[.pointer (some ⟨kb, 0, none⟩)]]) ∧ Blk w' kb [.int .i64 k] ∧ Below w.heap.size w w' :=
  (plate_any k w).mono fun e w' h => ⟨w.heap.size, Nat.le_refl _, h.1, h.2.1, h.2.2⟩
set_option maxRecDepth 100000 in
set_option maxHeartbeats 16000000 in
theorem behind_any (n1 n2 n3 : Int) (t : Nat) (a1 a2 a3 a4 a5 a6 a7 a8 a9 a10 a11 a12 : Int) (hd : dirB n1 n2 = true) (ht : (t : Int) ≤ 50) (hA : okM ((a1, a2, a3), (a4, a5, a6), (a7, a8, a9), (a10, a11, a12)) = true) (w : World) : Calls Tryz.prog 73 #[.agg #[.int .i64 n1, .int .i64 n2, .int .i64 n3, .int .i64 (t : Int)], .agg #[.int .i64 a1, .int .i64 a2, .int .i64 a3, .int .i64 a4, .int .i64 a5, .int .i64 a6, .int .i64 a7, .int .i64 a8, .int .i64 a9, .int .i64 a10, .int .i64 a11, .int .i64 a12]] w (Erred12 (secM ((n1, n2, n3), (t : Int)) ((a1, a2, a3), (a4, a5, a6), (a7, a8, a9), (a10, a11, a12))) w) := by
  have T := Lib.hid fun kb (W : World) (B : Blk W kb [.int .i64 n3]) => turnP_any kb n1 n2 n3 hd W B
  clear hd
  have HA := Lib.hid hA
  clear hA
  obtain ⟨o, E⟩ : ∃ o, secM ((n1, n2, n3), (t : Int)) ((a1, a2, a3), (a4, a5, a6), (a7, a8, a9), (a10, a11, a12)) = o := ⟨_, rfl⟩
  rw [E]
  have HE := Lib.hid E
  clear E
  cases hp : plaM n1 n2 n3 with
  | none =>
    have D := Lib.hid fun kb W B => (T.out kb W B).mono fun e w' h => And.intro (h.2.1 hp) h.2.2
    have HP := Lib.hid hp
    clear hp T
    obtain rfl : o = none := HE.out.symm.trans (by unfold secM; rw [HP.out]; rfl)
    go_enter Tryz.func73, Tryz.ntmps73
    go_upto_region 1 with fail
    go_region_held3 (fun w' => (∀ k, w'.cell? ⟨w.heap.size, k, none⟩ = [.int .i64 n1, .int .i64 n2, .int .i64 n3, .int .i64 (t : Int)][k]?))
      (((try dsimp only); (refine Blk.cell ?_ <;> (repeat' (first | (with_reducible first | assumption | refine Blk.drew ?_ | refine Blk.drewN ?_ _ | apply Blk.set | (refine Blk.new ?_; focus (first | rfl | (simp; done))) | refine Blk.alloc ?_ _ | refine Blk.other ?_ ?_ _) | exact eqL rfl | (refine neB ?_; omega))))))
      (first
        | (go_at_call 111; refine (plateE_any n3 _).mono ?_; rintro e W8 ⟨kb, hkb, rfl, Bk, hb⟩; (try (refine with_fact (A := Blk W8 (w.heap.size + 1 + 1 + 1) [.int .i64 0, .int .i64 0, .int .i64 0, .int .i64 0, .int .i64 0, .int .i64 0, .int .i64 0, .int .i64 0, .int .i64 0, .int .i64 0, .int .i64 0, .int .i64 0]) ?_ ?_; (focus (refine Blk.keep hb ?_; (repeat' (first | (with_reducible first | assumption | refine Blk.drew ?_ | refine Blk.drewN ?_ _ | apply Blk.set | (refine Blk.new ?_; focus (first | rfl | (simp; done))) | refine Blk.alloc ?_ _ | refine Blk.other ?_ ?_ _) | exact eqL rfl | (refine neB ?_; omega))); done)); intro Bz1; have cz1 := Bz1.cell; have fz1 := Bz1.free; have lz1 := Bz1.lt)); have Bs : Blk W8 (w.heap.size) [.int .i64 n1, .int .i64 n2, .int .i64 n3, .int .i64 (t : Int)] := Blk.keep hb (by repeat' (first | (with_reducible first | assumption | refine Blk.drew ?_ | refine Blk.drewN ?_ _ | apply Blk.set | (refine Blk.new ?_; focus (first | rfl | (simp; done))) | refine Blk.alloc ?_ _ | refine Blk.other ?_ ?_ _) | exact eqL rfl | (refine neB ?_; omega))); have Bo : Blk W8 (w.heap.size + 1) [.int .i64 a1, .int .i64 a2, .int .i64 a3, .int .i64 a4, .int .i64 a5, .int .i64 a6, .int .i64 a7, .int .i64 a8, .int .i64 a9, .int .i64 a10, .int .i64 a11, .int .i64 a12] := Blk.keep hb (by repeat' (first | (with_reducible first | assumption | refine Blk.drew ?_ | refine Blk.drewN ?_ _ | apply Blk.set | (refine Blk.new ?_; focus (first | rfl | (simp; done))) | refine Blk.alloc ?_ _ | refine Blk.other ?_ ?_ _) | exact eqL rfl | (refine neB ?_; omega))); have Br : Blk W8 (w.heap.size + 1 + 1) [.int .i64 0, .int .i64 0, .int .i64 0, .int .i64 0, .int .i64 0, .int .i64 0, .int .i64 0, .int .i64 0, .int .i64 0, .int .i64 0, .int .i64 0, .int .i64 0] := Blk.keep hb (by repeat' (first | (with_reducible first | assumption | refine Blk.drew ?_ | refine Blk.drewN ?_ _ | apply Blk.set | (refine Blk.new ?_; focus (first | rfl | (simp; done))) | refine Blk.alloc ?_ _ | refine Blk.other ?_ ?_ _) | exact eqL rfl | (refine neB ?_; omega))); have cs := Bs.cell; have fs := Bs.free; have ls_W8 := Bs.lt; have co := Bo.cell; have fo := Bo.free; have lo_W8 := Bo.lt; have cr := Br.cell; have fr := Br.free; have lr_W8 := Br.lt; have kaW8 : Acc w W8 := (by refine Acc.call ?_ hb; (repeat' (first | (with_reducible first | assumption | exact Acc.refl _ | refine Acc.drew ?_ | refine Acc.drewN ?_ _ | refine Acc.alloc ?_ _ | refine Acc.setCell ?_ ?_ _) | (refine leB ?_; omega)))); clear hb)
        | (go_at_call 112; refine (D.out _ _ (by repeat' (first | (with_reducible first | assumption | refine Blk.drew ?_ | refine Blk.drewN ?_ _ | apply Blk.set | (refine Blk.new ?_; focus (first | rfl | (simp; done))) | refine Blk.alloc ?_ _ | refine Blk.other ?_ ?_ _) | exact eqL rfl | (refine neB ?_; omega)))).mono ?_; rintro e W9 ⟨⟨s, rfl⟩, hb⟩; (try (refine with_fact (A := Blk W9 (w.heap.size + 1 + 1 + 1) [.int .i64 0, .int .i64 0, .int .i64 0, .int .i64 0, .int .i64 0, .int .i64 0, .int .i64 0, .int .i64 0, .int .i64 0, .int .i64 0, .int .i64 0, .int .i64 0]) ?_ ?_; (focus (refine Blk.keep hb ?_; (repeat' (first | (with_reducible first | assumption | refine Blk.drew ?_ | refine Blk.drewN ?_ _ | apply Blk.set | (refine Blk.new ?_; focus (first | rfl | (simp; done))) | refine Blk.alloc ?_ _ | refine Blk.other ?_ ?_ _) | exact eqL rfl | (refine neB ?_; omega))); done)); intro Bz2; have cz2 := Bz2.cell; have fz2 := Bz2.free; have lz2 := Bz2.lt)); (try (refine with_fact (A := Blk W9 (W8.heap.size) [.int .i64 0, .int .i64 0, .int .i64 0, .int .i64 0, .int .i64 0, .int .i64 0, .int .i64 0, .int .i64 0, .int .i64 0, .int .i64 0, .int .i64 0, .int .i64 0]) ?_ ?_; (focus (refine Blk.keep hb ?_; (repeat' (first | (with_reducible first | assumption | refine Blk.drew ?_ | refine Blk.drewN ?_ _ | apply Blk.set | (refine Blk.new ?_; focus (first | rfl | (simp; done))) | refine Blk.alloc ?_ _ | refine Blk.other ?_ ?_ _) | exact eqL rfl | (refine neB ?_; omega))); done)); intro Bz3; have cz3 := Bz3.cell; have fz3 := Bz3.free; have lz3 := Bz3.lt)); have Bs : Blk W9 (w.heap.size) [.int .i64 n1, .int .i64 n2, .int .i64 n3, .int .i64 (t : Int)] := Blk.keep hb (by repeat' (first | (with_reducible first | assumption | refine Blk.drew ?_ | refine Blk.drewN ?_ _ | apply Blk.set | (refine Blk.new ?_; focus (first | rfl | (simp; done))) | refine Blk.alloc ?_ _ | refine Blk.other ?_ ?_ _) | exact eqL rfl | (refine neB ?_; omega))); have Bo : Blk W9 (w.heap.size + 1) [.int .i64 a1, .int .i64 a2, .int .i64 a3, .int .i64 a4, .int .i64 a5, .int .i64 a6, .int .i64 a7, .int .i64 a8, .int .i64 a9, .int .i64 a10, .int .i64 a11, .int .i64 a12] := Blk.keep hb (by repeat' (first | (with_reducible first | assumption | refine Blk.drew ?_ | refine Blk.drewN ?_ _ | apply Blk.set | (refine Blk.new ?_; focus (first | rfl | (simp; done))) | refine Blk.alloc ?_ _ | refine Blk.other ?_ ?_ _) | exact eqL rfl | (refine neB ?_; omega))); have Br : Blk W9 (w.heap.size + 1 + 1) [.int .i64 0, .int .i64 0, .int .i64 0, .int .i64 0, .int .i64 0, .int .i64 0, .int .i64 0, .int .i64 0, .int .i64 0, .int .i64 0, .int .i64 0, .int .i64 0] := Blk.keep hb (by repeat' (first | (with_reducible first | assumption | refine Blk.drew ?_ | refine Blk.drewN ?_ _ | apply Blk.set | (refine Blk.new ?_; focus (first | rfl | (simp; done))) | refine Blk.alloc ?_ _ | refine Blk.other ?_ ?_ _) | exact eqL rfl | (refine neB ?_; omega))); have cs := Bs.cell; have fs := Bs.free; have ls_W9 := Bs.lt; have co := Bo.cell; have fo := Bo.free; have lo_W9 := Bo.lt; have cr := Br.cell; have fr := Br.free; have lr_W9 := Br.lt; have kaW9 : Acc w W9 := (by refine Acc.call ?_ hb; (repeat' (first | (with_reducible first | assumption | exact Acc.refl _ | refine Acc.drew ?_ | refine Acc.drewN ?_ _ | refine Acc.alloc ?_ _ | refine Acc.setCell ?_ ?_ _) | (refine leB ?_; omega)))); clear hb))
    all_goals
      go_wp2_with fail
      refine bodyPost_ret (v := .tuple #[.agg #[.int .i64 0, .int .i64 0, .int .i64 0, .int .i64 0, .int .i64 0, .int .i64 0, .int .i64 0, .int .i64 0, .int .i64 0, .int .i64 0, .int .i64 0, .int .i64 0], .iface 142 (.agg #[.string s])]) (by simp [results, Tryz.results73, go_sem, *]) rfl ⟨fun _ _ _ _ _ _ _ _ _ _ _ _ h => (by cases h), fun _ => ⟨_, rfl⟩, ?_⟩
      show Acc w _
      (repeat' (first | (with_reducible first | assumption | exact Acc.refl _ | refine Acc.drew ?_ | refine Acc.drewN ?_ _ | refine Acc.alloc ?_ _ | refine Acc.setCell ?_ ?_ _) | (refine leB ?_; omega)))
  | some v =>
    obtain ⟨⟨p1, p2, p3⟩, ⟨p4, p5, p6⟩, ⟨p7, p8, p9⟩, p10, p11, p12⟩ := v
    have D := Lib.hid fun kb W B => (T.out kb W B).mono fun e w' h => And.intro (h.1 _ _ _ _ _ _ _ _ _ _ _ _ hp) h.2.2
    have HP := Lib.hid hp
    clear hp T
    have HF : RowKit.Hid (pwM ((p1, p2, p3), (p4, p5, p6), (p7, p8, p9), (p10, p11, p12)) t ((a1, a2, a3), (a4, a5, a6), (a7, a8, a9), (a10, a11, a12)) = o) := Lib.hid (HE.out.symm.trans (by unfold secM; rw [HP.out]; rfl)).symm
    have OP := Lib.hid (pla_some HP.out).2.2
    clear HE HP
    go_enter Tryz.func73, Tryz.ntmps73
    go_upto_region 1 with fail
    go_cut [6, 7] (fun s6 s7 wx => ∃ pm1x : Nat, s6 = .pointer (some ⟨pm1x, 0, none⟩) ∧ s7 = .nilIface ∧ Blk wx (pm1x) [.int .i64 p1, .int .i64 p2, .int .i64 p3, .int .i64 p4, .int .i64 p5, .int .i64 p6, .int .i64 p7, .int .i64 p8, .int .i64 p9, .int .i64 p10, .int .i64 p11, .int .i64 p12] ∧ Blk wx (w.heap.size) [.int .i64 n1, .int .i64 n2, .int .i64 n3, .int .i64 (t : Int)] ∧ Blk wx (w.heap.size + 1) [.int .i64 a1, .int .i64 a2, .int .i64 a3, .int .i64 a4, .int .i64 a5, .int .i64 a6, .int .i64 a7, .int .i64 a8, .int .i64 a9, .int .i64 a10, .int .i64 a11, .int .i64 a12] ∧ Blk wx (w.heap.size + 1 + 1) [.int .i64 0, .int .i64 0, .int .i64 0, .int .i64 0, .int .i64 0, .int .i64 0, .int .i64 0, .int .i64 0, .int .i64 0, .int .i64 0, .int .i64 0, .int .i64 0] ∧ w.heap.size < pm1x ∧ w.heap.size + 1 < pm1x ∧ w.heap.size + 1 + 1 < pm1x ∧ Acc w wx)
    case first =>
      go_region_held3 (fun w' => (∀ k, w'.cell? ⟨w.heap.size, k, none⟩ = [.int .i64 n1, .int .i64 n2, .int .i64 n3, .int .i64 (t : Int)][k]?))
        (((try dsimp only); (refine Blk.cell ?_ <;> (repeat' (first | (with_reducible first | assumption | refine Blk.drew ?_ | refine Blk.drewN ?_ _ | apply Blk.set | (refine Blk.new ?_; focus (first | rfl | (simp; done))) | refine Blk.alloc ?_ _ | refine Blk.other ?_ ?_ _) | exact eqL rfl | (refine neB ?_; omega))))))
        (first
          | (go_at_call 111; refine (plateE_any n3 _).mono ?_; rintro e W8 ⟨kb, hkb, rfl, Bk, hb⟩; (try (refine with_fact (A := Blk W8 (w.heap.size + 1 + 1 + 1) [.int .i64 0, .int .i64 0, .int .i64 0, .int .i64 0, .int .i64 0, .int .i64 0, .int .i64 0, .int .i64 0, .int .i64 0, .int .i64 0, .int .i64 0, .int .i64 0]) ?_ ?_; (focus (refine Blk.keep hb ?_; (repeat' (first | (with_reducible first | assumption | refine Blk.drew ?_ | refine Blk.drewN ?_ _ | apply Blk.set | (refine Blk.new ?_; focus (first | rfl | (simp; done))) | refine Blk.alloc ?_ _ | refine Blk.other ?_ ?_ _) | exact eqL rfl | (refine neB ?_; omega))); done)); intro Bz1; have cz1 := Bz1.cell; have fz1 := Bz1.free; have lz1 := Bz1.lt)); have Bs : Blk W8 (w.heap.size) [.int .i64 n1, .int .i64 n2, .int .i64 n3, .int .i64 (t : Int)] := Blk.keep hb (by repeat' (first | (with_reducible first | assumption | refine Blk.drew ?_ | refine Blk.drewN ?_ _ | apply Blk.set | (refine Blk.new ?_; focus (first | rfl | (simp; done))) | refine Blk.alloc ?_ _ | refine Blk.other ?_ ?_ _) | exact eqL rfl | (refine neB ?_; omega))); have Bo : Blk W8 (w.heap.size + 1) [.int .i64 a1, .int .i64 a2, .int .i64 a3, .int .i64 a4, .int .i64 a5, .int .i64 a6, .int .i64 a7, .int .i64 a8, .int .i64 a9, .int .i64 a10, .int .i64 a11, .int .i64 a12] := Blk.keep hb (by repeat' (first | (with_reducible first | assumption | refine Blk.drew ?_ | refine Blk.drewN ?_ _ | apply Blk.set | (refine Blk.new ?_; focus (first | rfl | (simp; done))) | refine Blk.alloc ?_ _ | refine Blk.other ?_ ?_ _) | exact eqL rfl | (refine neB ?_; omega))); have Br : Blk W8 (w.heap.size + 1 + 1) [.int .i64 0, .int .i64 0, .int .i64 0, .int .i64 0, .int .i64 0, .int .i64 0, .int .i64 0, .int .i64 0, .int .i64 0, .int .i64 0, .int .i64 0, .int .i64 0] := Blk.keep hb (by repeat' (first | (with_reducible first | assumption | refine Blk.drew ?_ | refine Blk.drewN ?_ _ | apply Blk.set | (refine Blk.new ?_; focus (first | rfl | (simp; done))) | refine Blk.alloc ?_ _ | refine Blk.other ?_ ?_ _) | exact eqL rfl | (refine neB ?_; omega))); have cs := Bs.cell; have fs := Bs.free; have ls_W8 := Bs.lt; have co := Bo.cell; have fo := Bo.free; have lo_W8 := Bo.lt; have cr := Br.cell; have fr := Br.free; have lr_W8 := Br.lt; have kaW8 : Acc w W8 := (by refine Acc.call ?_ hb; (repeat' (first | (with_reducible first | assumption | exact Acc.refl _ | refine Acc.drew ?_ | refine Acc.drewN ?_ _ | refine Acc.alloc ?_ _ | refine Acc.setCell ?_ ?_ _) | (refine leB ?_; omega)))); clear hb)
          | (go_at_call 112; refine (D.out _ _ (by repeat' (first | (with_reducible first | assumption | refine Blk.drew ?_ | refine Blk.drewN ?_ _ | apply Blk.set | (refine Blk.new ?_; focus (first | rfl | (simp; done))) | refine Blk.alloc ?_ _ | refine Blk.other ?_ ?_ _) | exact eqL rfl | (refine neB ?_; omega)))).mono ?_; rintro e W9 ⟨rfl, hb⟩; (try (refine with_fact (A := Blk W9 (w.heap.size + 1 + 1 + 1) [.int .i64 0, .int .i64 0, .int .i64 0, .int .i64 0, .int .i64 0, .int .i64 0, .int .i64 0, .int .i64 0, .int .i64 0, .int .i64 0, .int .i64 0, .int .i64 0]) ?_ ?_; (focus (refine Blk.keep hb ?_; (repeat' (first | (with_reducible first | assumption | refine Blk.drew ?_ | refine Blk.drewN ?_ _ | apply Blk.set | (refine Blk.new ?_; focus (first | rfl | (simp; done))) | refine Blk.alloc ?_ _ | refine Blk.other ?_ ?_ _) | exact eqL rfl | (refine neB ?_; omega))); done)); intro Bz2; have cz2 := Bz2.cell; have fz2 := Bz2.free; have lz2 := Bz2.lt)); (try (refine with_fact (A := Blk W9 (W8.heap.size) [.int .i64 0, .int .i64 0, .int .i64 0, .int .i64 0, .int .i64 0, .int .i64 0, .int .i64 0, .int .i64 0, .int .i64 0, .int .i64 0, .int .i64 0, .int .i64 0]) ?_ ?_; (focus (refine Blk.keep hb ?_; (repeat' (first | (with_reducible first | assumption | refine Blk.drew ?_ | refine Blk.drewN ?_ _ | apply Blk.set | (refine Blk.new ?_; focus (first | rfl | (simp; done))) | refine Blk.alloc ?_ _ | refine Blk.other ?_ ?_ _) | exact eqL rfl | (refine neB ?_; omega))); done)); intro Bz3; have cz3 := Bz3.cell; have fz3 := Bz3.free; have lz3 := Bz3.lt)); have Bs : Blk W9 (w.heap.size) [.int .i64 n1, .int .i64 n2, .int .i64 n3, .int .i64 (t : Int)] := Blk.keep hb (by repeat' (first | (with_reducible first | assumption | refine Blk.drew ?_ | refine Blk.drewN ?_ _ | apply Blk.set | (refine Blk.new ?_; focus (first | rfl | (simp; done))) | refine Blk.alloc ?_ _ | refine Blk.other ?_ ?_ _) | exact eqL rfl | (refine neB ?_; omega))); have Bo : Blk W9 (w.heap.size + 1) [.int .i64 a1, .int .i64 a2, .int .i64 a3, .int .i64 a4, .int .i64 a5, .int .i64 a6, .int .i64 a7, .int .i64 a8, .int .i64 a9, .int .i64 a10, .int .i64 a11, .int .i64 a12] := Blk.keep hb (by repeat' (first | (with_reducible first | assumption | refine Blk.drew ?_ | refine Blk.drewN ?_ _ | apply Blk.set | (refine Blk.new ?_; focus (first | rfl | (simp; done))) | refine Blk.alloc ?_ _ | refine Blk.other ?_ ?_ _) | exact eqL rfl | (refine neB ?_; omega))); have Br : Blk W9 (w.heap.size + 1 + 1) [.int .i64 0, .int .i64 0, .int .i64 0, .int .i64 0, .int .i64 0, .int .i64 0, .int .i64 0, .int .i64 0, .int .i64 0, .int .i64 0, .int .i64 0, .int .i64 0] := Blk.keep hb (by repeat' (first | (with_reducible first | assumption | refine Blk.drew ?_ | refine Blk.drewN ?_ _ | apply Blk.set | (refine Blk.new ?_; focus (first | rfl | (simp; done))) | refine Blk.alloc ?_ _ | refine Blk.other ?_ ?_ _) | exact eqL rfl | (refine neB ?_; omega))); have cs := Bs.cell; have fs := Bs.free; have ls_W9 := Bs.lt; have co := Bo.cell; have fo := Bo.free; have lo_W9 := Bo.lt; have cr := Br.cell; have fr := Br.free; have lr_W9 := Br.lt; have kaW9 : Acc w W9 := (by refine Acc.call ?_ hb; (repeat' (first | (with_reducible first | assumption | exact Acc.refl _ | refine Acc.drew ?_ | refine Acc.drewN ?_ _ | refine Acc.alloc ?_ _ | refine Acc.setCell ?_ ?_ _) | (refine leB ?_; omega)))); clear hb))
      all_goals
        go_wp2_with fail
      all_goals
        go_meet
        refine ⟨_, rfl, rfl, ?_⟩
        and_intros
        all_goals
          first
            | ((repeat' (first | (with_reducible first | assumption | refine Blk.drew ?_ | refine Blk.drewN ?_ _ | apply Blk.set | (refine Blk.new ?_; focus (first | rfl | (simp; done))) | refine Blk.alloc ?_ _ | refine Blk.other ?_ ?_ _) | exact eqL rfl | (refine neB ?_; omega))); done)
            | ((show Acc w _); (repeat' (first | (with_reducible first | assumption | exact Acc.refl _ | refine Acc.drew ?_ | refine Acc.drewN ?_ _ | refine Acc.alloc ?_ _ | refine Acc.setCell ?_ ?_ _) | (refine leB ?_; omega))); done)
            | (refine leB ?_; omega)
    case rest =>
      obtain ⟨pm1x, rfl, rfl, Bm, Bs, Bo, Br, low3_0, low3_1, low3_2, kawc⟩ := hcut
      have cm := Bm.cell
      have fm := Bm.free
      have lm_wc := Bm.lt
      have cs := Bs.cell
      have fs := Bs.free
      have ls_wc := Bs.lt
      have co := Bo.cell
      have fo := Bo.free
      have lo_wc := Bo.lt
      have cr := Br.cell
      have fr := Br.free
      have lr_wc := Br.lt
      go_wp2_with fail
      go_loopw [25] (fun i wr => ∃ (j : Nat) (B : F4), i = .int .i64 j ∧ j ≤ t ∧ Acc w wr ∧ Blk wr (w.heap.size) [.int .i64 n1, .int .i64 n2, .int .i64 n3, .int .i64 (t : Int)] ∧ Blk wr (w.heap.size + 1) [.int .i64 B.1.1, .int .i64 B.1.2.1, .int .i64 B.1.2.2, .int .i64 B.2.1.1, .int .i64 B.2.1.2.1, .int .i64 B.2.1.2.2, .int .i64 B.2.2.1.1, .int .i64 B.2.2.1.2.1, .int .i64 B.2.2.1.2.2, .int .i64 B.2.2.2.1, .int .i64 B.2.2.2.2.1, .int .i64 B.2.2.2.2.2] ∧ Blk wr (w.heap.size + 1 + 1) [.int .i64 0, .int .i64 0, .int .i64 0, .int .i64 0, .int .i64 0, .int .i64 0, .int .i64 0, .int .i64 0, .int .i64 0, .int .i64 0, .int .i64 0, .int .i64 0] ∧ Blk wr pm1x [.int .i64 p1, .int .i64 p2, .int .i64 p3, .int .i64 p4, .int .i64 p5, .int .i64 p6, .int .i64 p7, .int .i64 p8, .int .i64 p9, .int .i64 p10, .int .i64 p11, .int .i64 p12] ∧ okM B = true ∧ pwM ((p1, p2, p3), (p4, p5, p6), (p7, p8, p9), (p10, p11, p12)) j ((a1, a2, a3), (a4, a5, a6), (a7, a8, a9), (a10, a11, a12)) = some B) (fun i _ => t - (intOf i).toNat)
      case atStart => exact ⟨0, ((a1, a2, a3), (a4, a5, a6), (a7, a8, a9), (a10, a11, a12)), rfl, Nat.zero_le _, ‹Acc w _›, ‹Blk _ (w.heap.size) _›, ‹Blk _ (w.heap.size + 1) _›, ‹Blk _ (w.heap.size + 1 + 1) _›, ‹Blk _ pm1x _›, HA.out, rfl⟩
      case round =>
        clear Bs cs fs Bo co fo Br cr fr Bm cm fm
        obtain ⟨j, B, rfl, hj, ka, Bs, Bo, Br, Bm, hB, hm⟩ := hrel
        obtain ⟨⟨b1, b2, b3⟩, ⟨b4, b5, b6⟩, ⟨b7, b8, b9⟩, b10, b11, b12⟩ := B
        dsimp only at Bo
        have HB := Lib.hid hB
        have HX := Lib.hid hm
        clear hm hB
        have cs := Bs.cell
        have fs := Bs.free
        have ls_wr := Bs.lt
        have co := Bo.cell
        have fo := Bo.free
        have lo_wr := Bo.lt
        have cr := Br.cell
        have fr := Br.free
        have lr_wr := Br.lt
        have cm := Bm.cell
        have fm := Bm.free
        have lm_wr := Bm.lt
        have T := Lib.hid fun w => mxT_any p1 p2 p3 p4 p5 p6 p7 p8 p9 p10 p11 p12 b1 b2 b3 b4 b5 b6 b7 b8 b9 b10 b11 b12 OP.out HB.out w
        have HY : RowKit.Hid (pwM ((p1, p2, p3), (p4, p5, p6), (p7, p8, p9), (p10, p11, p12)) (j + 1) ((a1, a2, a3), (a4, a5, a6), (a7, a8, a9), (a10, a11, a12)) = mulM ((p1, p2, p3), (p4, p5, p6), (p7, p8, p9), (p10, p11, p12)) ((b1, b2, b3), (b4, b5, b6), (b7, b8, b9), (b10, b11, b12))) := Lib.hid (pwM_succ HX.out)
        have hj0 : (0 : Int) ≤ (j : Int) := by omega
        by_cases hlt : j < t
        ·
          have hj1 : j + 1 ≤ t := hlt
          have hj2 : (j : Int) < (t : Int) := by omega
          go_wp2_with fail
          refine (T.out _).mono ?_
          rintro e W1 ⟨h1, h2, hb⟩
          have Bs : Blk W1 (w.heap.size) [.int .i64 n1, .int .i64 n2, .int .i64 n3, .int .i64 (t : Int)] := Blk.keep hb (by repeat' (first | (with_reducible first | assumption | refine Blk.drew ?_ | refine Blk.drewN ?_ _ | apply Blk.set | (refine Blk.new ?_; focus (first | rfl | (simp; done))) | refine Blk.alloc ?_ _ | refine Blk.other ?_ ?_ _) | exact eqL rfl | (refine neB ?_; omega)))
          have Bo : Blk W1 (w.heap.size + 1) [.int .i64 b1, .int .i64 b2, .int .i64 b3, .int .i64 b4, .int .i64 b5, .int .i64 b6, .int .i64 b7, .int .i64 b8, .int .i64 b9, .int .i64 b10, .int .i64 b11, .int .i64 b12] := Blk.keep hb (by repeat' (first | (with_reducible first | assumption | refine Blk.drew ?_ | refine Blk.drewN ?_ _ | apply Blk.set | (refine Blk.new ?_; focus (first | rfl | (simp; done))) | refine Blk.alloc ?_ _ | refine Blk.other ?_ ?_ _) | exact eqL rfl | (refine neB ?_; omega)))
          have Br : Blk W1 (w.heap.size + 1 + 1) [.int .i64 0, .int .i64 0, .int .i64 0, .int .i64 0, .int .i64 0, .int .i64 0, .int .i64 0, .int .i64 0, .int .i64 0, .int .i64 0, .int .i64 0, .int .i64 0] := Blk.keep hb (by repeat' (first | (with_reducible first | assumption | refine Blk.drew ?_ | refine Blk.drewN ?_ _ | apply Blk.set | (refine Blk.new ?_; focus (first | rfl | (simp; done))) | refine Blk.alloc ?_ _ | refine Blk.other ?_ ?_ _) | exact eqL rfl | (refine neB ?_; omega)))
          have Bm : Blk W1 (pm1x) [.int .i64 p1, .int .i64 p2, .int .i64 p3, .int .i64 p4, .int .i64 p5, .int .i64 p6, .int .i64 p7, .int .i64 p8, .int .i64 p9, .int .i64 p10, .int .i64 p11, .int .i64 p12] := Blk.keep hb (by repeat' (first | (with_reducible first | assumption | refine Blk.drew ?_ | refine Blk.drewN ?_ _ | apply Blk.set | (refine Blk.new ?_; focus (first | rfl | (simp; done))) | refine Blk.alloc ?_ _ | refine Blk.other ?_ ?_ _) | exact eqL rfl | (refine neB ?_; omega)))
          have cs := Bs.cell
          have fs := Bs.free
          have ls_W1 := Bs.lt
          have co := Bo.cell
          have fo := Bo.free
          have lo_W1 := Bo.lt
          have cr := Br.cell
          have fr := Br.free
          have lr_W1 := Br.lt
          have cm := Bm.cell
          have fm := Bm.free
          have lm_W1 := Bm.lt
          have kaW1 : Acc w W1 := by
            refine Acc.call ?_ hb
            (repeat' (first | (with_reducible first | assumption | exact Acc.refl _ | refine Acc.drew ?_ | refine Acc.drewN ?_ _ | refine Acc.alloc ?_ _ | refine Acc.setCell ?_ ?_ _) | (refine leB ?_; omega)))
          clear hb
          cases ho : mulM ((p1, p2, p3), (p4, p5, p6), (p7, p8, p9), (p10, p11, p12)) ((b1, b2, b3), (b4, b5, b6), (b7, b8, b9), (b10, b11, b12)) with
          | none =>
            obtain ⟨s, rfl⟩ := h2 ho
            have HO := Lib.hid ho
            clear h1 h2 ho
            obtain rfl : o = none := HF.out.symm.trans (pwM_none' (HY.out.trans HO.out) hj1)
            go_wp2_with fail
            refine bodyPost_ret (v := .tuple #[.agg #[.int .i64 0, .int .i64 0, .int .i64 0, .int .i64 0, .int .i64 0, .int .i64 0, .int .i64 0, .int .i64 0, .int .i64 0, .int .i64 0, .int .i64 0, .int .i64 0], .iface 142 (.agg #[.string s])]) (by simp [results, Tryz.results73, go_sem, *]) rfl ⟨fun _ _ _ _ _ _ _ _ _ _ _ _ h => (by cases h), fun _ => ⟨_, rfl⟩, ?_⟩
            show Acc w _
            (repeat' (first | (with_reducible first | assumption | exact Acc.refl _ | refine Acc.drew ?_ | refine Acc.drewN ?_ _ | refine Acc.alloc ?_ _ | refine Acc.setCell ?_ ?_ _) | (refine leB ?_; omega)))
          | some v =>
            obtain ⟨⟨r1, r2, r3⟩, ⟨r4, r5, r6⟩, ⟨r7, r8, r9⟩, r10, r11, r12⟩ := v
            obtain rfl := h1 _ _ _ _ _ _ _ _ _ _ _ _ ho
            have HO := Lib.hid ho
            clear h1 h2 ho
            go_wp2_with fail
            go_roundw
            case rel => exact ⟨j + 1, ((r1, r2, r3), (r4, r5, r6), (r7, r8, r9), (r10, r11, r12)), by go_num, hj1, (by show Acc w _; repeat' (first | (with_reducible first | assumption | exact Acc.refl _ | refine Acc.drew ?_ | refine Acc.drewN ?_ _ | refine Acc.alloc ?_ _ | refine Acc.setCell ?_ ?_ _) | (refine leB ?_; omega))), (by repeat' (first | (with_reducible first | assumption | refine Blk.drew ?_ | refine Blk.drewN ?_ _ | apply Blk.set | (refine Blk.new ?_; focus (first | rfl | (simp; done))) | refine Blk.alloc ?_ _ | refine Blk.other ?_ ?_ _) | exact eqL rfl | (refine neB ?_; omega))), (by repeat' (first | (with_reducible first | assumption | refine Blk.drew ?_ | refine Blk.drewN ?_ _ | apply Blk.set | (refine Blk.new ?_; focus (first | rfl | (simp; done))) | refine Blk.alloc ?_ _ | refine Blk.other ?_ ?_ _) | exact eqL rfl | (refine neB ?_; omega))), (by repeat' (first | (with_reducible first | assumption | refine Blk.drew ?_ | refine Blk.drewN ?_ _ | apply Blk.set | (refine Blk.new ?_; focus (first | rfl | (simp; done))) | refine Blk.alloc ?_ _ | refine Blk.other ?_ ?_ _) | exact eqL rfl | (refine neB ?_; omega))), (by repeat' (first | (with_reducible first | assumption | refine Blk.drew ?_ | refine Blk.drewN ?_ _ | apply Blk.set | (refine Blk.new ?_; focus (first | rfl | (simp; done))) | refine Blk.alloc ?_ _ | refine Blk.other ?_ ?_ _) | exact eqL rfl | (refine neB ?_; omega))), (mulM_ok HO.out).2.2, HY.out.trans HO.out⟩
            case measure => simp [intOf]; omega
        · obtain rfl : j = t := by omega
          obtain rfl : o = some ((b1, b2, b3), (b4, b5, b6), (b7, b8, b9), (b10, b11, b12)) := HF.out.symm.trans HX.out
          have hj2 : ¬ (j : Int) < (j : Int) := by omega
          go_wp2_with fail
          refine bodyPost_ret (v := .tuple #[.agg #[.int .i64 b1, .int .i64 b2, .int .i64 b3, .int .i64 b4, .int .i64 b5, .int .i64 b6, .int .i64 b7, .int .i64 b8, .int .i64 b9, .int .i64 b10, .int .i64 b11, .int .i64 b12], .nilIface]) (by simp [results, Tryz.results73, go_sem, *]) rfl ⟨fun _ _ _ _ _ _ _ _ _ _ _ _ h => (by cases h; rfl), fun h => (by cases h), ?_⟩
          show Acc w _
          (repeat' (first | (with_reducible first | assumption | exact Acc.refl _ | refine Acc.drew ?_ | refine Acc.drewN ?_ _ | refine Acc.alloc ?_ _ | refine Acc.setCell ?_ ?_ _) | (refine leB ?_; omega)))

set_option linter.unusedSimpArgs false
set_option maxHeartbeats 2000000 in
theorem unitMx_any (w : World) : Calls Tryz.prog 63 #[] w fun e w' => e = .returned (.agg #[.int .i64 1, .int .i64 0, .int .i64 1, .int .i64 0, .int .i64 0, .int .i64 1, .int .i64 0, .int .i64 0, .int .i64 1, .int .i64 1, .int .i64 0, .int .i64 1]) ∧ Below w.heap.size w w' := by
  go_enter Tryz.func63, Tryz.ntmps63
  go_wp2_with fail
  refine (diagonal_any 1 0 1 1 0 1 _).mono ?_
  rintro e W1 ⟨rfl, hb⟩
  have Bz : Blk W1 (w.heap.size) [.int .i64 0, .int .i64 0, .int .i64 0, .int .i64 0, .int .i64 0, .int .i64 0, .int .i64 0, .int .i64 0, .int .i64 0, .int .i64 0, .int .i64 0, .int .i64 0] := Blk.keep hb (by repeat' (first | (with_reducible first | assumption | refine Blk.drew ?_ | refine Blk.drewN ?_ _ | apply Blk.set | (refine Blk.new ?_; focus (first | rfl | (simp; done))) | refine Blk.alloc ?_ _ | refine Blk.other ?_ ?_ _) | exact eqL rfl | (refine neB ?_; omega)))
  have cz := Bz.cell
  have fz := Bz.free
  have lz_W1 := Bz.lt
  have kaW1 : Acc w W1 := by
    refine Acc.call ?_ hb
    (repeat' (first | (with_reducible first | assumption | exact Acc.refl _ | refine Acc.drew ?_ | refine Acc.drewN ?_ _ | refine Acc.alloc ?_ _ | refine Acc.setCell ?_ ?_ _) | (refine leB ?_; omega)))
  clear hb
  go_wp2_with fail
  refine bodyPost_ret (v := .agg #[.int .i64 1, .int .i64 0, .int .i64 1, .int .i64 0, .int .i64 0, .int .i64 1, .int .i64 0, .int .i64 0, .int .i64 1, .int .i64 1, .int .i64 0, .int .i64 1]) (by simp [results, Tryz.results63, go_sem, *]) rfl ⟨rfl, ?_⟩
  show Acc w _
  (repeat' (first | (with_reducible first | assumption | exact Acc.refl _ | refine Acc.drew ?_ | refine Acc.drewN ?_ _ | refine Acc.alloc ?_ _ | refine Acc.setCell ?_ ?_ _) | (refine leB ?_; omega)))
theorem fbF_ok {ls : List L4} {A : F4} (h : fbF ls (some oneM) = some A) : okM A = true := by
  have key : ∀ (m : F4) (n : Nat) {B C : F4}, okM B = true → pwM m n B = some C → okM C = true := by
    intro m n
    induction n with
    | zero => intro B C hB h; injection h with h; rw [← h]; exact hB
    | succ n ih =>
      intro B C hB h
      unfold pwM at h
      cases e : pwM m n B with
      | none => rw [e] at h; cases h
      | some D => rw [e] at h; exact (mulM_ok h).2.2
  have key2 : ∀ (s : L4) {B C : F4}, okM B = true → secM s B = some C → okM C = true := by
    intro s B C hB h
    unfold secM at h
    cases e : plaM s.1.1 s.1.2.1 s.1.2.2 with
    | none => rw [e] at h; cases h
    | some m => rw [e] at h; exact key m _ hB h
  have key3 : ∀ (ls : List L4) (o : Option F4), (∀ A, o = some A → okM A = true) → ∀ A, fbF ls o = some A → okM A = true := by
    intro ls
    induction ls with
    | nil => intro o ho A h; exact ho A h
    | cons s r ih =>
      intro o ho A h
      refine ih _ ?_ A h
      intro B hB
      cases o with
      | none => cases hB
      | some D => exact key2 s (ho D rfl) hB
  exact key3 ls _ (fun A h => by cases h; decide) A h
set_option maxRecDepth 100000 in
set_option maxHeartbeats 8000000 in
theorem fbMatrix_any (n₀ : Nat) : ∀ (rs : List L4) (p : Option Addr) (w : World), Fib n₀ w.heap.size w p rs → (∀ s ∈ rs, okS s = true) → Calls Tryz.prog 34 #[.pointer p] w (Erred12 (fbF rs.reverse (some oneM)) w)
  | [], p, w, h, _ => by
    obtain rfl : p = none := h
    show Calls _ _ _ _ (Erred12 (some oneM) w)
    go_enter Tryz.func34, Tryz.ntmps34
    go_wp2_with fail
    refine (unitMx_any _).mono ?_
    rintro e W1 ⟨rfl, hb⟩
    have Br : Blk W1 (w.heap.size) [.int .i64 0, .int .i64 0, .int .i64 0, .int .i64 0, .int .i64 0, .int .i64 0, .int .i64 0, .int .i64 0, .int .i64 0, .int .i64 0, .int .i64 0, .int .i64 0] := Blk.keep hb (by repeat' (first | (with_reducible first | assumption | refine Blk.drew ?_ | refine Blk.drewN ?_ _ | apply Blk.set | (refine Blk.new ?_; focus (first | rfl | (simp; done))) | refine Blk.alloc ?_ _ | refine Blk.other ?_ ?_ _) | exact eqL rfl | (refine neB ?_; omega)))
    have cr := Br.cell
    have fr := Br.free
    have lr_W1 := Br.lt
    have kaW1 : Acc w W1 := by
      refine Acc.call ?_ hb
      (repeat' (first | (with_reducible first | assumption | exact Acc.refl _ | refine Acc.drew ?_ | refine Acc.drewN ?_ _ | refine Acc.alloc ?_ _ | refine Acc.setCell ?_ ?_ _) | (refine leB ?_; omega)))
    clear hb
    go_wp2_with fail
    refine bodyPost_ret (v := .tuple #[.agg #[.int .i64 1, .int .i64 0, .int .i64 1, .int .i64 0, .int .i64 0, .int .i64 1, .int .i64 0, .int .i64 0, .int .i64 1, .int .i64 1, .int .i64 0, .int .i64 1], .nilIface]) (by simp [results, Tryz.results34, go_sem, *]) rfl ⟨fun _ _ _ _ _ _ _ _ _ _ _ _ h => (by cases h; rfl), fun h => (by cases h), ?_⟩
    show Acc w _
    (repeat' (first | (with_reducible first | assumption | exact Acc.refl _ | refine Acc.drew ?_ | refine Acc.drewN ?_ _ | refine Acc.alloc ?_ _ | refine Acc.setCell ?_ ?_ _) | (refine leB ?_; omega)))
  | ((n1, n2, n3), t') :: rs, p, w, h, hok => by
    obtain ⟨b, f, rfl, hb0, hb1, Bb, hf⟩ := h
    obtain ⟨hd, hph, ht0, ht1⟩ := okS_out (hok _ (List.mem_cons_self ..))
    obtain ⟨t, rfl⟩ := Int.eq_ofNat_of_zero_le ht0
    clear ht0 hph
    have HI := Lib.hid fun (W : World) (k : Acc w W) => fbMatrix_any n₀ rs f W ((hf.mono (Nat.le_of_lt hb1)).keep k) (fun s hs => hok s (List.mem_cons_of_mem _ hs))
    have HF : RowKit.Hid (fbF (((n1, n2, n3), (t : Int)) :: rs).reverse (some oneM) = (fbF rs.reverse (some oneM)).bind (secM ((n1, n2, n3), (t : Int)))) := Lib.hid (by rw [List.reverse_cons, fbF_snoc])
    rw [HF.out]
    clear HF hok hf hb0 hb1
    have Bb : Blk w b [.int .i64 n1, .int .i64 n2, .int .i64 n3, .int .i64 (t : Int), .pointer f] := Bb
    have cb := Bb.cell
    have fb := Bb.free
    have lb_w := Bb.lt
    cases ho : fbF rs.reverse (some oneM) with
    | none =>
      have D := Lib.hid fun W k => (HI.out W k).mono fun e w' h => And.intro (h.2.1 ho) h.2.2
      clear ho HI
      show Calls _ _ _ _ (Erred12 none w)
      go_enter Tryz.func34, Tryz.ntmps34
      go_wp2_with fail
      refine (D.out _ (by repeat' (first | (with_reducible first | assumption | exact Acc.refl _ | refine Acc.drew ?_ | refine Acc.drewN ?_ _ | refine Acc.alloc ?_ _ | refine Acc.setCell ?_ ?_ _) | (refine leB ?_; omega)))).mono ?_
      rintro e W1 ⟨⟨s, rfl⟩, hb⟩
      have Bb : Blk W1 (b) [.int .i64 n1, .int .i64 n2, .int .i64 n3, .int .i64 (t : Int), .pointer f] := Blk.keep hb (by repeat' (first | (with_reducible first | assumption | refine Blk.drew ?_ | refine Blk.drewN ?_ _ | apply Blk.set | (refine Blk.new ?_; focus (first | rfl | (simp; done))) | refine Blk.alloc ?_ _ | refine Blk.other ?_ ?_ _) | exact eqL rfl | (refine neB ?_; omega)))
      have Br : Blk W1 (w.heap.size) [.int .i64 0, .int .i64 0, .int .i64 0, .int .i64 0, .int .i64 0, .int .i64 0, .int .i64 0, .int .i64 0, .int .i64 0, .int .i64 0, .int .i64 0, .int .i64 0] := Blk.keep hb (by repeat' (first | (with_reducible first | assumption | refine Blk.drew ?_ | refine Blk.drewN ?_ _ | apply Blk.set | (refine Blk.new ?_; focus (first | rfl | (simp; done))) | refine Blk.alloc ?_ _ | refine Blk.other ?_ ?_ _) | exact eqL rfl | (refine neB ?_; omega)))
      have cb := Bb.cell
      have fb := Bb.free
      have lb_W1 := Bb.lt
      have cr := Br.cell
      have fr := Br.free
      have lr_W1 := Br.lt
      have kaW1 : Acc w W1 := by
        refine Acc.call ?_ hb
        (repeat' (first | (with_reducible first | assumption | exact Acc.refl _ | refine Acc.drew ?_ | refine Acc.drewN ?_ _ | refine Acc.alloc ?_ _ | refine Acc.setCell ?_ ?_ _) | (refine leB ?_; omega)))
      clear hb
      go_wp2_with fail
      refine bodyPost_ret (v := .tuple #[.agg #[.int .i64 0, .int .i64 0, .int .i64 0, .int .i64 0, .int .i64 0, .int .i64 0, .int .i64 0, .int .i64 0, .int .i64 0, .int .i64 0, .int .i64 0, .int .i64 0], .iface 142 (.agg #[.string s])]) (by simp [results, Tryz.results34, go_sem, *]) rfl ⟨fun _ _ _ _ _ _ _ _ _ _ _ _ h => (by cases h), fun _ => ⟨_, rfl⟩, ?_⟩
      show Acc w _
      (repeat' (first | (with_reducible first | assumption | exact Acc.refl _ | refine Acc.drew ?_ | refine Acc.drewN ?_ _ | refine Acc.alloc ?_ _ | refine Acc.setCell ?_ ?_ _) | (refine leB ?_; omega)))
    | some v =>
      obtain ⟨⟨a1, a2, a3⟩, ⟨a4, a5, a6⟩, ⟨a7, a8, a9⟩, a10, a11, a12⟩ := v
      have D := Lib.hid fun W k => (HI.out W k).mono fun e w' h => And.intro (h.1 _ _ _ _ _ _ _ _ _ _ _ _ ho) h.2.2
      have T := Lib.hid fun w => behind_any n1 n2 n3 t a1 a2 a3 a4 a5 a6 a7 a8 a9 a10 a11 a12 hd ht1 (fbF_ok ho) w
      clear ho HI hd
      show Calls _ _ _ _ (Erred12 (secM ((n1, n2, n3), (t : Int)) ((a1, a2, a3), (a4, a5, a6), (a7, a8, a9), (a10, a11, a12))) w)
      obtain ⟨o, ho⟩ : ∃ o, secM ((n1, n2, n3), (t : Int)) ((a1, a2, a3), (a4, a5, a6), (a7, a8, a9), (a10, a11, a12)) = o := ⟨_, rfl⟩
      rw [ho] at T ⊢
      clear ho
      go_enter Tryz.func34, Tryz.ntmps34
      go_upto_region 6 with (go_at_call 34; refine (D.out _ (by repeat' (first | (with_reducible first | assumption | exact Acc.refl _ | refine Acc.drew ?_ | refine Acc.drewN ?_ _ | refine Acc.alloc ?_ _ | refine Acc.setCell ?_ ?_ _) | (refine leB ?_; omega)))).mono ?_; rintro e W1 ⟨rfl, hb⟩; have Bb : Blk W1 (b) [.int .i64 n1, .int .i64 n2, .int .i64 n3, .int .i64 (t : Int), .pointer f] := Blk.keep hb (by repeat' (first | (with_reducible first | assumption | refine Blk.drew ?_ | refine Blk.drewN ?_ _ | apply Blk.set | (refine Blk.new ?_; focus (first | rfl | (simp; done))) | refine Blk.alloc ?_ _ | refine Blk.other ?_ ?_ _) | exact eqL rfl | (refine neB ?_; omega))); have Br : Blk W1 (w.heap.size) [.int .i64 0, .int .i64 0, .int .i64 0, .int .i64 0, .int .i64 0, .int .i64 0, .int .i64 0, .int .i64 0, .int .i64 0, .int .i64 0, .int .i64 0, .int .i64 0] := Blk.keep hb (by repeat' (first | (with_reducible first | assumption | refine Blk.drew ?_ | refine Blk.drewN ?_ _ | apply Blk.set | (refine Blk.new ?_; focus (first | rfl | (simp; done))) | refine Blk.alloc ?_ _ | refine Blk.other ?_ ?_ _) | exact eqL rfl | (refine neB ?_; omega))); have cb := Bb.cell; have fb := Bb.free; have lb_W1 := Bb.lt; have cr := Br.cell; have fr := Br.free; have lr_W1 := Br.lt; have kaW1 : Acc w W1 := (by refine Acc.call ?_ hb; (repeat' (first | (with_reducible first | assumption | exact Acc.refl _ | refine Acc.drew ?_ | refine Acc.drewN ?_ _ | refine Acc.alloc ?_ _ | refine Acc.setCell ?_ ?_ _) | (refine leB ?_; omega)))); clear hb)
      cases o with
      | none =>
        have E := Lib.hid fun w => (T.out w).mono fun e w' h => And.intro (h.2.1 rfl) h.2.2
        clear T
        go_region_held3 (fun w' => (∀ k, w'.cell? ⟨b, k, none⟩ = [.int .i64 n1, .int .i64 n2, .int .i64 n3, .int .i64 (t : Int), .pointer f][k]?) ∧ (∀ k, w'.cell? ⟨W1.heap.size, k, none⟩ = [.int .i64 a1, .int .i64 a2, .int .i64 a3, .int .i64 a4, .int .i64 a5, .int .i64 a6, .int .i64 a7, .int .i64 a8, .int .i64 a9, .int .i64 a10, .int .i64 a11, .int .i64 a12][k]?))
          (((try dsimp only); (refine ⟨Blk.cell ?_, Blk.cell ?_⟩ <;> (repeat' (first | (with_reducible first | assumption | refine Blk.drew ?_ | refine Blk.drewN ?_ _ | apply Blk.set | (refine Blk.new ?_; focus (first | rfl | (simp; done))) | refine Blk.alloc ?_ _ | refine Blk.other ?_ ?_ _) | exact eqL rfl | (refine neB ?_; omega))))))
          (first
            | (go_at_call 73; refine (E.out _).mono ?_; rintro e W9 ⟨⟨s, rfl⟩, hb⟩; have Bb : Blk W9 (b) [.int .i64 n1, .int .i64 n2, .int .i64 n3, .int .i64 (t : Int), .pointer f] := Blk.keep hb (by repeat' (first | (with_reducible first | assumption | refine Blk.drew ?_ | refine Blk.drewN ?_ _ | apply Blk.set | (refine Blk.new ?_; focus (first | rfl | (simp; done))) | refine Blk.alloc ?_ _ | refine Blk.other ?_ ?_ _) | exact eqL rfl | (refine neB ?_; omega))); have Br : Blk W9 (w.heap.size) [.int .i64 0, .int .i64 0, .int .i64 0, .int .i64 0, .int .i64 0, .int .i64 0, .int .i64 0, .int .i64 0, .int .i64 0, .int .i64 0, .int .i64 0, .int .i64 0] := Blk.keep hb (by repeat' (first | (with_reducible first | assumption | refine Blk.drew ?_ | refine Blk.drewN ?_ _ | apply Blk.set | (refine Blk.new ?_; focus (first | rfl | (simp; done))) | refine Blk.alloc ?_ _ | refine Blk.other ?_ ?_ _) | exact eqL rfl | (refine neB ?_; omega))); have Ba : Blk W9 (W1.heap.size) [.int .i64 a1, .int .i64 a2, .int .i64 a3, .int .i64 a4, .int .i64 a5, .int .i64 a6, .int .i64 a7, .int .i64 a8, .int .i64 a9, .int .i64 a10, .int .i64 a11, .int .i64 a12] := Blk.keep hb (by repeat' (first | (with_reducible first | assumption | refine Blk.drew ?_ | refine Blk.drewN ?_ _ | apply Blk.set | (refine Blk.new ?_; focus (first | rfl | (simp; done))) | refine Blk.alloc ?_ _ | refine Blk.other ?_ ?_ _) | exact eqL rfl | (refine neB ?_; omega))); have cb := Bb.cell; have fb := Bb.free; have lb_W9 := Bb.lt; have cr := Br.cell; have fr := Br.free; have lr_W9 := Br.lt; have ca := Ba.cell; have fa := Ba.free; have la_W9 := Ba.lt; have kaW9 : Acc w W9 := (by refine Acc.call ?_ hb; (repeat' (first | (with_reducible first | assumption | exact Acc.refl _ | refine Acc.drew ?_ | refine Acc.drewN ?_ _ | refine Acc.alloc ?_ _ | refine Acc.setCell ?_ ?_ _) | (refine leB ?_; omega)))); clear hb))
        all_goals
          go_wp2_with fail
          refine bodyPost_ret (v := .tuple #[.agg #[.int .i64 0, .int .i64 0, .int .i64 0, .int .i64 0, .int .i64 0, .int .i64 0, .int .i64 0, .int .i64 0, .int .i64 0, .int .i64 0, .int .i64 0, .int .i64 0], .iface 142 (.agg #[.string s])]) (by simp [results, Tryz.results34, go_sem, *]) rfl ⟨fun _ _ _ _ _ _ _ _ _ _ _ _ h => (by cases h), fun _ => ⟨_, rfl⟩, ?_⟩
          show Acc w _
          (repeat' (first | (with_reducible first | assumption | exact Acc.refl _ | refine Acc.drew ?_ | refine Acc.drewN ?_ _ | refine Acc.alloc ?_ _ | refine Acc.setCell ?_ ?_ _) | (refine leB ?_; omega)))
      | some v =>
        obtain ⟨⟨b1, b2, b3⟩, ⟨b4, b5, b6⟩, ⟨b7, b8, b9⟩, b10, b11, b12⟩ := v
        have E := Lib.hid fun w => (T.out w).mono fun e w' h => And.intro (h.1 _ _ _ _ _ _ _ _ _ _ _ _ rfl) h.2.2
        clear T
        go_region_held3 (fun w' => (∀ k, w'.cell? ⟨b, k, none⟩ = [.int .i64 n1, .int .i64 n2, .int .i64 n3, .int .i64 (t : Int), .pointer f][k]?) ∧ (∀ k, w'.cell? ⟨W1.heap.size, k, none⟩ = [.int .i64 a1, .int .i64 a2, .int .i64 a3, .int .i64 a4, .int .i64 a5, .int .i64 a6, .int .i64 a7, .int .i64 a8, .int .i64 a9, .int .i64 a10, .int .i64 a11, .int .i64 a12][k]?))
          (((try dsimp only); (refine ⟨Blk.cell ?_, Blk.cell ?_⟩ <;> (repeat' (first | (with_reducible first | assumption | refine Blk.drew ?_ | refine Blk.drewN ?_ _ | apply Blk.set | (refine Blk.new ?_; focus (first | rfl | (simp; done))) | refine Blk.alloc ?_ _ | refine Blk.other ?_ ?_ _) | exact eqL rfl | (refine neB ?_; omega))))))
          (first
            | (go_at_call 73; refine (E.out _).mono ?_; rintro e W9 ⟨rfl, hb⟩; have Bb : Blk W9 (b) [.int .i64 n1, .int .i64 n2, .int .i64 n3, .int .i64 (t : Int), .pointer f] := Blk.keep hb (by repeat' (first | (with_reducible first | assumption | refine Blk.drew ?_ | refine Blk.drewN ?_ _ | apply Blk.set | (refine Blk.new ?_; focus (first | rfl | (simp; done))) | refine Blk.alloc ?_ _ | refine Blk.other ?_ ?_ _) | exact eqL rfl | (refine neB ?_; omega))); have Br : Blk W9 (w.heap.size) [.int .i64 0, .int .i64 0, .int .i64 0, .int .i64 0, .int .i64 0, .int .i64 0, .int .i64 0, .int .i64 0, .int .i64 0, .int .i64 0, .int .i64 0, .int .i64 0] := Blk.keep hb (by repeat' (first | (with_reducible first | assumption | refine Blk.drew ?_ | refine Blk.drewN ?_ _ | apply Blk.set | (refine Blk.new ?_; focus (first | rfl | (simp; done))) | refine Blk.alloc ?_ _ | refine Blk.other ?_ ?_ _) | exact eqL rfl | (refine neB ?_; omega))); have Ba : Blk W9 (W1.heap.size) [.int .i64 a1, .int .i64 a2, .int .i64 a3, .int .i64 a4, .int .i64 a5, .int .i64 a6, .int .i64 a7, .int .i64 a8, .int .i64 a9, .int .i64 a10, .int .i64 a11, .int .i64 a12] := Blk.keep hb (by repeat' (first | (with_reducible first | assumption | refine Blk.drew ?_ | refine Blk.drewN ?_ _ | apply Blk.set | (refine Blk.new ?_; focus (first | rfl | (simp; done))) | refine Blk.alloc ?_ _ | refine Blk.other ?_ ?_ _) | exact eqL rfl | (refine neB ?_; omega))); have cb := Bb.cell; have fb := Bb.free; have lb_W9 := Bb.lt; have cr := Br.cell; have fr := Br.free; have lr_W9 := Br.lt; have ca := Ba.cell; have fa := Ba.free; have la_W9 := Ba.lt; have kaW9 : Acc w W9 := (by refine Acc.call ?_ hb; (repeat' (first | (with_reducible first | assumption | exact Acc.refl _ | refine Acc.drew ?_ | refine Acc.drewN ?_ _ | refine Acc.alloc ?_ _ | refine Acc.setCell ?_ ?_ _) | (refine leB ?_; omega)))); clear hb))
        all_goals
          go_wp2_with fail
          refine bodyPost_ret (v := .tuple #[.agg #[.int .i64 b1, .int .i64 b2, .int .i64 b3, .int .i64 b4, .int .i64 b5, .int .i64 b6, .int .i64 b7, .int .i64 b8, .int .i64 b9, .int .i64 b10, .int .i64 b11, .int .i64 b12], .nilIface]) (by simp [results, Tryz.results34, go_sem, *]) rfl ⟨fun _ _ _ _ _ _ _ _ _ _ _ _ h => (by cases h; rfl), fun h => (by cases h), ?_⟩
          show Acc w _
          (repeat' (first | (with_reducible first | assumption | exact Acc.refl _ | refine Acc.drew ?_ | refine Acc.drewN ?_ _ | refine Acc.alloc ?_ _ | refine Acc.setCell ?_ ?_ _) | (refine leB ?_; omega)))

set_option linter.unusedSimpArgs false
end Go.Proofs.YtkdkeacfifjjoabGreatDoor
