/-
  The law of wide numbers of fractions: what it draws, and its walk, out of the contract of the program.
-/
import Derived.Test.YtmhoppjekiiheaaDoorDrawFrac
import Derived.Test.YtmhoppjekiiheaaDoorSpecWide
import Derived.Test.YtmhoppjekiiheaaDoorAlike
namespace Go.Proofs.YtmhoppjekiiheaaDoor
open Go.ChangeShapes Go.WideShapes Go.ChangeAt Go.RowKit
set_option linter.unusedVariables false

/-- The quotient times the bottom is near to the part; over 1 it is the part. -/
def goodB (n d : Int) : Bool :=
  match floatBits .quo .f64 (floatOfInt .f64 n) (floatOfInt .f64 d) with
  | none => false
  | some P => match floatBits .mul .f64 P (floatOfInt .f64 d) with
    | none => false
    | some M => match floatBits .sub .f64 M (floatOfInt .f64 n) with
      | none => false
      | some N => FloatKind.f64.format.order N 4562254508917369340 == some .lt && FloatKind.f64.format.order N 13785626545772145148 == some .gt && (d != 1 || FloatKind.f64.format.order P (floatOfInt .f64 n) == some .eq)
theorem good_of {n d : Int} (h : goodB n d = true) : ∃ P M N, floatBits .quo .f64 (floatOfInt .f64 n) (floatOfInt .f64 d) = some P ∧ floatBits .mul .f64 P (floatOfInt .f64 d) = some M ∧ floatBits .sub .f64 M (floatOfInt .f64 n) = some N ∧
    FloatKind.f64.format.order N 4562254508917369340 = some .lt ∧ FloatKind.f64.format.order N 13785626545772145148 = some .gt ∧ (d = 1 → FloatKind.f64.format.order P (floatOfInt .f64 n) = some .eq) := by
  unfold goodB at h
  split at h
  · cases h
  · rename_i P hP
    split at h
    · cases h
    · rename_i M hM
      split at h
      · cases h
      · rename_i N hN
        simp only [Bool.and_eq_true, beq_iff_eq, Bool.or_eq_true, bne_iff_ne, ne_eq] at h
        refine ⟨P, M, N, hP, hM, hN, h.1.1, h.1.2, fun e => ?_⟩
        rcases h.2 with h | h
        · exact absurd e h
        · exact h
theorem good_small : (List.range 13).all (fun n => (List.range 5).all fun d => goodB ((n : Int) - 6) ((d : Int) + 1)) = true := by decide +kernel
theorem good_some : (goodB 2000000000 7 && goodB 1 7 && goodB 0 1) = true := by decide +kernel
theorem good_in {n d : Int} (hn : -6 ≤ n ∧ n ≤ 6) (hd : 1 ≤ d ∧ d ≤ 5) : goodB n d = true := by
  have := List.all_eq_true.1 (List.all_eq_true.1 good_small (n + 6).toNat (by simp; omega)) (d - 1).toNat (by simp; omega)
  have e1 : (((n + 6).toNat : Nat) : Int) - 6 = n := by omega
  have e2 : (((d - 1).toNat : Nat) : Int) + 1 = d := by omega
  rw [e1, e2] at this
  exact this
theorem tdiv_small {n : Int} {g : Nat} {m : Int} (h : -m ≤ n ∧ n ≤ m) : -m ≤ n.tdiv g ∧ n.tdiv g ≤ m := by
  have : (n.tdiv g).natAbs ≤ n.natAbs := by
    rw [Int.natAbs_tdiv]
    exact Nat.div_le_self _ _
  omega
theorem drawn_good {x y z : Int} (h : DrawnF x y z) (ho : okF x y z = true) : goodB x z = true ∧ goodB y z = true := by
  have hs := good_some
  simp only [Bool.and_eq_true] at hs
  obtain ⟨⟨s1, s2⟩, s3⟩ := hs
  rcases h with ⟨rfl, rfl, rfl⟩ | ⟨rfl, rfl, rfl⟩ | ⟨rfl, rfl, rfl⟩ | ⟨rfl, rfl, rfl⟩ | ⟨re, im, den, h1, h2, h3, e⟩
  · exact absurd ho (by decide +kernel)
  · exact absurd ho (by decide +kernel)
  · exact ⟨s1, s2⟩
  · exact ⟨s3, s3⟩
  · obtain ⟨_, _, hz⟩ := okF_bd ho
    unfold lowF at e
    simp only at e
    split at e
    · simp only [partsR, Option.getD_some, Prod.mk.injEq] at e
      obtain ⟨rfl, rfl, rfl⟩ := e
      have b1 := tdiv_small (g := gcd3 re im den) h1
      have b2 := tdiv_small (g := gcd3 re im den) (m := 6) (n := im) (by omega)
      have b3 : den / (gcd3 re im den : Int) ≤ 5 := Int.le_trans (Int.ediv_le_self _ (by omega)) (by omega)
      exact ⟨good_in b1 ⟨hz.1, b3⟩, good_in b2 ⟨hz.1, b3⟩⟩
    · simp only [partsR, Option.getD_none, Prod.mk.injEq] at e
      omega

def DrewF (w : World) (e : Ending) (w' : World) : Prop :=
  ∃ x y z : Int, e = .returned (.agg #[.int .i64 x, .int .i64 y, .int .i64 z]) ∧ DrawnF x y z ∧ Below w.heap.size w w'
set_option maxHeartbeats 1000000 in
theorem drawWide_any (a : Option Addr) (len cap : Nat) (w : World) (h : Code8 w a len cap) :
    Calls Tryd.prog 15 #[.slice a len cap] w (DrewF w) := by
  have h0 : Code8 (w.alloc (.cells #[.int .i64 0, .int .i64 0, .int .i64 0] 24)) a len cap := by
    obtain ⟨h1, h2, h3⟩ := h
    refine ⟨h1, h2, ?_⟩
    rcases h3 with h3 | ⟨c, off, ha, hc, hz⟩
    · exact .inl h3
    · refine .inr ⟨c, off, ha, by simp; omega, fun i hi => ?_⟩
      obtain ⟨z, z0, z1, hzc⟩ := hz i hi
      exact ⟨z, z0, z1, (World.cell?_alloc_lt w _ ⟨c, off + i, none⟩ hc).trans hzc⟩
  have H0 := Lib.hid h0
  clear h h0
  go_enter Tryd.func15, Tryd.ntmps15
  go_wp2_with fail
  refine (open_any a len cap _ H0.out).mono ?_
  rintro e w1 ⟨b, rfl, hb1, bel, hr⟩
  have HR := Lib.hid hr
  obtain ⟨r0, r1, r2⟩ := keep3 bel (b := w.heap.size) (x := .int .i64 0) (y := .int .i64 0) (z := .int .i64 0) (by go_simp)
  obtain ⟨f0, f1, f2⟩ := keepf3 bel (b := w.heap.size) (by simp) (by go_simp)
  have oa : Acc w w1 := Acc.call ((Acc.refl w).alloc _) bel
  have hb2 : w.heap.size < b := by simp at hb1; omega
  clear hr H0 bel hb1
  go_wp2_with fail
  refine (frac_any b 0 w1 HR.out (by omega)).mono ?_
  rintro e w2 ⟨x, y, z, q, rfl, hd, ho, hq, hr⟩
  have HD := Lib.hid hd
  obtain ⟨r0, r1, r2⟩ := keep3o ho (k := w.heap.size) (by omega) ⟨r0, r1, r2⟩
  obtain ⟨f0, f1, f2⟩ := keepf3o ho (k := w.heap.size) (by omega) (by have := oa.size; have := World.block_lt_of_cell? _ _ r0; have := ho.size; have := HR.out.1; omega) ⟨f0, f1, f2⟩
  have oa2 : Acc w w2 := Below.trans oa (ho.below (Below.size oa) (by omega))
  clear hr HR hd oa ho
  go_wp2_with fail
  refine bodyPost_ret (v := .agg #[.int .i64 x, .int .i64 y, .int .i64 z]) (by simp [results, Tryd.results15, go_sem, r0, r1, r2]) rfl ⟨x, y, z, rfl, HD.out, ?_⟩
  show Acc w _
  (repeat' (first | assumption | exact Acc.refl _ | refine Acc.drew ?_ | refine Acc.alloc ?_ _ | refine Acc.setCell ?_ (by omega) _))
end Go.Proofs.YtmhoppjekiiheaaDoor
