/-
  Wide numbers of fractions are told; single ones and back.
-/
import Derived.Test.YtbihlkienhbapaaDoorSpecSingle
import Derived.Test.YtbihlkienhbapaaDoorSpecJones3
namespace Go.Proofs.YtbihlkienhbapaaDoor
open Go.ChangeShapes Go.WideShapes Go.ChangeAt Go.RowKit
set_option linter.unusedVariables false

theorem narrow_num {x : Nat} {s : Bool} {m : Nat} {p : Int} (e : Ieee.double.read x = .number s m p) (h : m = 0 ∨ p + m.log2 ≤ 34) : ∃ r, floatToFloatBits .f64 x .f32 = some r ∧ isNk .f32 r = false := by
  have hw : Ieee.single.signWeight = 2 ^ 31 := by decide +kernel
  have hb : Ieee.single.binade = 2 ^ 23 := by decide +kernel
  have hi : Ieee.single.infRung = 255 * 2 ^ 23 := by decide +kernel
  have hl : Ieee.single.leastPlace = -149 := by decide +kernel
  have hf : Ieee.single.fractionBits = 23 := rfl
  have e' : FloatKind.f64.decode x = .number s m p := e
  have hr : ∃ r, FloatKind.f32.encode (.number s m p) = Ieee.single.word s r ∧ r < Ieee.single.infRung := by
    show ∃ r, Ieee.single.nearest s m p = Ieee.single.word s r ∧ r < Ieee.single.infRung
    by_cases h0 : m = 0
    · exact ⟨0, by unfold Ieee.Format.nearest; rw [if_pos h0], by rw [hi]; decide⟩
    · obtain ⟨r, e1, _, h2⟩ := nearest_rung Ieee.single s m p h0
      refine ⟨r, e1, ?_⟩
      rw [hl, hb, hf] at h2
      have h3 : p + m.log2 ≤ 34 := by rcases h with h | h; · exact absurd h h0
                                      · exact h
      have h4 : (max (p + (m.log2 : Int) - (23 : Nat)) (-149) - (-149)).toNat ≤ 160 := by omega
      have h5 := Nat.mul_le_mul_right (2 ^ 23) h4
      omega
  obtain ⟨r, e1, h1⟩ := hr
  refine ⟨FloatKind.f32.encode (.number s m p), ?_, ?_⟩
  · unfold floatToFloatBits
    rw [if_neg (by decide), e']
    simp only
    rw [if_neg]
    rw [e1]
    show ¬ (Ieee.single.read (Ieee.single.word s r)).isInfinity = true
    unfold Ieee.Format.read
    simp only [word_mod Ieee.single s r (by omega)]
    split
    · simp [Ieee.Datum.isInfinity]
    · simp [Ieee.Datum.isInfinity]
  · rw [e1]
    show (Ieee.single.read (Ieee.single.word s r)).isNaN = false
    unfold Ieee.Format.read
    simp only [word_mod Ieee.single s r (by omega)]
    split
    · simp [Ieee.Datum.isNaN]
    · simp [Ieee.Datum.isNaN]
/-- A part of a fraction as a wide float; its single float as a wide one. -/
def wideF (n d : Int) : Nat := fop .quo (floatOfInt .f64 n) (floatOfInt .f64 d)
def backF (n d : Int) : Nat := (floatToFloatBits .f32 (singleOf n d) .f64).getD 0
theorem wide_told {n d : Int} (hn : -2000000000 ≤ n ∧ n ≤ 2000000000) (hd : 1 ≤ d ∧ d ≤ 2000000000) {p : Nat} (hp : Same p (fop .quo (floatOfInt .f64 n) (floatOfInt .f64 d))) : p = wideF n d := by
  obtain ⟨P, hP, s, m, q, e, hb⟩ := quo_small (n := n) (d := d) (by omega) (by omega)
  have e1 : fop .quo (floatOfInt .f64 n) (floatOfInt .f64 d) = P := by unfold fop; rw [hP]; rfl
  unfold wideF
  rw [e1] at hp ⊢
  rcases hp with h | ⟨_, h⟩
  · exact h
  · rw [fbits_not_nan hP] at h; cases h
theorem wide_num {n d : Int} (hn : -2000000000 ≤ n ∧ n ≤ 2000000000) (hd : 1 ≤ d ∧ d ≤ 2000000000) : ∃ s m q, Ieee.double.read (wideF n d) = .number s m q ∧ (m = 0 ∨ q + m.log2 ≤ 34) := by
  obtain ⟨P, hP, s, m, q, e, hb⟩ := quo_small (n := n) (d := d) (by omega) (by omega)
  have e1 : wideF n d = P := by unfold wideF fop; rw [hP]; rfl
  rw [e1]
  exact ⟨s, m, q, e, hb⟩
theorem single_back {n d : Int} (hn : -2000000000 ≤ n ∧ n ≤ 2000000000) (hd : 1 ≤ d ∧ d ≤ 2000000000) : floatToFloatBits .f64 (wideF n d) .f32 = some (singleOf n d) ∧ floatToFloatBits .f32 (singleOf n d) .f64 = some (backF n d) := by
  obtain ⟨s, m, q, e, hb⟩ := wide_num hn hd
  obtain ⟨r, h1, h2⟩ := narrow_num e hb
  have hs : singleOf n d = r := by unfold singleOf; rw [show fop .quo (floatOfInt .f64 n) (floatOfInt .f64 d) = wideF n d from rfl, h1]; rfl
  refine ⟨by rw [hs]; exact h1, ?_⟩
  rcases widen_some (singleOf n d) with h | h
  · rw [hs, h2] at h; cases h
  · obtain ⟨b, hb⟩ := Option.isSome_iff_exists.1 h
    unfold backF
    rw [hb]; rfl
/-- A wide number that is the same when it is converted to a single one and back. -/
def fits1 (x y z : Int) : Bool := FloatKind.f64.format.order (backF x z) (wideF x z) == some .eq && FloatKind.f64.format.order (backF y z) (wideF y z) == some .eq
theorem order_flip (a b : Nat) : (FloatKind.f64.format.order a b == some .eq) = (FloatKind.f64.format.order b a == some .eq) := by
  rw [Bool.eq_iff_iff, beq_iff_eq, beq_iff_eq]
  exact ⟨order_eq_symm, order_eq_symm⟩
theorem fits1_flip (x y z : Int) : (FloatKind.f64.format.order (wideF x z) (backF x z) == some .eq && FloatKind.f64.format.order (wideF y z) (backF y z) == some .eq) = fits1 x y z := by
  unfold fits1
  rw [order_flip (wideF x z), order_flip (wideF y z)]
theorem back_conv {x y z : Int} (h : okF x y z = true) (P : Program) (s d : TypeId) (hs : (P.underlying s).isSome = true) (hd : P.underlying d = some (.complex .f32)) (w : World) : (convert s d (.complex .f64 (wideF x z) (wideF y z))).run P w = .ok (.complex .f32 (singleOf x z) (singleOf y z)) w := by
  obtain ⟨bx, by', bz⟩ := okF_bd h
  exact run_convert_complex w s d .f64 .f32 _ _ _ _ hs hd (by simp [cConvBits, (single_back bx bz).1, (single_back by' bz).1])
theorem forth_conv {x y z : Int} (h : okF x y z = true) (P : Program) (s d : TypeId) (hs : (P.underlying s).isSome = true) (hd : P.underlying d = some (.complex .f64)) (w : World) : (convert s d (.complex .f32 (singleOf x z) (singleOf y z))).run P w = .ok (.complex .f64 (backF x z) (backF y z)) w := by
  obtain ⟨bx, by', bz⟩ := okF_bd h
  exact run_convert_complex w s d .f32 .f64 _ _ _ _ hs hd (by simp [cConvBits, (single_back bx bz).2, (single_back by' bz).2])
def fitsF (x1 x2 x3 y1 y2 y3 : Int) : Bool := okF x1 x2 x3 && okF y1 y2 y3 && fits1 x1 x2 x3 && fits1 y1 y2 y3
end Go.Proofs.YtbihlkienhbapaaDoor
