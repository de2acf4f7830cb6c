/-
  The law of wide numbers of fractions: its walk, out of the contract of the program.
-/
import Derived.Test.YtmhoppjekiiheaaDoorFnWide
import Derived.Test.YtmhoppjekiiheaaDoorOpenInts
namespace Go.Proofs.YtmhoppjekiiheaaDoor
open Go.ChangeShapes Go.WideShapes Go.ChangeAt Go.RowKit
set_option linter.unusedVariables false

theorem drawn_i64 {x y z : Int} (h : DrawnF x y z) : i64B x ∧ i64B y ∧ i64B z := by
  unfold i64B
  rcases h with ⟨rfl, rfl, rfl⟩ | ⟨rfl, rfl, rfl⟩ | ⟨rfl, rfl, rfl⟩ | ⟨rfl, rfl, rfl⟩ | ⟨re, im, den, h1, h2, h3, e⟩
  · omega
  · omega
  · omega
  · omega
  · unfold lowF at e
    simp only at e
    split at e
    · rename_i hk
      simp only [partsR, Option.getD_some, Prod.mk.injEq] at e
      obtain ⟨rfl, rfl, rfl⟩ := e
      have := okF_bd hk
      omega
    · simp only [partsR, Option.getD_none, Prod.mk.injEq] at e
      omega

set_option maxHeartbeats 4000000 in
theorem fnWide_law (w : World) (hi : ∀ x y z W, Acc w W → i64B x → i64B y → i64B z → Calls Tryd.prog 16 #[.agg #[.int .i64 x, .int .i64 y, .int .i64 z]] W (Wided x y z W)) (a : Option Addr) (len cap : Nat) (h : Code8 w a len cap) :
    Calls Tryd.prog 3 #[.slice a len cap] w (Fine w) := by
  have hm := h.2.1
  have hl := h.1
  unfold maxLen at hm
  by_cases hlen : 1048576 < len
  · clear h
    have hlen' : (1048576 : Int) < (len : Int) := by omega
    go_enter Tryd.func3, Tryd.ntmps3
    go_wp2_with fail
    go_ret
    exact ⟨rfl, Below.refl _ _⟩
  have hlen' : ¬ (1048576 : Int) < (len : Int) := by omega
  go_enter Tryd.func3, Tryd.ntmps3
  go_wp2_with fail
  refine (drawWide_any a len cap w h).mono ?_
  rintro e w1 ⟨x, y, z, rfl, hd, oa⟩
  have oa : Acc w w1 := oa
  clear h
  obtain ⟨bx, bY, bz⟩ := drawn_i64 hd
  have HI := Lib.hid fun W (k : Acc w W) => hi x y z W k bx bY bz
  clear bx bY bz
  clear hi
  go_wp2_with fail
  cases ho : okF x y z with
  | false =>
    have HO := Lib.hid ho
    clear ho hd
    refine (HI.out _ (by repeat' (first | assumption | exact Acc.refl _ | refine Acc.drew ?_ | refine Acc.alloc ?_ _ | refine Acc.setCell ?_ (by omega) _))).mono ?_
    rintro e w2 ⟨-, h2, hb⟩
    obtain rfl := h2 HO.out
    clear h2
    obtain ⟨r0, r1, r2⟩ := keep3 hb (b := w1.heap.size) (x := .int .i64 x) (y := .int .i64 y) (z := .int .i64 z) (by go_simp)
    have kaw2 : Acc w w2 := by
      refine Acc.call ?_ hb
      (repeat' (first | assumption | exact Acc.refl _ | refine Acc.drew ?_ | refine Acc.alloc ?_ _ | refine Acc.setCell ?_ (by omega) _))
    clear hb
    go_wp2_with fail
    refine (specWide_any x y z _).mono ?_
    rintro e w3 ⟨-, h3, hb⟩
    obtain rfl := h3 HO.out
    clear h3
    obtain ⟨r0, r1, r2⟩ := keep3 hb (b := w1.heap.size) (x := .int .i64 x) (y := .int .i64 y) (z := .int .i64 z) (by go_simp)
    have kaw3 : Acc w w3 := by
      refine Acc.call ?_ hb
      (repeat' (first | assumption | exact Acc.refl _ | refine Acc.drew ?_ | refine Acc.alloc ?_ _ | refine Acc.setCell ?_ (by omega) _))
    clear hb
    go_wp2_with fail
    refine (wideAlike_any 0 0 0 0 _ (.refl _) (.refl _)).mono ?_
    rintro e w4 ⟨rfl, rfl⟩
    go_wp2_with fail
    refine (wideAlike_any 0 0 0 0 _ (.refl _) (.refl _)).mono ?_
    rintro e w4 ⟨rfl, rfl⟩
    go_wp2_with fail
    go_ret
    exact ⟨rfl, kaw3⟩
  | true =>
    obtain ⟨g1, g2⟩ := drawn_good hd ho
    obtain ⟨P, M, N, hP, hM, hN, l1, l2, l3⟩ := good_of g1
    obtain ⟨Q, M2, N2, hQ, hM2, hN2, l4, l5, l6⟩ := good_of g2
    have eP : ∀ p, Same p (fop .quo (floatOfInt .f64 x) (floatOfInt .f64 z)) → p = P := by
      intro p hp
      rw [show fop .quo (floatOfInt .f64 x) (floatOfInt .f64 z) = P by unfold fop; rw [hP]; rfl] at hp
      rcases hp with h | ⟨_, h⟩
      · exact h
      · rw [fbits_not_nan hP] at h; cases h
    have eQ : ∀ p, Same p (fop .quo (floatOfInt .f64 y) (floatOfInt .f64 z)) → p = Q := by
      intro p hp
      rw [show fop .quo (floatOfInt .f64 y) (floatOfInt .f64 z) = Q by unfold fop; rw [hQ]; rfl] at hp
      rcases hp with h | ⟨_, h⟩
      · exact h
      · rw [fbits_not_nan hQ] at h; cases h
    have EP := Lib.hid eP
    have EQ := Lib.hid eQ
    have R1 := Lib.hid fun t w => run_told (P := Tryd.prog) hM t w
    have R2 := Lib.hid fun t w => run_told (P := Tryd.prog) hN t w
    have R3 := Lib.hid fun t w => run_told (P := Tryd.prog) hM2 t w
    have R4 := Lib.hid fun t w => run_told (P := Tryd.prog) hN2 t w
    have HO := Lib.hid ho
    have L3 := Lib.hid l3
    have L6 := Lib.hid l6
    clear ho hd g1 g2 hP hM hN hQ hM2 hN2 eP eQ l3 l6
    refine (HI.out _ (by repeat' (first | assumption | exact Acc.refl _ | refine Acc.drew ?_ | refine Acc.alloc ?_ _ | refine Acc.setCell ?_ (by omega) _))).mono ?_
    rintro e w2 ⟨h2, -, hb⟩
    obtain ⟨p, q, rfl, s1, s2⟩ := h2 HO.out
    obtain rfl := EP.out p s1
    obtain rfl := EQ.out q s2
    clear h2 s1 s2
    obtain ⟨r0, r1, r2⟩ := keep3 hb (b := w1.heap.size) (x := .int .i64 x) (y := .int .i64 y) (z := .int .i64 z) (by go_simp)
    have kaw2 : Acc w w2 := by
      refine Acc.call ?_ hb
      (repeat' (first | assumption | exact Acc.refl _ | refine Acc.drew ?_ | refine Acc.alloc ?_ _ | refine Acc.setCell ?_ (by omega) _))
    clear hb
    go_wp2_with fail
    refine (specWide_any x y z _).mono ?_
    rintro e w3 ⟨h3, -, hb⟩
    obtain ⟨p', q', rfl, s1, s2⟩ := h3 HO.out
    obtain rfl := EP.out p' s1
    obtain rfl := EQ.out q' s2
    clear h3 s1 s2 EP EQ
    obtain ⟨r0, r1, r2⟩ := keep3 hb (b := w1.heap.size) (x := .int .i64 x) (y := .int .i64 y) (z := .int .i64 z) (by go_simp)
    have kaw3 : Acc w w3 := by
      refine Acc.call ?_ hb
      (repeat' (first | assumption | exact Acc.refl _ | refine Acc.drew ?_ | refine Acc.alloc ?_ _ | refine Acc.setCell ?_ (by omega) _))
    clear hb
    go_wp2_with fail
    refine (wideAlike_any _ _ _ _ _ (.refl _) (.refl _)).mono ?_
    rintro e w4 ⟨rfl, rfl⟩
    by_cases hz : z = 1
    · subst hz
      have l3 := L3.out rfl
      have l6 := L6.out rfl
      clear L3 L6
      go_wp2_with (first | simp only [R1.out] | simp only [R2.out] | simp only [R3.out] | simp only [R4.out])
      go_ret
      exact ⟨rfl, kaw3⟩
    · have hz1 : (z != 1) = true := by simpa using hz
      clear L3 L6 hz
      go_wp2_with (first | simp only [R1.out] | simp only [R2.out] | simp only [R3.out] | simp only [R4.out])
      go_ret
      exact ⟨rfl, kaw3⟩
end Go.Proofs.YtmhoppjekiiheaaDoor
