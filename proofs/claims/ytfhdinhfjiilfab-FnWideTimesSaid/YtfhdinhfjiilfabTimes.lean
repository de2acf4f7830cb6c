/-
  The law of products of wide numbers: what it calls, and its walk.
-/
import Derived.Test.YtfhdinhfjiilfabNeg
namespace Go.Proofs.Ytfhdinhfjiilfab
open Go.ChangeShapes Go.WideShapes Go.ChangeAt Go.RowKit
set_option linter.unusedVariables false

set_option maxHeartbeats 1000000 in
theorem drawTimes_any (a : Option Addr) (len cap : Nat) (w : World) (h : Code8 w a len cap) :
    Calls Try.prog 9 #[.slice a len cap] w (DrewTwo w) := by
  go_enter Try.func9, Try.ntmps9
  go_wp2_with fail
  refine (wides_any a len cap w h).mono ?_
  rintro e w1 ⟨x, y, u, v, rfl, hx, hy, hu, hv, bel⟩
  go_wp2_with fail
  go_ret2
  exact ⟨x, y, u, v, rfl, hx, hy, hu, hv, bel⟩

def reT (a b c d : Nat) : Nat := fop .sub (fop .mul a c) (fop .mul b d)
def imT (a b c d : Nat) : Nat := fop .add (fop .mul a d) (fop .mul b c)
def Timed (a b c d : Nat) (w : World) (e : Ending) (w' : World) : Prop :=
  ∃ p q, e = .returned (.complex .f64 p q) ∧ Same p (reT a b c d) ∧ Same q (imT a b c d) ∧ Bare w w'

set_option maxHeartbeats 1000000 in
theorem times_in (a b c d : Nat) (w : World) :
    Calls Try.prog 34 #[.complex .f64 a b, .complex .f64 c d] w (Timed a b c d w) := by
  go_enter Try.func34, Try.ntmps34
  go_wp2_with (simp only [run_mul, run_add, run_sub])
  go_ret
  exact ⟨_, _, rfl, (fval_same ..).trans (fop_congr .sub (fval_same ..) (fval_same ..)), (fval_same ..).trans (fop_congr .add (fval_same ..) (fval_same ..)),
    Bare.trans (fworld_bare _ _ _ _) (Bare.trans (fworld_bare _ _ _ _) (Bare.trans (fworld_bare _ _ _ _) (Bare.trans (fworld_bare _ _ _ _) (Bare.trans (fworld_bare _ _ _ _) (fworld_bare _ _ _ _)))))⟩

set_option maxHeartbeats 1000000 in
theorem specTimes_any (a b c d : Nat) (w : World) :
    Calls Try.prog 11 #[.complex .f64 a b, .complex .f64 c d] w (Timed a b c d w) := by
  go_enter Try.func11, Try.ntmps11
  go_wp2_with (simp only [run_mul, run_add, run_sub])
  go_ret
  exact ⟨_, _, rfl, (fval_same ..).trans (fop_congr .sub (fval_same ..) (fval_same ..)), (fval_same ..).trans (fop_congr .add (fval_same ..) (fval_same ..)),
    Bare.trans (fworld_bare _ _ _ _) (Bare.trans (fworld_bare _ _ _ _) (Bare.trans (fworld_bare _ _ _ _) (Bare.trans (fworld_bare _ _ _ _) (Bare.trans (fworld_bare _ _ _ _) (fworld_bare _ _ _ _)))))⟩

set_option maxHeartbeats 1000000 in
theorem times_any (a b c d : Nat) (w : World) :
    Calls Try.prog 10 #[.complex .f64 a b, .complex .f64 c d] w (Timed a b c d w) := by
  go_enter Try.func10, Try.ntmps10
  go_wp2_with fail
  refine (times_in a b c d w).mono ?_
  rintro e w1 ⟨p, q, rfl, s1, s2, b1⟩
  go_wp2_with fail
  go_ret
  exact ⟨p, q, rfl, s1, s2, b1⟩

set_option maxHeartbeats 1000000 in
theorem mirror_any (x y : Nat) (w : World) :
    Calls Try.prog 13 #[.complex .f64 x y] w fun e w' => e = .returned (.complex .f64 x (Op.negFloat .f64 y)) ∧ w = w' := by
  go_enter Try.func13, Try.ntmps13
  go_wp2
  go_ret
  exact ⟨rfl, rfl⟩

set_option maxHeartbeats 1000000 in
theorem partLoose_any (x y : Nat) (w : World) (h : Loose x y) :
    Calls Try.prog 24 #[.float .f64 x, .float .f64 y] w fun e w' => e = .returned (.bool true) ∧ w = w' := by
  rcases h with h | ⟨hx, hy⟩
  · go_enter Try.func24, Try.ntmps24
    go_wp2
    go_ret
    exact ⟨rfl, rfl⟩
  · have ox := order_nan_left hx
    have oy := order_nan_left hy
    clear hx hy
    go_enter Try.func24, Try.ntmps24
    go_wp2
    go_ret
    exact ⟨rfl, rfl⟩

set_option maxHeartbeats 1000000 in
theorem looseWide_any (a b c d : Nat) (w : World) (h : Loose a c) (k : Loose b d) :
    Calls Try.prog 14 #[.complex .f64 a b, .complex .f64 c d] w fun e w' => e = .returned (.bool true) ∧ w = w' := by
  have H := Lib.hid h
  have K := Lib.hid k
  clear h k
  go_enter Try.func14, Try.ntmps14
  go_wp2_with fail
  refine (partLoose_any a c w H.out).mono ?_
  rintro e w1 ⟨rfl, rfl⟩
  go_wp2_with fail
  refine (partLoose_any b d w K.out).mono ?_
  rintro e w1 ⟨rfl, rfl⟩
  go_wp2_with fail
  go_ret
  exact ⟨rfl, rfl⟩

theorem reT_comm (a b c d : Nat) : reT c d a b = reT a b c d := by unfold reT; rw [fop_mul_comm c a, fop_mul_comm d b]
theorem imT_comm (a b c d : Nat) : imT c d a b = imT a b c d := by unfold imT; rw [fop_mul_comm c b, fop_mul_comm d a, fop_add_comm]
theorem fop_mul_neg_right (x y : Nat) : Same (fop .mul x (Op.negFloat .f64 y)) (Op.negFloat .f64 (fop .mul x y)) := by
  rw [fop_mul_comm, fop_mul_comm x y]; exact fop_mul_neg y x
theorem reT_mirror (a b c d : Nat) : Same (reT a (Op.negFloat .f64 b) c (Op.negFloat .f64 d)) (reT a b c d) := by
  refine fop_congr .sub (.refl _) ?_
  have h := (fop_mul_neg b (Op.negFloat .f64 d)).trans (neg_congr (fop_mul_neg_right b d))
  rw [neg_neg] at h
  exact h
theorem imT_mirror (a b c d : Nat) : Loose (imT a (Op.negFloat .f64 b) c (Op.negFloat .f64 d)) (Op.negFloat .f64 (imT a b c d)) :=
  (fop_add_neg (fop .mul a d) (fop .mul b c)).congr (fop_congr .add (fop_mul_neg_right a d) (fop_mul_neg b c)) (.refl _)

set_option maxHeartbeats 2000000 in
theorem times_law (a : Option Addr) (len cap : Nat) (w : World) (h : Code8 w a len cap) :
    Calls Try.prog 3 #[.slice a len cap] w (Fine w) := by
  have hm := h.2.1
  have hl := h.1
  unfold maxLen at hm
  by_cases hlen : 1048576 < len
  · clear h
    have hlen' : (1048576 : Int) < (len : Int) := by omega
    go_enter Try.func3, Try.ntmps3
    go_wp2_with fail
    go_ret
    exact ⟨rfl, Below.refl _ _⟩
  have hlen' : ¬ (1048576 : Int) < (len : Int) := by omega
  go_enter Try.func3, Try.ntmps3
  go_wp2_with fail
  refine (drawTimes_any a len cap w h).mono ?_
  rintro e w1 ⟨x, y, u, v, rfl, hx, hy, hu, hv, bel⟩
  clear h hx hy hu hv
  go_wp2_with fail
  refine (times_any x y u v w1).mono ?_
  rintro e w2 ⟨p, q, rfl, s1, s2, b2⟩
  go_wp2_with fail
  refine (specTimes_any x y u v w2).mono ?_
  rintro e w3 ⟨p2, q2, rfl, s3, s4, b3⟩
  have t1 := Lib.hid (s1.trans s3.symm)
  have t2 := Lib.hid (s2.trans s4.symm)
  have S1 := Lib.hid s1
  have S2 := Lib.hid s2
  clear s1 s2 s3 s4
  go_wp2_with fail
  refine (wideAlike_any p q p2 q2 w3 t1.out t2.out).mono ?_
  rintro e w4 ⟨rfl, rfl⟩
  go_wp2_with fail
  refine (times_any u v x y w3).mono ?_
  rintro e w4 ⟨p3, q3, rfl, s5, s6, b4⟩
  rw [reT_comm] at s5
  rw [imT_comm] at s6
  have t3 := Lib.hid (s5.trans S1.out.symm)
  have t4 := Lib.hid (s6.trans S2.out.symm)
  clear s5 s6
  go_wp2_with fail
  refine (mirror_any x y w4).mono ?_
  rintro e w5 ⟨rfl, rfl⟩
  go_wp2_with fail
  refine (mirror_any u v w4).mono ?_
  rintro e w5 ⟨rfl, rfl⟩
  go_wp2_with fail
  refine (times_any x (Op.negFloat .f64 y) u (Op.negFloat .f64 v) w4).mono ?_
  rintro e w5 ⟨p4, q4, rfl, s7, s8, b5⟩
  have t5 := Lib.hid (Loose.of_same (s7.trans ((reT_mirror x y u v).trans S1.out.symm)))
  have t6 := Lib.hid ((imT_mirror x y u v).congr s8 (neg_congr S2.out))
  clear s7 s8
  have bel5 : Below w.heap.size w w5 := bel.trans ((b2 _).trans ((b3 _).trans ((b4 _).trans (b5 _))))
  clear b2 b3 b4 b5
  go_wp2_with fail
  refine (wideAlike_any p3 q3 p q w5 t3.out t4.out).mono ?_
  rintro e w6 ⟨rfl, rfl⟩
  go_wp2_with fail
  refine (mirror_any p q w5).mono ?_
  rintro e w6 ⟨rfl, rfl⟩
  go_wp2_with fail
  refine (looseWide_any p4 q4 p (Op.negFloat .f64 q) w5 t5.out t6.out).mono ?_
  rintro e w6 ⟨rfl, rfl⟩
  go_wp2_with fail
  go_ret
  exact ⟨rfl, bel5⟩
end Go.Proofs.Ytfhdinhfjiilfab
