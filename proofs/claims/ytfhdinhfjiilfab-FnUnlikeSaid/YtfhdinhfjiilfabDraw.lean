/-
  The draws of floats and of wide numbers: a NaN, infinity, or one of a short list of words.
-/
import Derived.Test.YtfhdinhfjiilfabOpen
import Derived.Test.YtfhdinhfjiilfabFloat
namespace Go.Proofs.Ytfhdinhfjiilfab
open Go.ChangeShapes Go.WideShapes Go.ChangeAt Go.RowKit
set_option linter.unusedVariables false

def inf64 : Nat := 9218868437227405312
def four64 : Nat := 4616189618054758400
def quarter (k : Nat) : Nat := fop .quo (floatOfInt .f64 ((k : Int) - 16)) four64
def finites : List Nat := [9223372036854775808, 5182576905729208970, 3933566627244108473, 4591870180066957722] ++ (List.range 33).map quarter
def Drawn (x : Nat) : Prop := isN x = true ∨ x = inf64 ∨ x ∈ finites

def DrewFloat (b p : Nat) (w : World) (e : Ending) (w' : World) : Prop :=
  ∃ x q : Nat, e = .returned (.float .f64 x) ∧ Drawn x ∧ Only b w w' ∧ q ≤ p + 2 ∧ Rd w' b q

theorem neg0 : Op.negFloat .f64 0 = 9223372036854775808 := by decide +kernel
theorem run0 {P : Program} (t : TypeId) (w : World) : (binOp .mul t (.float .f64 (Op.negFloat .f64 0)) (.float .f64 4607182418800017408)).run P w = .ok (.float .f64 (Op.negFloat .f64 0)) w :=
  run_told (by rw [neg0]; kernel_rfl) t w
theorem run1 {P : Program} (t : TypeId) (w : World) : (binOp .quo t (.float .f64 4607182418800017408) (.float .f64 0)).run P w = .ok (.float .f64 inf64) w :=
  run_told (by kernel_rfl) t w
theorem run2 {P : Program} (t : TypeId) (w : World) : (binOp .quo t (.float .f64 0) (.float .f64 0)).run P w = .ok (.float .f64 (nanAt w 0 0)) w.drew :=
  run_nan (by simp) (by kernel_rfl) t w
theorem quarters : (List.range 33).all (fun k => floatBits .quo .f64 (floatOfInt .f64 ((k : Int) - 16)) four64 == some (quarter k)) = true := by decide +kernel
theorem run3 {P : Program} (k : Int) (h0 : 0 ≤ k) (h1 : k < 33) (t : TypeId) (w : World) :
    (binOp .quo t (.float .f64 (floatOfInt .f64 (k - 16))) (.float .f64 4616189618054758400)).run P w = .ok (.float .f64 (quarter k.toNat)) w := by
  obtain ⟨n, rfl⟩ := Int.eq_ofNat_of_zero_le h0
  have := List.all_eq_true.1 quarters n (by simp; omega)
  exact run_told (by simp only [beq_iff_eq] at this; exact this) t w
theorem drawn_quarter (k : Int) (h0 : 0 ≤ k) (h1 : k < 33) : Drawn (quarter k.toNat) :=
  .inr (.inr (List.mem_append.2 (.inr (List.mem_map.2 ⟨k.toNat, by simp; omega, rfl⟩))))

theorem only_drew {b : Nat} {w w' : World} (h : Only b w w') : Only b w w'.drew := ⟨h.os, h.tape, h.output, h.size, h.block⟩

set_option maxHeartbeats 1000000 in
theorem float_any (b p : Nat) (w : World) (h : Rd w b p) (hp : p < 999990) :
    Calls Try.prog 39 #[.pointer (some ⟨b, 0, none⟩)] w (DrewFloat b p w) := by
  go_enter Try.func39, Try.ntmps39
  go_wp2_with fail
  refine (pick_any b p 20 w h (by omega) (by omega) (by omega)).mono ?_
  rintro e w1 ⟨k, rfl, k0, k1, ho, hr⟩
  have HR := Lib.hid hr
  clear hr h
  go_wp2_with (first | simp only [run0, run1, run2] | fail)
  · go_ret
    exact ⟨_, p + 1, rfl, .inr (.inr (by rw [neg0]; simp [finites])), ho, by omega, HR.out⟩
  · go_ret
    exact ⟨_, p + 1, rfl, .inr (.inl rfl), ho, by omega, HR.out⟩
  · go_ret
    exact ⟨_, p + 1, rfl, .inl (isN_nanAt _ _ _), only_drew ho, by omega, HR.out⟩
  · go_ret
    exact ⟨_, p + 1, rfl, .inr (.inr (by simp [finites])), ho, by omega, HR.out⟩
  · go_ret
    exact ⟨_, p + 1, rfl, .inr (.inr (by simp [finites])), ho, by omega, HR.out⟩
  · go_ret
    exact ⟨_, p + 1, rfl, .inr (.inr (by simp [finites])), ho, by omega, HR.out⟩
  · refine (pick_any b (p + 1) 33 w1 HR.out (by omega) (by omega) (by omega)).mono ?_
    rintro e w2 ⟨j, rfl, j0, j1, ho2, hr2⟩
    have HR2 := Lib.hid hr2
    clear hr2 HR
    have hj : -16 ≤ j - 16 := by omega
    go_wp2_with (simp only [run3 j j0 j1])
    go_ret
    exact ⟨_, p + 2, rfl, drawn_quarter j j0 j1, ho.trans ho2, by omega, HR2.out⟩

def DrewWide (b p : Nat) (w : World) (e : Ending) (w' : World) : Prop :=
  ∃ x y q : Nat, e = .returned (.complex .f64 x y) ∧ Drawn x ∧ Drawn y ∧ Only b w w' ∧ q ≤ p + 4 ∧ Rd w' b q

set_option maxHeartbeats 1000000 in
theorem wide_any (b p : Nat) (w : World) (h : Rd w b p) (hp : p < 999980) :
    Calls Try.prog 36 #[.pointer (some ⟨b, 0, none⟩)] w (DrewWide b p w) := by
  go_enter Try.func36, Try.ntmps36
  go_wp2_with fail
  refine (float_any b p w h (by omega)).mono ?_
  rintro e w1 ⟨x, q, rfl, hx, ho, hq, hr⟩
  have HR := Lib.hid hr
  clear hr h
  go_wp2_with fail
  refine (float_any b q w1 HR.out (by omega)).mono ?_
  rintro e w2 ⟨y, q2, rfl, hy, ho2, hq2, hr2⟩
  have HR2 := Lib.hid hr2
  clear hr2 HR
  go_wp2_with fail
  go_ret
  exact ⟨x, y, q2, rfl, hx, hy, ho.trans ho2, by omega, HR2.out⟩

def DrewTwo (w : World) (e : Ending) (w' : World) : Prop :=
  ∃ a b c d : Nat, e = .returned (.tuple #[.complex .f64 a b, .complex .f64 c d]) ∧ Drawn a ∧ Drawn b ∧ Drawn c ∧ Drawn d ∧ Below w.heap.size w w'

set_option maxHeartbeats 1000000 in
theorem wides_any (a : Option Addr) (len cap : Nat) (w : World) (h : Code8 w a len cap) :
    Calls Try.prog 33 #[.slice a len cap] w (DrewTwo w) := by
  go_enter Try.func33, Try.ntmps33
  go_wp2_with fail
  refine (open_any a len cap w h).mono ?_
  rintro e w1 ⟨b, rfl, hb, bel, hr⟩
  have HR := Lib.hid hr
  clear hr h
  go_wp2_with fail
  refine (wide_any b 0 w1 HR.out (by omega)).mono ?_
  rintro e w2 ⟨x, y, q, rfl, hx, hy, ho, hq, hr⟩
  have HR2 := Lib.hid hr
  clear hr HR
  go_wp2_with fail
  refine (pick_any b q 4 w2 HR2.out (by omega) (by omega) (by omega)).mono ?_
  rintro e w3 ⟨k, rfl, k0, k1, ho3, hr⟩
  have HR3 := Lib.hid hr
  clear hr HR2
  have bel3 : Below w.heap.size w w3 := bel.trans ((ho.trans ho3).below bel.size hb)
  go_wp2_with fail
  · go_ret2
    exact ⟨x, y, x, y, rfl, hx, hy, hx, hy, bel3⟩
  · refine (wide_any b (q + 1) w3 HR3.out (by omega)).mono ?_
    rintro e w4 ⟨u, v, q4, rfl, hu, hv, ho4, hq4, hr⟩
    clear hr HR3
    go_wp2_with fail
    go_ret2
    exact ⟨x, y, u, v, rfl, hx, hy, hu, hv, bel3.trans (ho4.below bel3.size hb)⟩
end Go.Proofs.Ytfhdinhfjiilfab
