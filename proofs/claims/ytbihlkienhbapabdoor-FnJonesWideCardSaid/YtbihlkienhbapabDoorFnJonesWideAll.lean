/-
  Wide vectors: floats, the model, the program, the law.
-/
import Derived.Test.YtbihlkienhbapabDoorSpecSingle
import Derived.Test.YtbihlkienhbapabDoorSpecJones3
import Derived.Test.YtbihlkienhbapabDoorImplVec
import Derived.Test.YtbihlkienhbapabDoorImplSingle
import Derived.Test.YtbihlkienhbapabDoorBlk
import Derived.Laws.Cover3
import Derived.BigQuiet
import Derived.Test.YtbihlkienhbapabDoorSpecJones
import Derived.Test.YtbihlkienhbapabDoorImplTold
import Derived.Test.YtbihlkienhbapabDoorJonesMath
import Derived.Test.YtbihlkienhbapabDoorDrawJones
import Derived.Test.YtbihlkienhbapabDoorGave
import Derived.Test.YtbihlkienhbapabDoorImplJ1
import Derived.Test.YtbihlkienhbapabDoorImplWide
import Derived.Test.YtbihlkienhbapabDoorAlike
namespace Go.Proofs.YtbihlkienhbapabDoor
open Go.ChangeShapes Go.WideShapes Go.ChangeAt Go.RowKit
set_option linter.unusedVariables false

theorem narrow_num {x : Nat} {s : Bool} {m : Nat} {p : Int} (e : Ieee.double.read x = .number s m p) (h : m = 0 ∨ p + m.log2 ≤ 34) : ∃ r, floatToFloatBits .f64 x .f32 = some r ∧ isNk .f32 r = false := by
  have hw : Ieee.single.signWeight = 2 ^ 31 := by decide +kernel
  have hb : Ieee.single.binade = 2 ^ 23 := by decide +kernel
  have hi : Ieee.single.infRung = 255 * 2 ^ 23 := by decide +kernel
  have hl : Ieee.single.leastPlace = -149 := by decide +kernel
  have hf : Ieee.single.fractionBits = 23 := rfl
  have e' : FloatKind.f64.decode x = .number s m p := e
  have hr : ∃ r, FloatKind.f32.encode (.number s m p) = Ieee.single.word s r ∧ r < Ieee.single.infRung := by
    show ∃ r, Ieee.single.nearest s m p = Ieee.single.word s r ∧ r < Ieee.single.infRung
    by_cases h0 : m = 0
    · exact ⟨0, by unfold Ieee.Format.nearest; rw [if_pos h0], by rw [hi]; decide⟩
    · obtain ⟨r, e1, _, h2⟩ := nearest_rung Ieee.single s m p h0
      refine ⟨r, e1, ?_⟩
      rw [hl, hb, hf] at h2
      have h3 : p + m.log2 ≤ 34 := by rcases h with h | h; · exact absurd h h0
                                      · exact h
      have h4 : (max (p + (m.log2 : Int) - (23 : Nat)) (-149) - (-149)).toNat ≤ 160 := by omega
      have h5 := Nat.mul_le_mul_right (2 ^ 23) h4
      omega
  obtain ⟨r, e1, h1⟩ := hr
  refine ⟨FloatKind.f32.encode (.number s m p), ?_, ?_⟩
  · unfold floatToFloatBits
    rw [if_neg (by decide), e']
    simp only
    rw [if_neg]
    rw [e1]
    show ¬ (Ieee.single.read (Ieee.single.word s r)).isInfinity = true
    unfold Ieee.Format.read
    simp only [word_mod Ieee.single s r (by omega)]
    split
    · simp [Ieee.Datum.isInfinity]
    · simp [Ieee.Datum.isInfinity]
  · rw [e1]
    show (Ieee.single.read (Ieee.single.word s r)).isNaN = false
    unfold Ieee.Format.read
    simp only [word_mod Ieee.single s r (by omega)]
    split
    · simp [Ieee.Datum.isNaN]
    · simp [Ieee.Datum.isNaN]
/-- A part of a fraction as a wide float; its single float as a wide one. -/
def wideF (n d : Int) : Nat := fop .quo (floatOfInt .f64 n) (floatOfInt .f64 d)
def backF (n d : Int) : Nat := (floatToFloatBits .f32 (singleOf n d) .f64).getD 0
theorem wide_told {n d : Int} (hn : -2000000000 ≤ n ∧ n ≤ 2000000000) (hd : 1 ≤ d ∧ d ≤ 2000000000) {p : Nat} (hp : Same p (fop .quo (floatOfInt .f64 n) (floatOfInt .f64 d))) : p = wideF n d := by
  obtain ⟨P, hP, s, m, q, e, hb⟩ := quo_small (n := n) (d := d) (by omega) (by omega)
  have e1 : fop .quo (floatOfInt .f64 n) (floatOfInt .f64 d) = P := by unfold fop; rw [hP]; rfl
  unfold wideF
  rw [e1] at hp ⊢
  rcases hp with h | ⟨_, h⟩
  · exact h
  · rw [fbits_not_nan hP] at h; cases h
theorem wide_num {n d : Int} (hn : -2000000000 ≤ n ∧ n ≤ 2000000000) (hd : 1 ≤ d ∧ d ≤ 2000000000) : ∃ s m q, Ieee.double.read (wideF n d) = .number s m q ∧ (m = 0 ∨ q + m.log2 ≤ 34) := by
  obtain ⟨P, hP, s, m, q, e, hb⟩ := quo_small (n := n) (d := d) (by omega) (by omega)
  have e1 : wideF n d = P := by unfold wideF fop; rw [hP]; rfl
  rw [e1]
  exact ⟨s, m, q, e, hb⟩
theorem single_back {n d : Int} (hn : -2000000000 ≤ n ∧ n ≤ 2000000000) (hd : 1 ≤ d ∧ d ≤ 2000000000) : floatToFloatBits .f64 (wideF n d) .f32 = some (singleOf n d) ∧ floatToFloatBits .f32 (singleOf n d) .f64 = some (backF n d) := by
  obtain ⟨s, m, q, e, hb⟩ := wide_num hn hd
  obtain ⟨r, h1, h2⟩ := narrow_num e hb
  have hs : singleOf n d = r := by unfold singleOf; rw [show fop .quo (floatOfInt .f64 n) (floatOfInt .f64 d) = wideF n d from rfl, h1]; rfl
  refine ⟨by rw [hs]; exact h1, ?_⟩
  rcases widen_some (singleOf n d) with h | h
  · rw [hs, h2] at h; cases h
  · obtain ⟨b, hb⟩ := Option.isSome_iff_exists.1 h
    unfold backF
    rw [hb]; rfl
/-- A wide number that is the same when it is converted to a single one and back. -/
def fits1 (x y z : Int) : Bool := FloatKind.f64.format.order (backF x z) (wideF x z) == some .eq && FloatKind.f64.format.order (backF y z) (wideF y z) == some .eq
theorem order_flip (a b : Nat) : (FloatKind.f64.format.order a b == some .eq) = (FloatKind.f64.format.order b a == some .eq) := by
  rw [Bool.eq_iff_iff, beq_iff_eq, beq_iff_eq]
  exact ⟨order_eq_symm, order_eq_symm⟩
theorem fits1_flip (x y z : Int) : (FloatKind.f64.format.order (wideF x z) (backF x z) == some .eq && FloatKind.f64.format.order (wideF y z) (backF y z) == some .eq) = fits1 x y z := by
  unfold fits1
  rw [order_flip (wideF x z), order_flip (wideF y z)]
theorem back_conv {x y z : Int} (h : okF x y z = true) (P : Program) (s d : TypeId) (hs : (P.underlying s).isSome = true) (hd : P.underlying d = some (.complex .f32)) (w : World) : (convert s d (.complex .f64 (wideF x z) (wideF y z))).run P w = .ok (.complex .f32 (singleOf x z) (singleOf y z)) w := by
  obtain ⟨bx, by', bz⟩ := okF_bd h
  exact run_convert_complex w s d .f64 .f32 _ _ _ _ hs hd (by simp [cConvBits, (single_back bx bz).1, (single_back by' bz).1])
theorem forth_conv {x y z : Int} (h : okF x y z = true) (P : Program) (s d : TypeId) (hs : (P.underlying s).isSome = true) (hd : P.underlying d = some (.complex .f64)) (w : World) : (convert s d (.complex .f32 (singleOf x z) (singleOf y z))).run P w = .ok (.complex .f64 (backF x z) (backF y z)) w := by
  obtain ⟨bx, by', bz⟩ := okF_bd h
  exact run_convert_complex w s d .f32 .f64 _ _ _ _ hs hd (by simp [cConvBits, (single_back bx bz).2, (single_back by' bz).2])
def fitsF (x1 x2 x3 y1 y2 y3 : Int) : Bool := okF x1 x2 x3 && okF y1 y2 y3 && fits1 x1 x2 x3 && fits1 y1 y2 y3

theorem mwideT {x y z : Int} (h : okF x y z = true) (hx : i64B x) (hy : i64B y) (hz : i64B z) (w : World) : Calls Tryd.prog 78 #[.agg #[.int .i64 x, .int .i64 y, .int .i64 z]] w fun e w' => e = .returned (.tuple #[.complex .f64 (wideF x z) (wideF y z), .nilIface]) ∧ Below w.heap.size w w' := by
  obtain ⟨bx, by', bz⟩ := okF_bd h
  refine (mwide_any x y z w hx hy hz).mono fun e w' k => ?_
  obtain ⟨p, q, rfl, s1, s2⟩ := k.1 h
  rw [wide_told bx bz s1, wide_told by' bz s2]
  exact ⟨rfl, k.2.2⟩
theorem mwideN {x y z : Int} (h : okF x y z = false) (hx : i64B x) (hy : i64B y) (hz : i64B z) (w : World) : Calls Tryd.prog 78 #[.agg #[.int .i64 x, .int .i64 y, .int .i64 z]] w fun e w' => (∃ s, e = .returned (.tuple #[.complex .f64 0 0, .iface 104 (.agg #[.string s])])) ∧ Below w.heap.size w w' := (mwide_any x y z w hx hy hz).mono fun e w' k => ⟨k.2.1 h, k.2.2⟩
theorem msingleT {x y z : Int} (h : okF x y z = true) (hx : i64B x) (hy : i64B y) (hz : i64B z) (w : World) : Calls Tryd.prog 103 #[.agg #[.int .i64 x, .int .i64 y, .int .i64 z]] w fun e w' => e = .returned (.tuple #[.complex .f32 (singleOf x z) (singleOf y z), .nilIface]) ∧ Below w.heap.size w w' := (msingle_any x y z w hx hy hz).mono fun e w' k => ⟨k.1 h, k.2.2⟩
theorem msingleN {x y z : Int} (h : okF x y z = false) (hx : i64B x) (hy : i64B y) (hz : i64B z) (w : World) : Calls Tryd.prog 103 #[.agg #[.int .i64 x, .int .i64 y, .int .i64 z]] w fun e w' => (∃ s, e = .returned (.tuple #[.complex .f32 0 0, .iface 104 (.agg #[.string s])])) ∧ Below w.heap.size w w' := (msingle_any x y z w hx hy hz).mono fun e w' k => ⟨k.2.1 h, k.2.2⟩
set_option maxHeartbeats 1000000 in
theorem vwide0T (x1 x2 x3 y1 y2 y3 : Int) (hx1 : i64B x1) (hx2 : i64B x2) (hx3 : i64B x3) (hy1 : i64B y1) (hy2 : i64B y2) (hy3 : i64B y3) (h : okF x1 x2 x3 = true) (w : World) :
    Calls Tryd.prog 74 #[.agg #[.int .i64 x1, .int .i64 x2, .int .i64 x3, .int .i64 y1, .int .i64 y2, .int .i64 y3], .int .i64 0] w fun e w' => e = .returned (.tuple #[.complex .f64 (wideF x1 x3) (wideF x2 x3), .nilIface]) ∧ Below w.heap.size w w' := by
  have D := Lib.hid fun w => mwideT h hx1 hx2 hx3 w
  clear h hx1 hx2 hx3 hy1 hy2 hy3
  go_enter Tryd.func74, Tryd.ntmps74
  go_wp2_with fail
  refine (D.out _).mono ?_
  rintro e W1 ⟨rfl, hb⟩
  have Ba : Blk W1 (w.heap.size) [.int .i64 x1, .int .i64 x2, .int .i64 x3, .int .i64 y1, .int .i64 y2, .int .i64 y3] := Blk.keep hb (by repeat' (first | (with_reducible first | assumption | refine Blk.drew ?_ | refine Blk.drewN ?_ _ | apply Blk.set | (refine Blk.new ?_; focus (first | rfl | (simp; done))) | refine Blk.alloc ?_ _ | refine Blk.other ?_ ?_ _) | exact eqL rfl | (refine neB ?_; omega)))
  have ca := Ba.cell
  have fa := Ba.free
  have la_W1 := Ba.lt
  have kaW1 : Acc w W1 := by
    refine Acc.call ?_ hb
    (repeat' (first | (with_reducible first | assumption | exact Acc.refl _ | refine Acc.drew ?_ | refine Acc.drewN ?_ _ | refine Acc.alloc ?_ _ | refine Acc.setCell ?_ ?_ _) | (refine leB ?_; omega)))
  clear hb
  go_wp2_with fail
  go_ret2
  refine ⟨rfl, ?_⟩
  show Acc w _
  (repeat' (first | (with_reducible first | assumption | exact Acc.refl _ | refine Acc.drew ?_ | refine Acc.drewN ?_ _ | refine Acc.alloc ?_ _ | refine Acc.setCell ?_ ?_ _) | (refine leB ?_; omega)))
set_option maxHeartbeats 1000000 in
theorem vwide0N (x1 x2 x3 y1 y2 y3 : Int) (hx1 : i64B x1) (hx2 : i64B x2) (hx3 : i64B x3) (hy1 : i64B y1) (hy2 : i64B y2) (hy3 : i64B y3) (h : okF x1 x2 x3 = false) (w : World) :
    Calls Tryd.prog 74 #[.agg #[.int .i64 x1, .int .i64 x2, .int .i64 x3, .int .i64 y1, .int .i64 y2, .int .i64 y3], .int .i64 0] w fun e w' => (∃ s, e = .returned (.tuple #[.complex .f64 0 0, .iface 104 (.agg #[.string s])])) ∧ Below w.heap.size w w' := by
  have D := Lib.hid fun w => mwideN h hx1 hx2 hx3 w
  clear h hx1 hx2 hx3 hy1 hy2 hy3
  go_enter Tryd.func74, Tryd.ntmps74
  go_wp2_with fail
  refine (D.out _).mono ?_
  rintro e W1 ⟨⟨s, rfl⟩, hb⟩
  have Ba : Blk W1 (w.heap.size) [.int .i64 x1, .int .i64 x2, .int .i64 x3, .int .i64 y1, .int .i64 y2, .int .i64 y3] := Blk.keep hb (by repeat' (first | (with_reducible first | assumption | refine Blk.drew ?_ | refine Blk.drewN ?_ _ | apply Blk.set | (refine Blk.new ?_; focus (first | rfl | (simp; done))) | refine Blk.alloc ?_ _ | refine Blk.other ?_ ?_ _) | exact eqL rfl | (refine neB ?_; omega)))
  have ca := Ba.cell
  have fa := Ba.free
  have la_W1 := Ba.lt
  have kaW1 : Acc w W1 := by
    refine Acc.call ?_ hb
    (repeat' (first | (with_reducible first | assumption | exact Acc.refl _ | refine Acc.drew ?_ | refine Acc.drewN ?_ _ | refine Acc.alloc ?_ _ | refine Acc.setCell ?_ ?_ _) | (refine leB ?_; omega)))
  clear hb
  go_wp2_with fail
  go_ret2
  refine ⟨⟨_, rfl⟩, ?_⟩
  show Acc w _
  (repeat' (first | (with_reducible first | assumption | exact Acc.refl _ | refine Acc.drew ?_ | refine Acc.drewN ?_ _ | refine Acc.alloc ?_ _ | refine Acc.setCell ?_ ?_ _) | (refine leB ?_; omega)))
set_option maxHeartbeats 1000000 in
theorem vwide1T (x1 x2 x3 y1 y2 y3 : Int) (hx1 : i64B x1) (hx2 : i64B x2) (hx3 : i64B x3) (hy1 : i64B y1) (hy2 : i64B y2) (hy3 : i64B y3) (h : okF y1 y2 y3 = true) (w : World) :
    Calls Tryd.prog 74 #[.agg #[.int .i64 x1, .int .i64 x2, .int .i64 x3, .int .i64 y1, .int .i64 y2, .int .i64 y3], .int .i64 1] w fun e w' => e = .returned (.tuple #[.complex .f64 (wideF y1 y3) (wideF y2 y3), .nilIface]) ∧ Below w.heap.size w w' := by
  have D := Lib.hid fun w => mwideT h hy1 hy2 hy3 w
  clear h hx1 hx2 hx3 hy1 hy2 hy3
  go_enter Tryd.func74, Tryd.ntmps74
  go_wp2_with fail
  refine (D.out _).mono ?_
  rintro e W1 ⟨rfl, hb⟩
  have Ba : Blk W1 (w.heap.size) [.int .i64 x1, .int .i64 x2, .int .i64 x3, .int .i64 y1, .int .i64 y2, .int .i64 y3] := Blk.keep hb (by repeat' (first | (with_reducible first | assumption | refine Blk.drew ?_ | refine Blk.drewN ?_ _ | apply Blk.set | (refine Blk.new ?_; focus (first | rfl | (simp; done))) | refine Blk.alloc ?_ _ | refine Blk.other ?_ ?_ _) | exact eqL rfl | (refine neB ?_; omega)))
  have ca := Ba.cell
  have fa := Ba.free
  have la_W1 := Ba.lt
  have kaW1 : Acc w W1 := by
    refine Acc.call ?_ hb
    (repeat' (first | (with_reducible first | assumption | exact Acc.refl _ | refine Acc.drew ?_ | refine Acc.drewN ?_ _ | refine Acc.alloc ?_ _ | refine Acc.setCell ?_ ?_ _) | (refine leB ?_; omega)))
  clear hb
  go_wp2_with fail
  go_ret2
  refine ⟨rfl, ?_⟩
  show Acc w _
  (repeat' (first | (with_reducible first | assumption | exact Acc.refl _ | refine Acc.drew ?_ | refine Acc.drewN ?_ _ | refine Acc.alloc ?_ _ | refine Acc.setCell ?_ ?_ _) | (refine leB ?_; omega)))
set_option maxHeartbeats 1000000 in
theorem vwide1N (x1 x2 x3 y1 y2 y3 : Int) (hx1 : i64B x1) (hx2 : i64B x2) (hx3 : i64B x3) (hy1 : i64B y1) (hy2 : i64B y2) (hy3 : i64B y3) (h : okF y1 y2 y3 = false) (w : World) :
    Calls Tryd.prog 74 #[.agg #[.int .i64 x1, .int .i64 x2, .int .i64 x3, .int .i64 y1, .int .i64 y2, .int .i64 y3], .int .i64 1] w fun e w' => (∃ s, e = .returned (.tuple #[.complex .f64 0 0, .iface 104 (.agg #[.string s])])) ∧ Below w.heap.size w w' := by
  have D := Lib.hid fun w => mwideN h hy1 hy2 hy3 w
  clear h hx1 hx2 hx3 hy1 hy2 hy3
  go_enter Tryd.func74, Tryd.ntmps74
  go_wp2_with fail
  refine (D.out _).mono ?_
  rintro e W1 ⟨⟨s, rfl⟩, hb⟩
  have Ba : Blk W1 (w.heap.size) [.int .i64 x1, .int .i64 x2, .int .i64 x3, .int .i64 y1, .int .i64 y2, .int .i64 y3] := Blk.keep hb (by repeat' (first | (with_reducible first | assumption | refine Blk.drew ?_ | refine Blk.drewN ?_ _ | apply Blk.set | (refine Blk.new ?_; focus (first | rfl | (simp; done))) | refine Blk.alloc ?_ _ | refine Blk.other ?_ ?_ _) | exact eqL rfl | (refine neB ?_; omega)))
  have ca := Ba.cell
  have fa := Ba.free
  have la_W1 := Ba.lt
  have kaW1 : Acc w W1 := by
    refine Acc.call ?_ hb
    (repeat' (first | (with_reducible first | assumption | exact Acc.refl _ | refine Acc.drew ?_ | refine Acc.drewN ?_ _ | refine Acc.alloc ?_ _ | refine Acc.setCell ?_ ?_ _) | (refine leB ?_; omega)))
  clear hb
  go_wp2_with fail
  go_ret2
  refine ⟨⟨_, rfl⟩, ?_⟩
  show Acc w _
  (repeat' (first | (with_reducible first | assumption | exact Acc.refl _ | refine Acc.drew ?_ | refine Acc.drewN ?_ _ | refine Acc.alloc ?_ _ | refine Acc.setCell ?_ ?_ _) | (refine leB ?_; omega)))
/-- What 'both' makes of both parts. -/
def Both_wide (x1 x2 x3 y1 y2 y3 : Int) (w : World) (e : Ending) (w' : World) : Prop :=
  ((okF x1 x2 x3 && okF y1 y2 y3) = true → e = .returned (.tuple #[.agg #[.complex .f64 (wideF x1 x3) (wideF x2 x3), .complex .f64 (wideF y1 y3) (wideF y2 y3)], .nilIface])) ∧ ((okF x1 x2 x3 && okF y1 y2 y3) = false → ∃ s, e = .returned (.tuple #[.agg #[.complex .f64 0 0, .complex .f64 0 0], .iface 104 (.agg #[.string s])])) ∧ Below w.heap.size w w'
set_option maxHeartbeats 2000000 in
theorem both_wide (x1 x2 x3 y1 y2 y3 : Int) (hx1 : i64B x1) (hx2 : i64B x2) (hx3 : i64B x3) (hy1 : i64B y1) (hy2 : i64B y2) (hy3 : i64B y3) (w : World) :
    Calls Tryd.prog 73 #[.func (.func 74) #[.agg #[.int .i64 x1, .int .i64 x2, .int .i64 x3, .int .i64 y1, .int .i64 y2, .int .i64 y3]] #[]] w (Both_wide x1 x2 x3 y1 y2 y3 w) := by
  unfold Both_wide
  cases hX : okF x1 x2 x3 with
  | false =>
    have D := Lib.hid fun w => vwide0N x1 x2 x3 y1 y2 y3 hx1 hx2 hx3 hy1 hy2 hy3 hX w
    clear hX hx1 hx2 hx3 hy1 hy2 hy3
    have hsc : ∀ (a : Addr) (k : FloatKind) (p q : Nat) (m : Mode) (w : World), (store a (.complex k p q) m).run Tryd.prog w = stored Tryd.prog w a (.complex k p q) m := fun a k p q m w => run_store Tryd.prog w a _ m rfl
    go_enter Tryd.func73, Tryd.ntmps73
    go_wp2_with fail
    refine wp_loop_rounds 3 ?_
    rw [rounds_succ]
    go_wp2_with fail
    refine (D.out _).mono ?_
    rintro e W1 ⟨⟨s, rfl⟩, hb⟩
    have Br : Blk W1 (w.heap.size) [.complex .f64 0 0, .complex .f64 0 0] := Blk.keep hb (by repeat' (first | (with_reducible first | assumption | refine Blk.drew ?_ | refine Blk.drewN ?_ _ | apply Blk.set | (refine Blk.new ?_; focus (first | rfl | (simp; done))) | refine Blk.alloc ?_ _ | refine Blk.other ?_ ?_ _) | exact eqL rfl | (refine neB ?_; omega)))
    have Bp : Blk W1 (w.heap.size + 1) [.complex .f64 0 0, .complex .f64 0 0] := Blk.keep hb (by repeat' (first | (with_reducible first | assumption | refine Blk.drew ?_ | refine Blk.drewN ?_ _ | apply Blk.set | (refine Blk.new ?_; focus (first | rfl | (simp; done))) | refine Blk.alloc ?_ _ | refine Blk.other ?_ ?_ _) | exact eqL rfl | (refine neB ?_; omega)))
    have cr := Br.cell
    have fr := Br.free
    have lr_W1 := Br.lt
    have cp := Bp.cell
    have fp := Bp.free
    have lp_W1 := Bp.lt
    have kaW1 : Acc w W1 := by
      refine Acc.call ?_ hb
      (repeat' (first | (with_reducible first | assumption | exact Acc.refl _ | refine Acc.drew ?_ | refine Acc.drewN ?_ _ | refine Acc.alloc ?_ _ | refine Acc.setCell ?_ ?_ _) | (refine leB ?_; omega)))
    clear hb
    go_wp2_with fail
    refine bodyPost_ret (v := .tuple #[.agg #[.complex .f64 0 0, .complex .f64 0 0], .iface 104 (.agg #[.string s])]) (by simp [results, Tryd.results73, go_sem, *]) rfl ⟨fun h => (by cases h), fun _ => ⟨_, rfl⟩, ?_⟩
    show Acc w _
    (repeat' (first | (with_reducible first | assumption | exact Acc.refl _ | refine Acc.drew ?_ | refine Acc.drewN ?_ _ | refine Acc.alloc ?_ _ | refine Acc.setCell ?_ ?_ _) | (refine leB ?_; omega)))
  | true =>
    cases hY : okF y1 y2 y3 with
    | false =>
      have D := Lib.hid fun w => vwide0T x1 x2 x3 y1 y2 y3 hx1 hx2 hx3 hy1 hy2 hy3 hX w
      have E := Lib.hid fun w => vwide1N x1 x2 x3 y1 y2 y3 hx1 hx2 hx3 hy1 hy2 hy3 hY w
      clear hX hY hx1 hx2 hx3 hy1 hy2 hy3
      have hsc : ∀ (a : Addr) (k : FloatKind) (p q : Nat) (m : Mode) (w : World), (store a (.complex k p q) m).run Tryd.prog w = stored Tryd.prog w a (.complex k p q) m := fun a k p q m w => run_store Tryd.prog w a _ m rfl
      go_enter Tryd.func73, Tryd.ntmps73
      go_wp2_with fail
      refine wp_loop_rounds 3 ?_
      rw [rounds_succ]
      go_wp2_with fail
      refine (D.out _).mono ?_
      rintro e W1 ⟨rfl, hb⟩
      have Br : Blk W1 (w.heap.size) [.complex .f64 0 0, .complex .f64 0 0] := Blk.keep hb (by repeat' (first | (with_reducible first | assumption | refine Blk.drew ?_ | refine Blk.drewN ?_ _ | apply Blk.set | (refine Blk.new ?_; focus (first | rfl | (simp; done))) | refine Blk.alloc ?_ _ | refine Blk.other ?_ ?_ _) | exact eqL rfl | (refine neB ?_; omega)))
      have Bp : Blk W1 (w.heap.size + 1) [.complex .f64 0 0, .complex .f64 0 0] := Blk.keep hb (by repeat' (first | (with_reducible first | assumption | refine Blk.drew ?_ | refine Blk.drewN ?_ _ | apply Blk.set | (refine Blk.new ?_; focus (first | rfl | (simp; done))) | refine Blk.alloc ?_ _ | refine Blk.other ?_ ?_ _) | exact eqL rfl | (refine neB ?_; omega)))
      have cr := Br.cell
      have fr := Br.free
      have lr_W1 := Br.lt
      have cp := Bp.cell
      have fp := Bp.free
      have lp_W1 := Bp.lt
      have kaW1 : Acc w W1 := by
        refine Acc.call ?_ hb
        (repeat' (first | (with_reducible first | assumption | exact Acc.refl _ | refine Acc.drew ?_ | refine Acc.drewN ?_ _ | refine Acc.alloc ?_ _ | refine Acc.setCell ?_ ?_ _) | (refine leB ?_; omega)))
      clear hb
      go_wp2_with fail
      rw [rounds_succ]
      go_wp2_with fail
      refine (E.out _).mono ?_
      rintro e W2 ⟨⟨s, rfl⟩, hb⟩
      have Br : Blk W2 (w.heap.size) [.complex .f64 0 0, .complex .f64 0 0] := Blk.keep hb (by repeat' (first | (with_reducible first | assumption | refine Blk.drew ?_ | refine Blk.drewN ?_ _ | apply Blk.set | (refine Blk.new ?_; focus (first | rfl | (simp; done))) | refine Blk.alloc ?_ _ | refine Blk.other ?_ ?_ _) | exact eqL rfl | (refine neB ?_; omega)))
      have Bp : Blk W2 (w.heap.size + 1) [.complex .f64 (wideF x1 x3) (wideF x2 x3), .complex .f64 0 0] := Blk.keep hb (by repeat' (first | (with_reducible first | assumption | refine Blk.drew ?_ | refine Blk.drewN ?_ _ | apply Blk.set | (refine Blk.new ?_; focus (first | rfl | (simp; done))) | refine Blk.alloc ?_ _ | refine Blk.other ?_ ?_ _) | exact eqL rfl | (refine neB ?_; omega)))
      have cr := Br.cell
      have fr := Br.free
      have lr_W2 := Br.lt
      have cp := Bp.cell
      have fp := Bp.free
      have lp_W2 := Bp.lt
      have kaW2 : Acc w W2 := by
        refine Acc.call ?_ hb
        (repeat' (first | (with_reducible first | assumption | exact Acc.refl _ | refine Acc.drew ?_ | refine Acc.drewN ?_ _ | refine Acc.alloc ?_ _ | refine Acc.setCell ?_ ?_ _) | (refine leB ?_; omega)))
      clear hb
      go_wp2_with fail
      refine bodyPost_ret (v := .tuple #[.agg #[.complex .f64 0 0, .complex .f64 0 0], .iface 104 (.agg #[.string s])]) (by simp [results, Tryd.results73, go_sem, *]) rfl ⟨fun h => (by cases h), fun _ => ⟨_, rfl⟩, ?_⟩
      show Acc w _
      (repeat' (first | (with_reducible first | assumption | exact Acc.refl _ | refine Acc.drew ?_ | refine Acc.drewN ?_ _ | refine Acc.alloc ?_ _ | refine Acc.setCell ?_ ?_ _) | (refine leB ?_; omega)))
    | true =>
      have D := Lib.hid fun w => vwide0T x1 x2 x3 y1 y2 y3 hx1 hx2 hx3 hy1 hy2 hy3 hX w
      have E := Lib.hid fun w => vwide1T x1 x2 x3 y1 y2 y3 hx1 hx2 hx3 hy1 hy2 hy3 hY w
      clear hX hY hx1 hx2 hx3 hy1 hy2 hy3
      have hsc : ∀ (a : Addr) (k : FloatKind) (p q : Nat) (m : Mode) (w : World), (store a (.complex k p q) m).run Tryd.prog w = stored Tryd.prog w a (.complex k p q) m := fun a k p q m w => run_store Tryd.prog w a _ m rfl
      go_enter Tryd.func73, Tryd.ntmps73
      go_wp2_with fail
      refine wp_loop_rounds 3 ?_
      rw [rounds_succ]
      go_wp2_with fail
      refine (D.out _).mono ?_
      rintro e W1 ⟨rfl, hb⟩
      have Br : Blk W1 (w.heap.size) [.complex .f64 0 0, .complex .f64 0 0] := Blk.keep hb (by repeat' (first | (with_reducible first | assumption | refine Blk.drew ?_ | refine Blk.drewN ?_ _ | apply Blk.set | (refine Blk.new ?_; focus (first | rfl | (simp; done))) | refine Blk.alloc ?_ _ | refine Blk.other ?_ ?_ _) | exact eqL rfl | (refine neB ?_; omega)))
      have Bp : Blk W1 (w.heap.size + 1) [.complex .f64 0 0, .complex .f64 0 0] := Blk.keep hb (by repeat' (first | (with_reducible first | assumption | refine Blk.drew ?_ | refine Blk.drewN ?_ _ | apply Blk.set | (refine Blk.new ?_; focus (first | rfl | (simp; done))) | refine Blk.alloc ?_ _ | refine Blk.other ?_ ?_ _) | exact eqL rfl | (refine neB ?_; omega)))
      have cr := Br.cell
      have fr := Br.free
      have lr_W1 := Br.lt
      have cp := Bp.cell
      have fp := Bp.free
      have lp_W1 := Bp.lt
      have kaW1 : Acc w W1 := by
        refine Acc.call ?_ hb
        (repeat' (first | (with_reducible first | assumption | exact Acc.refl _ | refine Acc.drew ?_ | refine Acc.drewN ?_ _ | refine Acc.alloc ?_ _ | refine Acc.setCell ?_ ?_ _) | (refine leB ?_; omega)))
      clear hb
      go_wp2_with fail
      rw [rounds_succ]
      go_wp2_with fail
      refine (E.out _).mono ?_
      rintro e W2 ⟨rfl, hb⟩
      have Br : Blk W2 (w.heap.size) [.complex .f64 0 0, .complex .f64 0 0] := Blk.keep hb (by repeat' (first | (with_reducible first | assumption | refine Blk.drew ?_ | refine Blk.drewN ?_ _ | apply Blk.set | (refine Blk.new ?_; focus (first | rfl | (simp; done))) | refine Blk.alloc ?_ _ | refine Blk.other ?_ ?_ _) | exact eqL rfl | (refine neB ?_; omega)))
      have Bp : Blk W2 (w.heap.size + 1) [.complex .f64 (wideF x1 x3) (wideF x2 x3), .complex .f64 0 0] := Blk.keep hb (by repeat' (first | (with_reducible first | assumption | refine Blk.drew ?_ | refine Blk.drewN ?_ _ | apply Blk.set | (refine Blk.new ?_; focus (first | rfl | (simp; done))) | refine Blk.alloc ?_ _ | refine Blk.other ?_ ?_ _) | exact eqL rfl | (refine neB ?_; omega)))
      have cr := Br.cell
      have fr := Br.free
      have lr_W2 := Br.lt
      have cp := Bp.cell
      have fp := Bp.free
      have lp_W2 := Bp.lt
      have kaW2 : Acc w W2 := by
        refine Acc.call ?_ hb
        (repeat' (first | (with_reducible first | assumption | exact Acc.refl _ | refine Acc.drew ?_ | refine Acc.drewN ?_ _ | refine Acc.alloc ?_ _ | refine Acc.setCell ?_ ?_ _) | (refine leB ?_; omega)))
      clear hb
      go_wp2_with fail
      rw [rounds_succ]
      go_wp2_with fail
      refine bodyPost_ret (v := .tuple #[.agg #[.complex .f64 (wideF x1 x3) (wideF x2 x3), .complex .f64 (wideF y1 y3) (wideF y2 y3)], .nilIface]) (by simp [results, Tryd.results73, go_sem, *]) rfl ⟨fun _ => rfl, fun h => (by cases h), ?_⟩
      show Acc w _
      (repeat' (first | (with_reducible first | assumption | exact Acc.refl _ | refine Acc.drew ?_ | refine Acc.drewN ?_ _ | refine Acc.alloc ?_ _ | refine Acc.setCell ?_ ?_ _) | (refine leB ?_; omega)))
set_option maxHeartbeats 1000000 in
theorem told_wide_ok (p q r s : Nat) (w : World) : Calls Tryd.prog 72 #[.agg #[.complex .f64 p q, .complex .f64 r s], .nilIface] w fun e w' => e = .returned (.tuple #[.agg #[.complex .f64 p q, .complex .f64 r s], .bool true]) ∧ Below w.heap.size w w' := by
  have hsc : ∀ (a : Addr) (k : FloatKind) (p q : Nat) (m : Mode) (w : World), (store a (.complex k p q) m).run Tryd.prog w = stored Tryd.prog w a (.complex k p q) m := fun a k p q m w => run_store Tryd.prog w a _ m rfl
  go_enter Tryd.func72, Tryd.ntmps72
  go_wp2_with fail
  refine (isNone_nil _).mono ?_
  rintro e W1 ⟨rfl, hb⟩
  have Ba : Blk W1 (w.heap.size) [.complex .f64 p q, .complex .f64 r s] := Blk.keep hb (by repeat' (first | (with_reducible first | assumption | refine Blk.drew ?_ | refine Blk.drewN ?_ _ | apply Blk.set | (refine Blk.new ?_; focus (first | rfl | (simp; done))) | refine Blk.alloc ?_ _ | refine Blk.other ?_ ?_ _) | exact eqL rfl | (refine neB ?_; omega)))
  have Br : Blk W1 (w.heap.size + 1) [.complex .f64 0 0, .complex .f64 0 0] := Blk.keep hb (by repeat' (first | (with_reducible first | assumption | refine Blk.drew ?_ | refine Blk.drewN ?_ _ | apply Blk.set | (refine Blk.new ?_; focus (first | rfl | (simp; done))) | refine Blk.alloc ?_ _ | refine Blk.other ?_ ?_ _) | exact eqL rfl | (refine neB ?_; omega)))
  have ca := Ba.cell
  have fa := Ba.free
  have la_W1 := Ba.lt
  have cr := Br.cell
  have fr := Br.free
  have lr_W1 := Br.lt
  have kaW1 : Acc w W1 := by
    refine Acc.call ?_ hb
    (repeat' (first | (with_reducible first | assumption | exact Acc.refl _ | refine Acc.drew ?_ | refine Acc.drewN ?_ _ | refine Acc.alloc ?_ _ | refine Acc.setCell ?_ ?_ _) | (refine leB ?_; omega)))
  clear hb
  go_wp2_with fail
  refine bodyPost_ret (v := .tuple #[.agg #[.complex .f64 p q, .complex .f64 r s], .bool true]) (by simp [results, Tryd.results72, go_sem, *]) rfl ⟨rfl, ?_⟩
  show Acc w _
  (repeat' (first | (with_reducible first | assumption | exact Acc.refl _ | refine Acc.drew ?_ | refine Acc.drewN ?_ _ | refine Acc.alloc ?_ _ | refine Acc.setCell ?_ ?_ _) | (refine leB ?_; omega)))
set_option maxHeartbeats 1000000 in
theorem told_wide_err (p q r s : Nat) (t : ByteArray) (w : World) (hl : Laid w) : Calls Tryd.prog 72 #[.agg #[.complex .f64 p q, .complex .f64 r s], .iface 104 (.agg #[.string t])] w fun e w' => e = .returned (.tuple #[.agg #[.complex .f64 0 0, .complex .f64 0 0], .bool false]) ∧ Below w.heap.size w w' := by
  have HL := Lib.hid fun W (k : Acc w W) => hl.acc k
  clear hl
  have hsc : ∀ (a : Addr) (k : FloatKind) (p q : Nat) (m : Mode) (w : World), (store a (.complex k p q) m).run Tryd.prog w = stored Tryd.prog w a (.complex k p q) m := fun a k p q m w => run_store Tryd.prog w a _ m rfl
  go_enter Tryd.func72, Tryd.ntmps72
  go_wp2_with fail
  refine (isNone_hit t _ (HL.out _ (by repeat' (first | (with_reducible first | assumption | exact Acc.refl _ | refine Acc.drew ?_ | refine Acc.drewN ?_ _ | refine Acc.alloc ?_ _ | refine Acc.setCell ?_ ?_ _) | (refine leB ?_; omega))))).mono ?_
  rintro e W1 ⟨rfl, hb⟩
  have Ba : Blk W1 (w.heap.size) [.complex .f64 p q, .complex .f64 r s] := Blk.keep hb (by repeat' (first | (with_reducible first | assumption | refine Blk.drew ?_ | refine Blk.drewN ?_ _ | apply Blk.set | (refine Blk.new ?_; focus (first | rfl | (simp; done))) | refine Blk.alloc ?_ _ | refine Blk.other ?_ ?_ _) | exact eqL rfl | (refine neB ?_; omega)))
  have Br : Blk W1 (w.heap.size + 1) [.complex .f64 0 0, .complex .f64 0 0] := Blk.keep hb (by repeat' (first | (with_reducible first | assumption | refine Blk.drew ?_ | refine Blk.drewN ?_ _ | apply Blk.set | (refine Blk.new ?_; focus (first | rfl | (simp; done))) | refine Blk.alloc ?_ _ | refine Blk.other ?_ ?_ _) | exact eqL rfl | (refine neB ?_; omega)))
  have ca := Ba.cell
  have fa := Ba.free
  have la_W1 := Ba.lt
  have cr := Br.cell
  have fr := Br.free
  have lr_W1 := Br.lt
  have kaW1 : Acc w W1 := by
    refine Acc.call ?_ hb
    (repeat' (first | (with_reducible first | assumption | exact Acc.refl _ | refine Acc.drew ?_ | refine Acc.drewN ?_ _ | refine Acc.alloc ?_ _ | refine Acc.setCell ?_ ?_ _) | (refine leB ?_; omega)))
  clear hb
  go_wp2_with fail
  refine bodyPost_ret (v := .tuple #[.agg #[.complex .f64 0 0, .complex .f64 0 0], .bool false]) (by simp [results, Tryd.results72, go_sem, *]) rfl ⟨rfl, ?_⟩
  show Acc w _
  (repeat' (first | (with_reducible first | assumption | exact Acc.refl _ | refine Acc.drew ?_ | refine Acc.drewN ?_ _ | refine Acc.alloc ?_ _ | refine Acc.setCell ?_ ?_ _) | (refine leB ?_; omega)))

theorem specWideT {x y z : Int} (h : okF x y z = true) (w : World) : Calls Tryd.prog 75 #[.agg #[.int .i64 x, .int .i64 y, .int .i64 z]] w fun e w' => e = .returned (.tuple #[.complex .f64 (wideF x z) (wideF y z), .bool true]) ∧ Below w.heap.size w w' := by
  obtain ⟨bx, by', bz⟩ := okF_bd h
  refine (specWide_any x y z w).mono fun e w' k => ?_
  obtain ⟨p, q, rfl, s1, s2⟩ := k.1 h
  rw [wide_told bx bz s1, wide_told by' bz s2]
  exact ⟨rfl, k.2.2⟩
theorem specWideN {x y z : Int} (h : okF x y z = false) (w : World) : Calls Tryd.prog 75 #[.agg #[.int .i64 x, .int .i64 y, .int .i64 z]] w fun e w' => e = .returned (.tuple #[.complex .f64 0 0, .bool false]) ∧ Below w.heap.size w w' := (specWide_any x y z w).mono fun e w' k => ⟨k.2.1 h, k.2.2⟩
/-- Both wide numbers and true, or both 0 and false. -/
def JWideT (x1 x2 x3 y1 y2 y3 : Int) (w : World) (e : Ending) (w' : World) : Prop :=
  ((okF x1 x2 x3 && okF y1 y2 y3) = true → e = .returned (.tuple #[.complex .f64 (wideF x1 x3) (wideF x2 x3), .complex .f64 (wideF y1 y3) (wideF y2 y3), .bool true])) ∧ ((okF x1 x2 x3 && okF y1 y2 y3) = false → e = .returned (.tuple #[.complex .f64 0 0, .complex .f64 0 0, .bool false])) ∧ Below w.heap.size w w'
set_option maxHeartbeats 2000000 in
theorem specJWideT (x1 x2 x3 y1 y2 y3 : Int) (w : World) : Calls Tryd.prog 37 #[.agg #[.int .i64 x1, .int .i64 x2, .int .i64 x3, .int .i64 y1, .int .i64 y2, .int .i64 y3]] w (JWideT x1 x2 x3 y1 y2 y3 w) := by
  unfold JWideT
  cases hX : okF x1 x2 x3 with
  | false =>
    have HX := Lib.hid hX
    clear hX
    cases hY : okF y1 y2 y3 with
    | false =>
      have HY := Lib.hid hY
      clear hY
      go_enter Tryd.func37, Tryd.ntmps37
      go_wp2_with fail
      refine (specWideN HX.out _).mono ?_
      rintro e W1 ⟨rfl, hb⟩
      have Ba : Blk W1 (w.heap.size) [.int .i64 x1, .int .i64 x2, .int .i64 x3, .int .i64 y1, .int .i64 y2, .int .i64 y3] := Blk.keep hb (by repeat' (first | (with_reducible first | assumption | refine Blk.drew ?_ | refine Blk.drewN ?_ _ | apply Blk.set | (refine Blk.new ?_; focus (first | rfl | (simp; done))) | refine Blk.alloc ?_ _ | refine Blk.other ?_ ?_ _) | exact eqL rfl | (refine neB ?_; omega)))
      have ca := Ba.cell
      have fa := Ba.free
      have la_W1 := Ba.lt
      have kaW1 : Acc w W1 := by
        refine Acc.call ?_ hb
        (repeat' (first | (with_reducible first | assumption | exact Acc.refl _ | refine Acc.drew ?_ | refine Acc.drewN ?_ _ | refine Acc.alloc ?_ _ | refine Acc.setCell ?_ ?_ _) | (refine leB ?_; omega)))
      clear hb
      go_wp2_with fail
      refine (specWideN HY.out _).mono ?_
      rintro e W2 ⟨rfl, hb⟩
      have Ba : Blk W2 (w.heap.size) [.int .i64 x1, .int .i64 x2, .int .i64 x3, .int .i64 y1, .int .i64 y2, .int .i64 y3] := Blk.keep hb (by repeat' (first | (with_reducible first | assumption | refine Blk.drew ?_ | refine Blk.drewN ?_ _ | apply Blk.set | (refine Blk.new ?_; focus (first | rfl | (simp; done))) | refine Blk.alloc ?_ _ | refine Blk.other ?_ ?_ _) | exact eqL rfl | (refine neB ?_; omega)))
      have ca := Ba.cell
      have fa := Ba.free
      have la_W2 := Ba.lt
      have kaW2 : Acc w W2 := by
        refine Acc.call ?_ hb
        (repeat' (first | (with_reducible first | assumption | exact Acc.refl _ | refine Acc.drew ?_ | refine Acc.drewN ?_ _ | refine Acc.alloc ?_ _ | refine Acc.setCell ?_ ?_ _) | (refine leB ?_; omega)))
      clear hb
      go_wp2_with fail
      go_ret3
      exact ⟨fun h => (by cases h), fun _ => rfl, kaW2⟩
    | true =>
      have HY := Lib.hid hY
      clear hY
      go_enter Tryd.func37, Tryd.ntmps37
      go_wp2_with fail
      refine (specWideN HX.out _).mono ?_
      rintro e W1 ⟨rfl, hb⟩
      have Ba : Blk W1 (w.heap.size) [.int .i64 x1, .int .i64 x2, .int .i64 x3, .int .i64 y1, .int .i64 y2, .int .i64 y3] := Blk.keep hb (by repeat' (first | (with_reducible first | assumption | refine Blk.drew ?_ | refine Blk.drewN ?_ _ | apply Blk.set | (refine Blk.new ?_; focus (first | rfl | (simp; done))) | refine Blk.alloc ?_ _ | refine Blk.other ?_ ?_ _) | exact eqL rfl | (refine neB ?_; omega)))
      have ca := Ba.cell
      have fa := Ba.free
      have la_W1 := Ba.lt
      have kaW1 : Acc w W1 := by
        refine Acc.call ?_ hb
        (repeat' (first | (with_reducible first | assumption | exact Acc.refl _ | refine Acc.drew ?_ | refine Acc.drewN ?_ _ | refine Acc.alloc ?_ _ | refine Acc.setCell ?_ ?_ _) | (refine leB ?_; omega)))
      clear hb
      go_wp2_with fail
      refine (specWideT HY.out _).mono ?_
      rintro e W2 ⟨rfl, hb⟩
      have Ba : Blk W2 (w.heap.size) [.int .i64 x1, .int .i64 x2, .int .i64 x3, .int .i64 y1, .int .i64 y2, .int .i64 y3] := Blk.keep hb (by repeat' (first | (with_reducible first | assumption | refine Blk.drew ?_ | refine Blk.drewN ?_ _ | apply Blk.set | (refine Blk.new ?_; focus (first | rfl | (simp; done))) | refine Blk.alloc ?_ _ | refine Blk.other ?_ ?_ _) | exact eqL rfl | (refine neB ?_; omega)))
      have ca := Ba.cell
      have fa := Ba.free
      have la_W2 := Ba.lt
      have kaW2 : Acc w W2 := by
        refine Acc.call ?_ hb
        (repeat' (first | (with_reducible first | assumption | exact Acc.refl _ | refine Acc.drew ?_ | refine Acc.drewN ?_ _ | refine Acc.alloc ?_ _ | refine Acc.setCell ?_ ?_ _) | (refine leB ?_; omega)))
      clear hb
      go_wp2_with fail
      go_ret3
      exact ⟨fun h => (by cases h), fun _ => rfl, kaW2⟩
  | true =>
    have HX := Lib.hid hX
    clear hX
    cases hY : okF y1 y2 y3 with
    | false =>
      have HY := Lib.hid hY
      clear hY
      go_enter Tryd.func37, Tryd.ntmps37
      go_wp2_with fail
      refine (specWideT HX.out _).mono ?_
      rintro e W1 ⟨rfl, hb⟩
      have Ba : Blk W1 (w.heap.size) [.int .i64 x1, .int .i64 x2, .int .i64 x3, .int .i64 y1, .int .i64 y2, .int .i64 y3] := Blk.keep hb (by repeat' (first | (with_reducible first | assumption | refine Blk.drew ?_ | refine Blk.drewN ?_ _ | apply Blk.set | (refine Blk.new ?_; focus (first | rfl | (simp; done))) | refine Blk.alloc ?_ _ | refine Blk.other ?_ ?_ _) | exact eqL rfl | (refine neB ?_; omega)))
      have ca := Ba.cell
      have fa := Ba.free
      have la_W1 := Ba.lt
      have kaW1 : Acc w W1 := by
        refine Acc.call ?_ hb
        (repeat' (first | (with_reducible first | assumption | exact Acc.refl _ | refine Acc.drew ?_ | refine Acc.drewN ?_ _ | refine Acc.alloc ?_ _ | refine Acc.setCell ?_ ?_ _) | (refine leB ?_; omega)))
      clear hb
      go_wp2_with fail
      refine (specWideN HY.out _).mono ?_
      rintro e W2 ⟨rfl, hb⟩
      have Ba : Blk W2 (w.heap.size) [.int .i64 x1, .int .i64 x2, .int .i64 x3, .int .i64 y1, .int .i64 y2, .int .i64 y3] := Blk.keep hb (by repeat' (first | (with_reducible first | assumption | refine Blk.drew ?_ | refine Blk.drewN ?_ _ | apply Blk.set | (refine Blk.new ?_; focus (first | rfl | (simp; done))) | refine Blk.alloc ?_ _ | refine Blk.other ?_ ?_ _) | exact eqL rfl | (refine neB ?_; omega)))
      have ca := Ba.cell
      have fa := Ba.free
      have la_W2 := Ba.lt
      have kaW2 : Acc w W2 := by
        refine Acc.call ?_ hb
        (repeat' (first | (with_reducible first | assumption | exact Acc.refl _ | refine Acc.drew ?_ | refine Acc.drewN ?_ _ | refine Acc.alloc ?_ _ | refine Acc.setCell ?_ ?_ _) | (refine leB ?_; omega)))
      clear hb
      go_wp2_with fail
      go_ret3
      exact ⟨fun h => (by cases h), fun _ => rfl, kaW2⟩
    | true =>
      have HY := Lib.hid hY
      clear hY
      go_enter Tryd.func37, Tryd.ntmps37
      go_wp2_with fail
      refine (specWideT HX.out _).mono ?_
      rintro e W1 ⟨rfl, hb⟩
      have Ba : Blk W1 (w.heap.size) [.int .i64 x1, .int .i64 x2, .int .i64 x3, .int .i64 y1, .int .i64 y2, .int .i64 y3] := Blk.keep hb (by repeat' (first | (with_reducible first | assumption | refine Blk.drew ?_ | refine Blk.drewN ?_ _ | apply Blk.set | (refine Blk.new ?_; focus (first | rfl | (simp; done))) | refine Blk.alloc ?_ _ | refine Blk.other ?_ ?_ _) | exact eqL rfl | (refine neB ?_; omega)))
      have ca := Ba.cell
      have fa := Ba.free
      have la_W1 := Ba.lt
      have kaW1 : Acc w W1 := by
        refine Acc.call ?_ hb
        (repeat' (first | (with_reducible first | assumption | exact Acc.refl _ | refine Acc.drew ?_ | refine Acc.drewN ?_ _ | refine Acc.alloc ?_ _ | refine Acc.setCell ?_ ?_ _) | (refine leB ?_; omega)))
      clear hb
      go_wp2_with fail
      refine (specWideT HY.out _).mono ?_
      rintro e W2 ⟨rfl, hb⟩
      have Ba : Blk W2 (w.heap.size) [.int .i64 x1, .int .i64 x2, .int .i64 x3, .int .i64 y1, .int .i64 y2, .int .i64 y3] := Blk.keep hb (by repeat' (first | (with_reducible first | assumption | refine Blk.drew ?_ | refine Blk.drewN ?_ _ | apply Blk.set | (refine Blk.new ?_; focus (first | rfl | (simp; done))) | refine Blk.alloc ?_ _ | refine Blk.other ?_ ?_ _) | exact eqL rfl | (refine neB ?_; omega)))
      have ca := Ba.cell
      have fa := Ba.free
      have la_W2 := Ba.lt
      have kaW2 : Acc w W2 := by
        refine Acc.call ?_ hb
        (repeat' (first | (with_reducible first | assumption | exact Acc.refl _ | refine Acc.drew ?_ | refine Acc.drewN ?_ _ | refine Acc.alloc ?_ _ | refine Acc.setCell ?_ ?_ _) | (refine leB ?_; omega)))
      clear hb
      go_wp2_with fail
      go_ret3
      exact ⟨fun _ => rfl, fun h => (by cases h), kaW2⟩
set_option maxHeartbeats 4000000 in
theorem specJFits_any (x1 x2 x3 y1 y2 y3 : Int) (w : World) : Calls Tryd.prog 42 #[.agg #[.int .i64 x1, .int .i64 x2, .int .i64 x3, .int .i64 y1, .int .i64 y2, .int .i64 y3]] w fun e w' => e = .returned (.bool (fitsF x1 x2 x3 y1 y2 y3)) ∧ Below w.heap.size w w' := by
  unfold fitsF
  cases ho : (okF x1 x2 x3 && okF y1 y2 y3) with
  | false =>
    simp only [Bool.false_and]
    have D := Lib.hid fun w => (specJWideT x1 x2 x3 y1 y2 y3 w).mono fun e w' h => And.intro (h.2.1 ho) h.2.2
    clear ho
    go_enter Tryd.func42, Tryd.ntmps42
    go_wp2_with fail
    refine (D.out _).mono ?_
    rintro e W1 ⟨rfl, hb⟩
    have Ba : Blk W1 (w.heap.size) [.int .i64 x1, .int .i64 x2, .int .i64 x3, .int .i64 y1, .int .i64 y2, .int .i64 y3] := Blk.keep hb (by repeat' (first | (with_reducible first | assumption | refine Blk.drew ?_ | refine Blk.drewN ?_ _ | apply Blk.set | (refine Blk.new ?_; focus (first | rfl | (simp; done))) | refine Blk.alloc ?_ _ | refine Blk.other ?_ ?_ _) | exact eqL rfl | (refine neB ?_; omega)))
    have ca := Ba.cell
    have fa := Ba.free
    have la_W1 := Ba.lt
    have kaW1 : Acc w W1 := by
      refine Acc.call ?_ hb
      (repeat' (first | (with_reducible first | assumption | exact Acc.refl _ | refine Acc.drew ?_ | refine Acc.drewN ?_ _ | refine Acc.alloc ?_ _ | refine Acc.setCell ?_ ?_ _) | (refine leB ?_; omega)))
    clear hb
    go_wp2_with fail
    go_ret
    refine ⟨rfl, ?_⟩
    show Acc w _
    (repeat' (first | (with_reducible first | assumption | exact Acc.refl _ | refine Acc.drew ?_ | refine Acc.drewN ?_ _ | refine Acc.alloc ?_ _ | refine Acc.setCell ?_ ?_ _) | (refine leB ?_; omega)))
  | true =>
    simp only [Bool.true_and]
    have D := Lib.hid fun w => (specJWideT x1 x2 x3 y1 y2 y3 w).mono fun e w' h => And.intro (h.1 ho) h.2.2
    rw [Bool.and_eq_true] at ho
    have HX := Lib.hid ho.1
    have HY := Lib.hid ho.2
    clear ho
    have RX := Lib.hid fun w => back_conv HX.out Tryd.prog 46 93 (by rw [Tryd.underlying46]; rfl) Tryd.underlying93 w
    have RY := Lib.hid fun w => back_conv HY.out Tryd.prog 46 93 (by rw [Tryd.underlying46]; rfl) Tryd.underlying93 w
    have QX := Lib.hid fun w => forth_conv HX.out Tryd.prog 93 46 (by rw [Tryd.underlying93]; rfl) Tryd.underlying46 w
    have QY := Lib.hid fun w => forth_conv HY.out Tryd.prog 93 46 (by rw [Tryd.underlying93]; rfl) Tryd.underlying46 w
    go_enter Tryd.func42, Tryd.ntmps42
    go_wp2_with fail
    refine (D.out _).mono ?_
    rintro e W1 ⟨rfl, hb⟩
    have Ba : Blk W1 (w.heap.size) [.int .i64 x1, .int .i64 x2, .int .i64 x3, .int .i64 y1, .int .i64 y2, .int .i64 y3] := Blk.keep hb (by repeat' (first | (with_reducible first | assumption | refine Blk.drew ?_ | refine Blk.drewN ?_ _ | apply Blk.set | (refine Blk.new ?_; focus (first | rfl | (simp; done))) | refine Blk.alloc ?_ _ | refine Blk.other ?_ ?_ _) | exact eqL rfl | (refine neB ?_; omega)))
    have ca := Ba.cell
    have fa := Ba.free
    have la_W1 := Ba.lt
    have kaW1 : Acc w W1 := by
      refine Acc.call ?_ hb
      (repeat' (first | (with_reducible first | assumption | exact Acc.refl _ | refine Acc.drew ?_ | refine Acc.drewN ?_ _ | refine Acc.alloc ?_ _ | refine Acc.setCell ?_ ?_ _) | (refine leB ?_; omega)))
    clear hb
    go_wp2_with (simp only [RX.out, RY.out, QX.out, QY.out])
    all_goals
      go_ret
      refine ⟨by unfold fits1; simp [*], ?_⟩
      show Acc w _
      (repeat' (first | (with_reducible first | assumption | exact Acc.refl _ | refine Acc.drew ?_ | refine Acc.drewN ?_ _ | refine Acc.alloc ?_ _ | refine Acc.setCell ?_ ?_ _) | (refine leB ?_; omega)))

set_option maxHeartbeats 4000000 in
theorem implJWide_any (x1 x2 x3 y1 y2 y3 : Int) (hx1 : i64B x1) (hx2 : i64B x2) (hx3 : i64B x3) (hy1 : i64B y1) (hy2 : i64B y2) (hy3 : i64B y3) (w : World) (hl : Laid w) : Calls Tryd.prog 36 #[.agg #[.int .i64 x1, .int .i64 x2, .int .i64 x3, .int .i64 y1, .int .i64 y2, .int .i64 y3]] w (JWideT x1 x2 x3 y1 y2 y3 w) := by
  unfold JWideT
  have HL := Lib.hid fun W (k : Acc w W) => hl.acc k
  have C := Lib.hid fun w => both_wide x1 x2 x3 y1 y2 y3 hx1 hx2 hx3 hy1 hy2 hy3 w
  clear hl hx1 hx2 hx3 hy1 hy2 hy3
  cases ho : (okF x1 x2 x3 && okF y1 y2 y3) with
  | false =>
    have D := Lib.hid fun w => (C.out w).mono fun e w' h => And.intro (h.2.1 ho) h.2.2
    clear C ho
    have hmf : ∀ (fn : Fn) (first cap : Array Value) (w : World), (Instr.makeFunc fn first cap).run Tryd.prog w = .ok (.func fn first cap) w := fun _ _ _ _ => rfl
    have hsc : ∀ (a : Addr) (k : FloatKind) (p q : Nat) (m : Mode) (w : World), (store a (.complex k p q) m).run Tryd.prog w = stored Tryd.prog w a (.complex k p q) m := fun a k p q m w => run_store Tryd.prog w a _ m rfl
    go_enter Tryd.func36, Tryd.ntmps36
    go_wp2_with fail
    refine (vectorOf_any x1 x2 x3 y1 y2 y3 _).mono ?_
    rintro e W1 ⟨rfl, hb⟩
    have Ba : Blk W1 (w.heap.size) [.int .i64 x1, .int .i64 x2, .int .i64 x3, .int .i64 y1, .int .i64 y2, .int .i64 y3] := Blk.keep hb (by repeat' (first | (with_reducible first | assumption | refine Blk.drew ?_ | refine Blk.drewN ?_ _ | apply Blk.set | (refine Blk.new ?_; focus (first | rfl | (simp; done))) | refine Blk.alloc ?_ _ | refine Blk.other ?_ ?_ _) | exact eqL rfl | (refine neB ?_; omega)))
    have ca := Ba.cell
    have fa := Ba.free
    have la_W1 := Ba.lt
    have kaW1 : Acc w W1 := by
      refine Acc.call ?_ hb
      (repeat' (first | (with_reducible first | assumption | exact Acc.refl _ | refine Acc.drew ?_ | refine Acc.drewN ?_ _ | refine Acc.alloc ?_ _ | refine Acc.setCell ?_ ?_ _) | (refine leB ?_; omega)))
    clear hb
    go_wp2_with fail
    refine (D.out _).mono ?_
    rintro e W2 ⟨⟨s, rfl⟩, hb⟩
    have Ba : Blk W2 (w.heap.size) [.int .i64 x1, .int .i64 x2, .int .i64 x3, .int .i64 y1, .int .i64 y2, .int .i64 y3] := Blk.keep hb (by repeat' (first | (with_reducible first | assumption | refine Blk.drew ?_ | refine Blk.drewN ?_ _ | apply Blk.set | (refine Blk.new ?_; focus (first | rfl | (simp; done))) | refine Blk.alloc ?_ _ | refine Blk.other ?_ ?_ _) | exact eqL rfl | (refine neB ?_; omega)))
    have ca := Ba.cell
    have fa := Ba.free
    have la_W2 := Ba.lt
    have kaW2 : Acc w W2 := by
      refine Acc.call ?_ hb
      (repeat' (first | (with_reducible first | assumption | exact Acc.refl _ | refine Acc.drew ?_ | refine Acc.drewN ?_ _ | refine Acc.alloc ?_ _ | refine Acc.setCell ?_ ?_ _) | (refine leB ?_; omega)))
    clear hb
    go_wp2_with fail
    refine (told_wide_err _ _ _ _ s _ (HL.out _ (by repeat' (first | (with_reducible first | assumption | exact Acc.refl _ | refine Acc.drew ?_ | refine Acc.drewN ?_ _ | refine Acc.alloc ?_ _ | refine Acc.setCell ?_ ?_ _) | (refine leB ?_; omega))))).mono ?_
    rintro e W3 ⟨rfl, hb⟩
    have Ba : Blk W3 (w.heap.size) [.int .i64 x1, .int .i64 x2, .int .i64 x3, .int .i64 y1, .int .i64 y2, .int .i64 y3] := Blk.keep hb (by repeat' (first | (with_reducible first | assumption | refine Blk.drew ?_ | refine Blk.drewN ?_ _ | apply Blk.set | (refine Blk.new ?_; focus (first | rfl | (simp; done))) | refine Blk.alloc ?_ _ | refine Blk.other ?_ ?_ _) | exact eqL rfl | (refine neB ?_; omega)))
    have ca := Ba.cell
    have fa := Ba.free
    have la_W3 := Ba.lt
    have kaW3 : Acc w W3 := by
      refine Acc.call ?_ hb
      (repeat' (first | (with_reducible first | assumption | exact Acc.refl _ | refine Acc.drew ?_ | refine Acc.drewN ?_ _ | refine Acc.alloc ?_ _ | refine Acc.setCell ?_ ?_ _) | (refine leB ?_; omega)))
    clear hb
    go_upto_region 2 with fail
    go_quiet (fail)
    all_goals
      go_wp2_with fail
      go_ret3
      refine ⟨fun h => (by cases h), fun _ => rfl, ?_⟩
      show Acc w _
      (repeat' (first | (with_reducible first | assumption | exact Acc.refl _ | refine Acc.drew ?_ | refine Acc.drewN ?_ _ | refine Acc.alloc ?_ _ | refine Acc.setCell ?_ ?_ _) | (refine leB ?_; omega)))
  | true =>
    have D := Lib.hid fun w => (C.out w).mono fun e w' h => And.intro (h.1 ho) h.2.2
    clear C ho
    have hmf : ∀ (fn : Fn) (first cap : Array Value) (w : World), (Instr.makeFunc fn first cap).run Tryd.prog w = .ok (.func fn first cap) w := fun _ _ _ _ => rfl
    have hsc : ∀ (a : Addr) (k : FloatKind) (p q : Nat) (m : Mode) (w : World), (store a (.complex k p q) m).run Tryd.prog w = stored Tryd.prog w a (.complex k p q) m := fun a k p q m w => run_store Tryd.prog w a _ m rfl
    go_enter Tryd.func36, Tryd.ntmps36
    go_wp2_with fail
    refine (vectorOf_any x1 x2 x3 y1 y2 y3 _).mono ?_
    rintro e W1 ⟨rfl, hb⟩
    have Ba : Blk W1 (w.heap.size) [.int .i64 x1, .int .i64 x2, .int .i64 x3, .int .i64 y1, .int .i64 y2, .int .i64 y3] := Blk.keep hb (by repeat' (first | (with_reducible first | assumption | refine Blk.drew ?_ | refine Blk.drewN ?_ _ | apply Blk.set | (refine Blk.new ?_; focus (first | rfl | (simp; done))) | refine Blk.alloc ?_ _ | refine Blk.other ?_ ?_ _) | exact eqL rfl | (refine neB ?_; omega)))
    have ca := Ba.cell
    have fa := Ba.free
    have la_W1 := Ba.lt
    have kaW1 : Acc w W1 := by
      refine Acc.call ?_ hb
      (repeat' (first | (with_reducible first | assumption | exact Acc.refl _ | refine Acc.drew ?_ | refine Acc.drewN ?_ _ | refine Acc.alloc ?_ _ | refine Acc.setCell ?_ ?_ _) | (refine leB ?_; omega)))
    clear hb
    go_wp2_with fail
    refine (D.out _).mono ?_
    rintro e W2 ⟨rfl, hb⟩
    have Ba : Blk W2 (w.heap.size) [.int .i64 x1, .int .i64 x2, .int .i64 x3, .int .i64 y1, .int .i64 y2, .int .i64 y3] := Blk.keep hb (by repeat' (first | (with_reducible first | assumption | refine Blk.drew ?_ | refine Blk.drewN ?_ _ | apply Blk.set | (refine Blk.new ?_; focus (first | rfl | (simp; done))) | refine Blk.alloc ?_ _ | refine Blk.other ?_ ?_ _) | exact eqL rfl | (refine neB ?_; omega)))
    have ca := Ba.cell
    have fa := Ba.free
    have la_W2 := Ba.lt
    have kaW2 : Acc w W2 := by
      refine Acc.call ?_ hb
      (repeat' (first | (with_reducible first | assumption | exact Acc.refl _ | refine Acc.drew ?_ | refine Acc.drewN ?_ _ | refine Acc.alloc ?_ _ | refine Acc.setCell ?_ ?_ _) | (refine leB ?_; omega)))
    clear hb
    go_wp2_with fail
    refine (told_wide_ok _ _ _ _ _).mono ?_
    rintro e W3 ⟨rfl, hb⟩
    have Ba : Blk W3 (w.heap.size) [.int .i64 x1, .int .i64 x2, .int .i64 x3, .int .i64 y1, .int .i64 y2, .int .i64 y3] := Blk.keep hb (by repeat' (first | (with_reducible first | assumption | refine Blk.drew ?_ | refine Blk.drewN ?_ _ | apply Blk.set | (refine Blk.new ?_; focus (first | rfl | (simp; done))) | refine Blk.alloc ?_ _ | refine Blk.other ?_ ?_ _) | exact eqL rfl | (refine neB ?_; omega)))
    have ca := Ba.cell
    have fa := Ba.free
    have la_W3 := Ba.lt
    have kaW3 : Acc w W3 := by
      refine Acc.call ?_ hb
      (repeat' (first | (with_reducible first | assumption | exact Acc.refl _ | refine Acc.drew ?_ | refine Acc.drewN ?_ _ | refine Acc.alloc ?_ _ | refine Acc.setCell ?_ ?_ _) | (refine leB ?_; omega)))
    clear hb
    go_upto_region 2 with fail
    go_quiet (fail)
    all_goals
      go_wp2_with fail
      go_ret3
      refine ⟨fun _ => rfl, fun h => (by cases h), ?_⟩
      show Acc w _
      (repeat' (first | (with_reducible first | assumption | exact Acc.refl _ | refine Acc.drew ?_ | refine Acc.drewN ?_ _ | refine Acc.alloc ?_ _ | refine Acc.setCell ?_ ?_ _) | (refine leB ?_; omega)))

theorem gave6_some {o : Option ((Int × Int × Int) × (Int × Int × Int))} {u1 u2 u3 v1 v2 v3 : Int} (h : o = some ((u1, u2, u3), (v1, v2, v3))) {P : Program} {f : FuncId} {ar : Array Value} {w : World} (c : Calls P f ar w (Gave6 o w)) :
    Calls P f ar w fun e w' => e = .returned (.tuple #[.agg #[.int .i64 u1, .int .i64 u2, .int .i64 u3, .int .i64 v1, .int .i64 v2, .int .i64 v3], .bool true]) ∧ Below w.heap.size w w' := c.mono fun e w' k => ⟨k.1 _ _ _ _ _ _ h, k.2.2⟩
theorem gave6_none {o : Option ((Int × Int × Int) × (Int × Int × Int))} (h : o = none) {P : Program} {f : FuncId} {ar : Array Value} {w : World} (c : Calls P f ar w (Gave6 o w)) :
    Calls P f ar w fun e w' => e = .returned (.tuple #[.agg #[.int .i64 0, .int .i64 0, .int .i64 0, .int .i64 0, .int .i64 0, .int .i64 0], .bool false]) ∧ Below w.heap.size w w' := c.mono fun e w' k => ⟨k.2.1 h, k.2.2⟩
/-- A told vector, its letters open. -/
theorem gave6_any (o : Option ((Int × Int × Int) × (Int × Int × Int))) : ∃ r1 r2 r3 r4 r5 r6 : Int, ∃ k : Bool, (∀ P f ar w, Calls P f ar w (Gave6 o w) → Calls P f ar w fun e w' => e = .returned (.tuple #[.agg #[.int .i64 r1, .int .i64 r2, .int .i64 r3, .int .i64 r4, .int .i64 r5, .int .i64 r6], .bool k]) ∧ Below w.heap.size w w') := by
  cases o with
  | none => exact ⟨0, 0, 0, 0, 0, 0, false, fun P f ar w c => gave6_none rfl c⟩
  | some v =>
    obtain ⟨⟨u1, u2, u3⟩, v1, v2, v3⟩ := v
    exact ⟨u1, u2, u3, v1, v2, v3, true, fun P f ar w c => gave6_some rfl c⟩
/-- A told vector, its letters open, of ints of 64 bits. -/
theorem gave6_i64 {o : Option ((Int × Int × Int) × (Int × Int × Int))} (hb : ∀ u1 u2 u3 v1 v2 v3, o = some ((u1, u2, u3), (v1, v2, v3)) → okF u1 u2 u3 = true ∧ okF v1 v2 v3 = true) : ∃ r1 r2 r3 r4 r5 r6 : Int, ∃ k : Bool, (i64B r1 ∧ i64B r2 ∧ i64B r3 ∧ i64B r4 ∧ i64B r5 ∧ i64B r6) ∧ (∀ P f ar w, Calls P f ar w (Gave6 o w) → Calls P f ar w fun e w' => e = .returned (.tuple #[.agg #[.int .i64 r1, .int .i64 r2, .int .i64 r3, .int .i64 r4, .int .i64 r5, .int .i64 r6], .bool k]) ∧ Below w.heap.size w w') := by
  cases o with
  | none => exact ⟨0, 0, 0, 0, 0, 0, false, by unfold i64B; omega, fun P f ar w c => gave6_none rfl c⟩
  | some v =>
    obtain ⟨⟨u1, u2, u3⟩, v1, v2, v3⟩ := v
    obtain ⟨h1, h2⟩ := hb _ _ _ _ _ _ rfl
    obtain ⟨a1, a2, a3⟩ := okF_i64 h1
    obtain ⟨b1, b2, b3⟩ := okF_i64 h2
    exact ⟨u1, u2, u3, v1, v2, v3, true, ⟨a1, a2, a3, b1, b2, b3⟩, fun P f ar w c => gave6_some rfl c⟩
theorem cmp_open (o : Option Int) : ∃ n : Int, ∃ k : Bool, cmpV o = .tuple #[.int .i64 n, .bool k] := by
  cases o with
  | none => exact ⟨0, false, rfl⟩
  | some n => exact ⟨n, true, rfl⟩
theorem cmpv_any {o : Option Int} {v : Value} (h : cmpV o = v) {P : Program} {f : FuncId} {ar : Array Value} {w : World} (c : Calls P f ar w fun e w' => e = .returned (cmpV o) ∧ Below w.heap.size w w') :
    Calls P f ar w fun e w' => e = .returned v ∧ Below w.heap.size w w' := by subst h; exact c
theorem sum_ok {s x y z a b c p q r : Int} (h : sumF s x y z a b c = some (p, q, r)) : okF p q r = true := (sum_some h).2.2.1
theorem times_ok {x y z a b c p q r : Int} (h : timesF x y z a b c = some (p, q, r)) : okF p q r = true := (times_some h).2.2.1
theorem power_ok {x y z p q r : Int} (h : powerF x y z = some (p, q, r)) : okF p q r = true := (power_some h).2.1
theorem jpow_ok {x1 x2 x3 y1 y2 y3 p q r : Int} (h : jpowF x1 x2 x3 y1 y2 y3 = some (p, q, r)) : okF p q r = true := (jpow_val h).2.2.1
theorem inner_ok {x1 x2 x3 y1 y2 y3 a1 a2 a3 b1 b2 b3 p q r : Int} (h : innerF x1 x2 x3 y1 y2 y3 a1 a2 a3 b1 b2 b3 = some (p, q, r)) : okF p q r = true := (inner_val h).2.2.2.2.1
theorem jadd_ok {x1 x2 x3 y1 y2 y3 a1 a2 a3 b1 b2 b3 u1 u2 u3 v1 v2 v3 : Int} (h : jaddF x1 x2 x3 y1 y2 y3 a1 a2 a3 b1 b2 b3 = some ((u1, u2, u3), (v1, v2, v3))) : okF u1 u2 u3 = true ∧ okF v1 v2 v3 = true := ⟨sum_ok (pair_some h).1, sum_ok (pair_some h).2⟩
theorem jtimes_ok {x1 x2 x3 y1 y2 y3 c1 c2 c3 u1 u2 u3 v1 v2 v3 : Int} (h : jtimesF x1 x2 x3 y1 y2 y3 c1 c2 c3 = some ((u1, u2, u3), (v1, v2, v3))) : okF u1 u2 u3 = true ∧ okF v1 v2 v3 = true := ⟨times_ok (pair_some h).1, times_ok (pair_some h).2⟩
theorem i64_0 : i64B 0 := by unfold i64B; omega
theorem i64_1 : i64B 1 := by unfold i64B; omega
theorem i64_m1 : i64B (-1) := by unfold i64B; omega

theorem implWideT {x y z : Int} (h : okF x y z = true) (hx : i64B x) (hy : i64B y) (hz : i64B z) (w : World) (hl : Laid w) : Calls Tryd.prog 39 #[.agg #[.int .i64 x, .int .i64 y, .int .i64 z]] w fun e w' => e = .returned (.tuple #[.complex .f64 (wideF x z) (wideF y z), .bool true]) ∧ Below w.heap.size w w' := by
  obtain ⟨bx, by', bz⟩ := okF_bd h
  refine (implWide_any x y z hx hy hz w hl).mono fun e w' k => ?_
  obtain ⟨p, q, rfl, s1, s2⟩ := k.1 h
  rw [wide_told bx bz s1, wide_told by' bz s2]
  exact ⟨rfl, k.2.2⟩
theorem jwide_ok {x1 x2 x3 y1 y2 y3 : Int} (h : (okF x1 x2 x3 && okF y1 y2 y3) = true) {P : Program} {f : FuncId} {ar : Array Value} {w : World} (c : Calls P f ar w (JWideT x1 x2 x3 y1 y2 y3 w)) :
    Calls P f ar w fun e w' => e = .returned (.tuple #[.complex .f64 (wideF x1 x3) (wideF x2 x3), .complex .f64 (wideF y1 y3) (wideF y2 y3), .bool true]) ∧ Below w.heap.size w w' := c.mono fun e w' k => ⟨k.1 h, k.2.2⟩
theorem jwide_no {x1 x2 x3 y1 y2 y3 : Int} (h : (okF x1 x2 x3 && okF y1 y2 y3) = false) {P : Program} {f : FuncId} {ar : Array Value} {w : World} (c : Calls P f ar w (JWideT x1 x2 x3 y1 y2 y3 w)) :
    Calls P f ar w fun e w' => e = .returned (.tuple #[.complex .f64 0 0, .complex .f64 0 0, .bool false]) ∧ Below w.heap.size w w' := c.mono fun e w' k => ⟨k.2.1 h, k.2.2⟩
set_option maxRecDepth 100000 in
set_option maxHeartbeats 16000000 in
theorem fnJonesWide_law (w : World) (hl : Laid w) (s : Option Addr) (len cap : Nat) (h : Code8 w s len cap) :
    Calls Tryd.prog 9 #[.slice s len cap] w (Fine w) := by
  have hm := h.2.1
  have hl' := h.1
  unfold maxLen at hm
  have HL := Lib.hid fun W (k : Acc w W) => hl.acc k
  clear hl
  by_cases hlen : 1048576 < len
  · clear h
    have hlen' : (1048576 : Int) < (len : Int) := by omega
    go_enter Tryd.func9, Tryd.ntmps9
    go_wp2_with fail
    go_ret
    exact ⟨rfl, Below.refl _ _⟩
  have hlen' : ¬ (1048576 : Int) < (len : Int) := by omega
  go_enter Tryd.func9, Tryd.ntmps9
  go_wp2_with fail
  refine (drawJonesWide_any s len cap w h).mono ?_
  rintro e W0 ⟨x1, x2, x3, y1, y2, y3, rfl, hx1, hx2, hx3, hy1, hy2, hy3, hb⟩
  have kaW0 : Acc w W0 := hb
  clear hb h
  go_wp2_with fail
  cases ho : (okF x1 x2 x3 && okF y1 y2 y3) with
  | false =>
   have HO := Lib.hid ho
   clear ho
   refine (jwide_no HO.out (implJWide_any x1 x2 x3 y1 y2 y3 hx1 hx2 hx3 hy1 hy2 hy3 _ (HL.out _ (by repeat' (first | (with_reducible first | assumption | exact Acc.refl _ | refine Acc.alloc ?_ _ | refine Acc.setCell ?_ ?_ _) | (refine leB ?_; omega)))))).mono ?_
   rintro e W1 ⟨rfl, hb⟩
   have Ba : Blk W1 (W0.heap.size) [.int .i64 x1, .int .i64 x2, .int .i64 x3, .int .i64 y1, .int .i64 y2, .int .i64 y3] := Blk.keep hb (by repeat' (first | (with_reducible first | assumption | apply Blk.set | (refine Blk.new ?_; focus (first | rfl | (simp; done))) | refine Blk.alloc ?_ _ | refine Blk.other ?_ ?_ _) | exact eqL rfl | (refine neB ?_; omega)))
   have ca := Ba.cell
   have fa := Ba.free
   have la_W1 := Ba.lt
   have kaW1 : Acc w W1 := by
     refine Acc.call ?_ hb
     (repeat' (first | (with_reducible first | assumption | exact Acc.refl _ | refine Acc.alloc ?_ _ | refine Acc.setCell ?_ ?_ _) | (refine leB ?_; omega)))
   clear hb
   go_wp2_with fail
   refine (jwide_no HO.out (specJWideT x1 x2 x3 y1 y2 y3 _)).mono ?_
   rintro e W2 ⟨rfl, hb⟩
   have Ba : Blk W2 (W0.heap.size) [.int .i64 x1, .int .i64 x2, .int .i64 x3, .int .i64 y1, .int .i64 y2, .int .i64 y3] := Blk.keep hb (by repeat' (first | (with_reducible first | assumption | apply Blk.set | (refine Blk.new ?_; focus (first | rfl | (simp; done))) | refine Blk.alloc ?_ _ | refine Blk.other ?_ ?_ _) | exact eqL rfl | (refine neB ?_; omega)))
   have ca := Ba.cell
   have fa := Ba.free
   have la_W2 := Ba.lt
   have kaW2 : Acc w W2 := by
     refine Acc.call ?_ hb
     (repeat' (first | (with_reducible first | assumption | exact Acc.refl _ | refine Acc.alloc ?_ _ | refine Acc.setCell ?_ ?_ _) | (refine leB ?_; omega)))
   clear hb
   go_wp2_with fail
   refine (wideAlike_any _ _ _ _ _ (.refl _) (.refl _)).mono ?_
   rintro e W3 ⟨rfl, rfl⟩
   go_wp2_with fail
   refine (wideAlike_any _ _ _ _ _ (.refl _) (.refl _)).mono ?_
   rintro e W4 ⟨rfl, rfl⟩
   go_wp2_with fail
   refine (wideAlike_any _ _ _ _ _ (.refl _) (.refl _)).mono ?_
   rintro e W5 ⟨rfl, rfl⟩
   go_wp2_with fail
   refine (wideAlike_any _ _ _ _ _ (.refl _) (.refl _)).mono ?_
   rintro e W6 ⟨rfl, rfl⟩
   go_wp2_with fail
   go_ret
   refine ⟨rfl, ?_⟩
   show Acc w _
   (repeat' (first | (with_reducible first | assumption | exact Acc.refl _ | refine Acc.alloc ?_ _ | refine Acc.setCell ?_ ?_ _) | (refine leB ?_; omega)))
  | true =>
   have ho' := ho
   rw [Bool.and_eq_true] at ho'
   have HO := Lib.hid ho
   have KX := Lib.hid ho'.1
   have KY := Lib.hid ho'.2
   clear ho ho'
   refine (jwide_ok HO.out (implJWide_any x1 x2 x3 y1 y2 y3 hx1 hx2 hx3 hy1 hy2 hy3 _ (HL.out _ (by repeat' (first | (with_reducible first | assumption | exact Acc.refl _ | refine Acc.alloc ?_ _ | refine Acc.setCell ?_ ?_ _) | (refine leB ?_; omega)))))).mono ?_
   rintro e W1 ⟨rfl, hb⟩
   have Ba : Blk W1 (W0.heap.size) [.int .i64 x1, .int .i64 x2, .int .i64 x3, .int .i64 y1, .int .i64 y2, .int .i64 y3] := Blk.keep hb (by repeat' (first | (with_reducible first | assumption | apply Blk.set | (refine Blk.new ?_; focus (first | rfl | (simp; done))) | refine Blk.alloc ?_ _ | refine Blk.other ?_ ?_ _) | exact eqL rfl | (refine neB ?_; omega)))
   have ca := Ba.cell
   have fa := Ba.free
   have la_W1 := Ba.lt
   have kaW1 : Acc w W1 := by
     refine Acc.call ?_ hb
     (repeat' (first | (with_reducible first | assumption | exact Acc.refl _ | refine Acc.alloc ?_ _ | refine Acc.setCell ?_ ?_ _) | (refine leB ?_; omega)))
   clear hb
   go_wp2_with fail
   refine (jwide_ok HO.out (specJWideT x1 x2 x3 y1 y2 y3 _)).mono ?_
   rintro e W2 ⟨rfl, hb⟩
   have Ba : Blk W2 (W0.heap.size) [.int .i64 x1, .int .i64 x2, .int .i64 x3, .int .i64 y1, .int .i64 y2, .int .i64 y3] := Blk.keep hb (by repeat' (first | (with_reducible first | assumption | apply Blk.set | (refine Blk.new ?_; focus (first | rfl | (simp; done))) | refine Blk.alloc ?_ _ | refine Blk.other ?_ ?_ _) | exact eqL rfl | (refine neB ?_; omega)))
   have ca := Ba.cell
   have fa := Ba.free
   have la_W2 := Ba.lt
   have kaW2 : Acc w W2 := by
     refine Acc.call ?_ hb
     (repeat' (first | (with_reducible first | assumption | exact Acc.refl _ | refine Acc.alloc ?_ _ | refine Acc.setCell ?_ ?_ _) | (refine leB ?_; omega)))
   clear hb
   go_wp2_with fail
   refine (wideAlike_any _ _ _ _ _ (.refl _) (.refl _)).mono ?_
   rintro e W3 ⟨rfl, rfl⟩
   go_wp2_with fail
   refine (wideAlike_any _ _ _ _ _ (.refl _) (.refl _)).mono ?_
   rintro e W4 ⟨rfl, rfl⟩
   go_wp2_with fail
   refine (implWideT KX.out hx1 hx2 hx3 _ (HL.out _ (by repeat' (first | (with_reducible first | assumption | exact Acc.refl _ | refine Acc.alloc ?_ _ | refine Acc.setCell ?_ ?_ _) | (refine leB ?_; omega))))).mono ?_
   rintro e W5 ⟨rfl, hb⟩
   have Ba : Blk W5 (W0.heap.size) [.int .i64 x1, .int .i64 x2, .int .i64 x3, .int .i64 y1, .int .i64 y2, .int .i64 y3] := Blk.keep hb (by repeat' (first | (with_reducible first | assumption | apply Blk.set | (refine Blk.new ?_; focus (first | rfl | (simp; done))) | refine Blk.alloc ?_ _ | refine Blk.other ?_ ?_ _) | exact eqL rfl | (refine neB ?_; omega)))
   have ca := Ba.cell
   have fa := Ba.free
   have la_W5 := Ba.lt
   have kaW5 : Acc w W5 := by
     refine Acc.call ?_ hb
     (repeat' (first | (with_reducible first | assumption | exact Acc.refl _ | refine Acc.alloc ?_ _ | refine Acc.setCell ?_ ?_ _) | (refine leB ?_; omega)))
   clear hb
   go_wp2_with fail
   refine (implWideT KY.out hy1 hy2 hy3 _ (HL.out _ (by repeat' (first | (with_reducible first | assumption | exact Acc.refl _ | refine Acc.alloc ?_ _ | refine Acc.setCell ?_ ?_ _) | (refine leB ?_; omega))))).mono ?_
   rintro e W6 ⟨rfl, hb⟩
   have Ba : Blk W6 (W0.heap.size) [.int .i64 x1, .int .i64 x2, .int .i64 x3, .int .i64 y1, .int .i64 y2, .int .i64 y3] := Blk.keep hb (by repeat' (first | (with_reducible first | assumption | apply Blk.set | (refine Blk.new ?_; focus (first | rfl | (simp; done))) | refine Blk.alloc ?_ _ | refine Blk.other ?_ ?_ _) | exact eqL rfl | (refine neB ?_; omega)))
   have ca := Ba.cell
   have fa := Ba.free
   have la_W6 := Ba.lt
   have kaW6 : Acc w W6 := by
     refine Acc.call ?_ hb
     (repeat' (first | (with_reducible first | assumption | exact Acc.refl _ | refine Acc.alloc ?_ _ | refine Acc.setCell ?_ ?_ _) | (refine leB ?_; omega)))
   clear hb
   go_wp2_with fail
   refine (wideAlike_any _ _ _ _ _ (.refl _) (.refl _)).mono ?_
   rintro e W7 ⟨rfl, rfl⟩
   go_wp2_with fail
   refine (wideAlike_any _ _ _ _ _ (.refl _) (.refl _)).mono ?_
   rintro e W8 ⟨rfl, rfl⟩
   go_wp2_with fail
   go_ret
   refine ⟨rfl, ?_⟩
   show Acc w _
   (repeat' (first | (with_reducible first | assumption | exact Acc.refl _ | refine Acc.alloc ?_ _ | refine Acc.setCell ?_ ?_ _) | (refine leB ?_; omega)))
end Go.Proofs.YtbihlkienhbapabDoor
