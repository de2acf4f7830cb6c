/-
  The law of single numbers of fractions.
-/
import Derived.Test.YtbihlkienhbapaaDoorDrawOne
import Derived.Test.YtbihlkienhbapaaDoorImplSingle
import Derived.Test.YtbihlkienhbapaaDoorImplWide
import Derived.Test.YtbihlkienhbapaaDoorAlike
namespace Go.Proofs.YtbihlkienhbapaaDoor
open Go.ChangeShapes Go.WideShapes Go.ChangeAt Go.RowKit
set_option linter.unusedVariables false

set_option maxHeartbeats 1000000 in
theorem singleAlike_any (u v : Nat) (w : World) :
    Calls Tryd.prog 43 #[.complex .f32 u v, .complex .f32 u v] w fun e w' => e = .returned (.bool true) ∧ Below w.heap.size w w' := by
  obtain ⟨p, q, n, r1, c1, c2⟩ := run_cconv (P := Tryd.prog) (s := .f32) (k := .f64) (by decide) (widen_some u) (widen_some v) 48 44 (by rw [Tryd.underlying48]; rfl) Tryd.underlying44 w
  obtain ⟨p2, q2, n2, r2, c3, c4⟩ := run_cconv (P := Tryd.prog) (s := .f32) (k := .f64) (by decide) (widen_some u) (widen_some v) 48 44 (by rw [Tryd.underlying48]; rfl) Tryd.underlying44 (w.drewN n)
  have t1 := Lib.hid (conv_same c1 c3 rfl)
  have t2 := Lib.hid (conv_same c2 c4 rfl)
  have R1 := Lib.hid r1
  have R2 := Lib.hid r2
  clear r1 r2 c1 c2 c3 c4
  go_enter Tryd.func43, Tryd.ntmps43
  go_wp2_with (first | simp only [R1.out] | simp only [R2.out])
  refine (wideAlike_any p q p2 q2 _ t1.out t2.out).mono ?_
  rintro e w5 ⟨rfl, rfl⟩
  go_wp2_with fail
  go_ret
  exact ⟨rfl, bare_drewN _ _ _⟩
theorem singled_ok {x y z : Int} (h : okF x y z = true) {P : Program} {f : FuncId} {ar : Array Value} {w : World} (c : Calls P f ar w (Singled x y z w)) :
    Calls P f ar w fun e w' => e = .returned (.tuple #[.complex .f32 (singleOf x z) (singleOf y z), .bool true]) ∧ Below w.heap.size w w' := c.mono fun e w' k => ⟨k.1 h, k.2.2⟩
theorem singled_none {x y z : Int} (h : okF x y z = false) {P : Program} {f : FuncId} {ar : Array Value} {w : World} (c : Calls P f ar w (Singled x y z w)) :
    Calls P f ar w fun e w' => e = .returned (.tuple #[.complex .f32 0 0, .bool false]) ∧ Below w.heap.size w w' := c.mono fun e w' k => ⟨k.2.1 h, k.2.2⟩
set_option maxHeartbeats 4000000 in
theorem fnSingle_law (w : World) (hl : Laid w) (s : Option Addr) (len cap : Nat) (h : Code8 w s len cap) :
    Calls Tryd.prog 14 #[.slice s len cap] w (Fine w) := by
  have hm := h.2.1
  have hl' := h.1
  unfold maxLen at hm
  have HL := Lib.hid fun W (k : Acc w W) => hl.acc k
  clear hl
  by_cases hlen : 1048576 < len
  · clear h
    have hlen' : (1048576 : Int) < (len : Int) := by omega
    go_enter Tryd.func14, Tryd.ntmps14
    go_wp2_with fail
    go_ret
    exact ⟨rfl, Below.refl _ _⟩
  have hlen' : ¬ (1048576 : Int) < (len : Int) := by omega
  go_enter Tryd.func14, Tryd.ntmps14
  go_wp2_with fail
  refine (drawFracSingle_any s len cap w h).mono ?_
  rintro e W0 ⟨x, y, z, rfl, hx, hy, hz, hb⟩
  have kaW0 : Acc w W0 := hb
  clear hb h
  go_wp2_with fail
  cases ho : okF x y z with
  | false =>
    have HO := Lib.hid ho
    clear ho
    refine (singled_none HO.out (implSingle_any x y z hx hy hz _ (HL.out _ (by repeat' (first | assumption | exact Acc.refl _ | refine Acc.drew ?_ | refine Acc.alloc ?_ _ | refine Acc.setCell ?_ (by omega) _))))).mono ?_
    rintro e W1 ⟨rfl, hb⟩
    obtain ⟨c00, c01, c02⟩ := keep3 hb (b := W0.heap.size) (x := .int .i64 x) (y := .int .i64 y) (z := .int .i64 z) (by go_simp)
    have cl0 : W0.heap.size < W1.heap.size := World.block_lt_of_cell? _ _ c00
    have kaW1 : Acc w W1 := by
      refine Acc.call ?_ hb
      (repeat' (first | assumption | exact Acc.refl _ | refine Acc.drew ?_ | refine Acc.drewN ?_ _ | refine Acc.alloc ?_ _ | refine Acc.setCell ?_ (by omega) _))
    clear hb
    go_wp2_with fail
    refine (singled_none HO.out (specSingle_any x y z _)).mono ?_
    rintro e W2 ⟨rfl, hb⟩
    obtain ⟨c00, c01, c02⟩ := keep3 hb (b := W0.heap.size) (x := .int .i64 x) (y := .int .i64 y) (z := .int .i64 z) (by go_simp)
    have cl0 : W0.heap.size < W2.heap.size := World.block_lt_of_cell? _ _ c00
    have kaW2 : Acc w W2 := by
      refine Acc.call ?_ hb
      (repeat' (first | assumption | exact Acc.refl _ | refine Acc.drew ?_ | refine Acc.drewN ?_ _ | refine Acc.alloc ?_ _ | refine Acc.setCell ?_ (by omega) _))
    clear hb
    go_wp2_with fail
    refine (singleAlike_any 0 0 _).mono ?_
    rintro e W3 ⟨rfl, hb⟩
    obtain ⟨c00, c01, c02⟩ := keep3 hb (b := W0.heap.size) (x := .int .i64 x) (y := .int .i64 y) (z := .int .i64 z) (by go_simp)
    have cl0 : W0.heap.size < W3.heap.size := World.block_lt_of_cell? _ _ c00
    have kaW3 : Acc w W3 := by
      refine Acc.call ?_ hb
      (repeat' (first | assumption | exact Acc.refl _ | refine Acc.drew ?_ | refine Acc.drewN ?_ _ | refine Acc.alloc ?_ _ | refine Acc.setCell ?_ (by omega) _))
    clear hb
    go_wp2_with fail
    refine (singleAlike_any 0 0 _).mono ?_
    rintro e W4 ⟨rfl, hb⟩
    obtain ⟨c00, c01, c02⟩ := keep3 hb (b := W0.heap.size) (x := .int .i64 x) (y := .int .i64 y) (z := .int .i64 z) (by go_simp)
    have cl0 : W0.heap.size < W4.heap.size := World.block_lt_of_cell? _ _ c00
    have kaW4 : Acc w W4 := by
      refine Acc.call ?_ hb
      (repeat' (first | assumption | exact Acc.refl _ | refine Acc.drew ?_ | refine Acc.drewN ?_ _ | refine Acc.alloc ?_ _ | refine Acc.setCell ?_ (by omega) _))
    clear hb
    go_wp2_with fail
    go_ret
    refine ⟨rfl, ?_⟩
    show Acc w _
    (repeat' (first | assumption | exact Acc.refl _ | refine Acc.drew ?_ | refine Acc.drewN ?_ _ | refine Acc.alloc ?_ _ | refine Acc.setCell ?_ (by omega) _))
  | true =>
    obtain ⟨bx, by', bz⟩ := okF_bd ho
    have c1 := fun p (hp : Same p _) => single_told bx bz hp
    have c2 := fun p (hp : Same p _) => single_told by' bz hp
    have C1 := Lib.hid c1
    have C2 := Lib.hid c2
    have HO := Lib.hid ho
    clear ho bx by' bz c1 c2
    refine (singled_ok HO.out (implSingle_any x y z hx hy hz _ (HL.out _ (by repeat' (first | assumption | exact Acc.refl _ | refine Acc.drew ?_ | refine Acc.alloc ?_ _ | refine Acc.setCell ?_ (by omega) _))))).mono ?_
    rintro e W1 ⟨rfl, hb⟩
    obtain ⟨c00, c01, c02⟩ := keep3 hb (b := W0.heap.size) (x := .int .i64 x) (y := .int .i64 y) (z := .int .i64 z) (by go_simp)
    have cl0 : W0.heap.size < W1.heap.size := World.block_lt_of_cell? _ _ c00
    have kaW1 : Acc w W1 := by
      refine Acc.call ?_ hb
      (repeat' (first | assumption | exact Acc.refl _ | refine Acc.drew ?_ | refine Acc.drewN ?_ _ | refine Acc.alloc ?_ _ | refine Acc.setCell ?_ (by omega) _))
    clear hb
    go_wp2_with fail
    refine (singled_ok HO.out (specSingle_any x y z _)).mono ?_
    rintro e W2 ⟨rfl, hb⟩
    obtain ⟨c00, c01, c02⟩ := keep3 hb (b := W0.heap.size) (x := .int .i64 x) (y := .int .i64 y) (z := .int .i64 z) (by go_simp)
    have cl0 : W0.heap.size < W2.heap.size := World.block_lt_of_cell? _ _ c00
    have kaW2 : Acc w W2 := by
      refine Acc.call ?_ hb
      (repeat' (first | assumption | exact Acc.refl _ | refine Acc.drew ?_ | refine Acc.drewN ?_ _ | refine Acc.alloc ?_ _ | refine Acc.setCell ?_ (by omega) _))
    clear hb
    go_wp2_with fail
    refine (singleAlike_any _ _ _).mono ?_
    rintro e W3 ⟨rfl, hb⟩
    obtain ⟨c00, c01, c02⟩ := keep3 hb (b := W0.heap.size) (x := .int .i64 x) (y := .int .i64 y) (z := .int .i64 z) (by go_simp)
    have cl0 : W0.heap.size < W3.heap.size := World.block_lt_of_cell? _ _ c00
    have kaW3 : Acc w W3 := by
      refine Acc.call ?_ hb
      (repeat' (first | assumption | exact Acc.refl _ | refine Acc.drew ?_ | refine Acc.drewN ?_ _ | refine Acc.alloc ?_ _ | refine Acc.setCell ?_ (by omega) _))
    clear hb
    go_wp2_with fail
    refine (implWide_any x y z hx hy hz _ (HL.out _ (by repeat' (first | assumption | exact Acc.refl _ | refine Acc.drew ?_ | refine Acc.alloc ?_ _ | refine Acc.setCell ?_ (by omega) _)))).mono ?_
    rintro e W4 ⟨h1, -, hb⟩
    obtain ⟨p, q, rfl, s1, s2⟩ := h1 HO.out
    have R := Lib.hid fun w => run_convert_complex (P := Tryd.prog) w 44 48 .f64 .f32 p q (singleOf x z) (singleOf y z) (by rw [Tryd.underlying44]; rfl) Tryd.underlying48 (by simp [cConvBits, C1.out p s1, C2.out q s2])
    clear h1 s1 s2
    obtain ⟨c00, c01, c02⟩ := keep3 hb (b := W0.heap.size) (x := .int .i64 x) (y := .int .i64 y) (z := .int .i64 z) (by go_simp)
    have cl0 : W0.heap.size < W4.heap.size := World.block_lt_of_cell? _ _ c00
    have kaW4 : Acc w W4 := by
      refine Acc.call ?_ hb
      (repeat' (first | assumption | exact Acc.refl _ | refine Acc.drew ?_ | refine Acc.drewN ?_ _ | refine Acc.alloc ?_ _ | refine Acc.setCell ?_ (by omega) _))
    clear hb
    go_wp2_with (simp only [R.out])
    refine (singleAlike_any _ _ _).mono ?_
    rintro e W5 ⟨rfl, hb⟩
    obtain ⟨c00, c01, c02⟩ := keep3 hb (b := W0.heap.size) (x := .int .i64 x) (y := .int .i64 y) (z := .int .i64 z) (by go_simp)
    have cl0 : W0.heap.size < W5.heap.size := World.block_lt_of_cell? _ _ c00
    have kaW5 : Acc w W5 := by
      refine Acc.call ?_ hb
      (repeat' (first | assumption | exact Acc.refl _ | refine Acc.drew ?_ | refine Acc.drewN ?_ _ | refine Acc.alloc ?_ _ | refine Acc.setCell ?_ (by omega) _))
    clear hb
    go_wp2_with fail
    go_ret
    refine ⟨rfl, ?_⟩
    show Acc w _
    (repeat' (first | assumption | exact Acc.refl _ | refine Acc.drew ?_ | refine Acc.drewN ?_ _ | refine Acc.alloc ?_ _ | refine Acc.setCell ?_ (by omega) _))
end Go.Proofs.YtbihlkienhbapaaDoor
