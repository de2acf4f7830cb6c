/-
  The model: fractions made of their parts; mirrored ones.
-/
import Derived.Test.YtpbibfefcepeiaaDoorSpecTimes
namespace Go.Proofs.YtpbibfefcepeiaaDoor
open Go.ChangeShapes Go.WideShapes Go.ChangeAt Go.RowKit
set_option linter.unusedVariables false

def makeF (re im den : Int) : Option (Int × Int × Int) :=
  if (inB den 1 1000000000000000000 && inB re (-1000000000000000000) 1000000000000000000 && inB im (-1000000000000000000) 1000000000000000000) = true then lowF re im den else none
set_option maxHeartbeats 1000000 in
theorem specMake_any (re im den : Int) (w : World) :
    Calls Tryd.prog 19 #[.int .i64 re, .int .i64 im, .int .i64 den] w (Gave (makeF re im den) w) := by
  cases h1 : inB den 1 1000000000000000000 with
  | false =>
    have e : makeF re im den = none := by unfold makeF; rw [h1]; rfl
    rw [e]
    have H1 := Lib.hid h1
    clear h1 e
    go_enter Tryd.func19, Tryd.ntmps19
    go_wp2_with fail
    refine (specIn_of den 1 1000000000000000000 false H1.out _).mono ?_
    rintro e w1 ⟨rfl, rfl⟩
    go_wp2_with fail
    exact bodyPost_ret (v := .tuple #[.agg #[.int .i64 0, .int .i64 0, .int .i64 0], .bool false]) (by simp [results, Tryd.results19, go_sem]) rfl ⟨rfl, (Below.refl _ _).alloc (Nat.le_refl _) _⟩
  | true =>
  have H1 := Lib.hid h1
  cases h2 : inB re (-1000000000000000000) 1000000000000000000 with
  | false =>
    have e : makeF re im den = none := by unfold makeF; rw [h1, h2]; rfl
    rw [e]
    have H2 := Lib.hid h2
    clear h1 h2 e
    go_enter Tryd.func19, Tryd.ntmps19
    go_wp2_with fail
    refine (specIn_of den 1 1000000000000000000 true H1.out _).mono ?_
    rintro e w1 ⟨rfl, rfl⟩
    go_wp2_with fail
    refine (specIn_of re (-1000000000000000000) 1000000000000000000 false H2.out _).mono ?_
    rintro e w1 ⟨rfl, rfl⟩
    go_wp2_with fail
    exact bodyPost_ret (v := .tuple #[.agg #[.int .i64 0, .int .i64 0, .int .i64 0], .bool false]) (by simp [results, Tryd.results19, go_sem]) rfl ⟨rfl, (Below.refl _ _).alloc (Nat.le_refl _) _⟩
  | true =>
  have H2 := Lib.hid h2
  cases h3 : inB im (-1000000000000000000) 1000000000000000000 with
  | false =>
    have e : makeF re im den = none := by unfold makeF; rw [h1, h2, h3]; rfl
    rw [e]
    have H3 := Lib.hid h3
    clear h1 h2 h3 e
    go_enter Tryd.func19, Tryd.ntmps19
    go_wp2_with fail
    refine (specIn_of den 1 1000000000000000000 true H1.out _).mono ?_
    rintro e w1 ⟨rfl, rfl⟩
    go_wp2_with fail
    refine (specIn_of re (-1000000000000000000) 1000000000000000000 true H2.out _).mono ?_
    rintro e w1 ⟨rfl, rfl⟩
    go_wp2_with fail
    refine (specIn_of im (-1000000000000000000) 1000000000000000000 false H3.out _).mono ?_
    rintro e w1 ⟨rfl, rfl⟩
    go_wp2_with fail
    exact bodyPost_ret (v := .tuple #[.agg #[.int .i64 0, .int .i64 0, .int .i64 0], .bool false]) (by simp [results, Tryd.results19, go_sem]) rfl ⟨rfl, (Below.refl _ _).alloc (Nat.le_refl _) _⟩
  | true =>
    have e : makeF re im den = lowF re im den := by unfold makeF; rw [h1, h2, h3]; rfl
    rw [e]
    have H3 := Lib.hid h3
    have b1 := inB_bd h1
    have b2 := inB_bd h2
    have b3 := inB_bd h3
    clear h1 h2 h3 e
    obtain ⟨o, ho⟩ : ∃ o, lowF re im den = o := ⟨_, rfl⟩
    rw [ho]
    have HO := Lib.hid ho
    clear ho
    have C := Lib.hid fun w => specLow_any re im den w (by omega) (by omega) (by omega)
    clear b1 b2 b3
    go_enter Tryd.func19, Tryd.ntmps19
    go_wp2_with fail
    refine (specIn_of den 1 1000000000000000000 true H1.out _).mono ?_
    rintro e w1 ⟨rfl, rfl⟩
    go_wp2_with fail
    refine (specIn_of re (-1000000000000000000) 1000000000000000000 true H2.out _).mono ?_
    rintro e w1 ⟨rfl, rfl⟩
    go_wp2_with fail
    refine (specIn_of im (-1000000000000000000) 1000000000000000000 true H3.out _).mono ?_
    rintro e w1 ⟨rfl, rfl⟩
    go_wp2_with fail
    refine (C.out _).mono ?_
    rw [HO.out]
    rintro e w3 ⟨rfl, hb⟩
    obtain ⟨r0, r1, r2⟩ := keep3 hb (b := w.heap.size) (x := .int .i64 0) (y := .int .i64 0) (z := .int .i64 0) (by go_simp)
    have kz : w.heap.size < w3.heap.size := World.block_lt_of_cell? _ _ r0
    obtain ⟨f0, f1, f2⟩ := keepf3 hb (b := w.heap.size) (by go_simp) (by go_simp)
    have haw3 : Acc w w3 := by
      refine Acc.call ?_ hb
      (repeat' (first | assumption | exact Acc.refl _ | refine Acc.drew ?_ | refine Acc.alloc ?_ _ | refine Acc.setCell ?_ (by omega) _))
    clear hb
    rw [resV_eq]
    go_wp2_with fail
    refine bodyPost_ret (v := .tuple #[.agg #[.int .i64 (partsR o).1, .int .i64 (partsR o).2.1, .int .i64 (partsR o).2.2], .bool (okR o)]) (by simp [results, Tryd.results19, go_sem, r0, r1, r2]) rfl ⟨by rw [resV_eq], ?_⟩
    show Acc w _
    (repeat' (first | assumption | exact Acc.refl _ | refine Acc.drew ?_ | refine Acc.alloc ?_ _ | refine Acc.setCell ?_ (by omega) _))

def mirrorF (x y z : Int) : Option (Int × Int × Int) := if okF x y z = true then some (x, -y, z) else none
set_option maxHeartbeats 1000000 in
theorem specMirror_any (x y z : Int) (w : World) :
    Calls Tryd.prog 34 #[.agg #[.int .i64 x, .int .i64 y, .int .i64 z]] w (Gave (mirrorF x y z) w) := by
  cases h1 : okF x y z with
  | false =>
    have e : mirrorF x y z = none := by unfold mirrorF; rw [h1]; rfl
    rw [e]
    have H1 := Lib.hid h1
    clear h1 e
    go_enter Tryd.func34, Tryd.ntmps34
    go_wp2_with fail
    refine (specValid_any x y z _).mono ?_
    rw [H1.out]
    rintro e w1 ⟨rfl, hb⟩
    obtain ⟨q00, q01, q02⟩ := keep3 hb (b := w.heap.size) (x := .int .i64 x) (y := .int .i64 y) (z := .int .i64 z) (by go_simp)
    obtain ⟨r0, r1, r2⟩ := keep3 hb (b := w.heap.size + 1) (x := .int .i64 0) (y := .int .i64 0) (z := .int .i64 0) (by go_simp)
    have kz : w.heap.size + 1 < w1.heap.size := World.block_lt_of_cell? _ _ r0
    obtain ⟨f0, f1, f2⟩ := keepf3 hb (b := w.heap.size + 1) (by go_simp) (by go_simp)
    have haw1 : Acc w w1 := by
      refine Acc.call ?_ hb
      (repeat' (first | assumption | exact Acc.refl _ | refine Acc.drew ?_ | refine Acc.alloc ?_ _ | refine Acc.setCell ?_ (by omega) _))
    clear hb
    go_wp2_with fail
    refine bodyPost_ret (v := .tuple #[.agg #[.int .i64 0, .int .i64 0, .int .i64 0], .bool false]) (by simp [results, Tryd.results34, go_sem, r0, r1, r2]) rfl ⟨rfl, ?_⟩
    show Acc w _
    (repeat' (first | assumption | exact Acc.refl _ | refine Acc.drew ?_ | refine Acc.alloc ?_ _ | refine Acc.setCell ?_ (by omega) _))
  | true =>
    obtain ⟨⟨x0, x1⟩, ⟨y0, y1⟩, ⟨z0, z1⟩⟩ := okF_bd h1
    have e : mirrorF x y z = some (x, -y, z) := by unfold mirrorF; rw [h1]; rfl
    rw [e]
    have H1 := Lib.hid h1
    clear h1 e
    go_enter Tryd.func34, Tryd.ntmps34
    go_wp2_with fail
    refine (specValid_any x y z _).mono ?_
    rw [H1.out]
    rintro e w1 ⟨rfl, hb⟩
    obtain ⟨q00, q01, q02⟩ := keep3 hb (b := w.heap.size) (x := .int .i64 x) (y := .int .i64 y) (z := .int .i64 z) (by go_simp)
    obtain ⟨r0, r1, r2⟩ := keep3 hb (b := w.heap.size + 1) (x := .int .i64 0) (y := .int .i64 0) (z := .int .i64 0) (by go_simp)
    have kz : w.heap.size + 1 < w1.heap.size := World.block_lt_of_cell? _ _ r0
    obtain ⟨f0, f1, f2⟩ := keepf3 hb (b := w.heap.size + 1) (by go_simp) (by go_simp)
    have haw1 : Acc w w1 := by
      refine Acc.call ?_ hb
      (repeat' (first | assumption | exact Acc.refl _ | refine Acc.drew ?_ | refine Acc.alloc ?_ _ | refine Acc.setCell ?_ (by omega) _))
    clear hb
    go_wp2_with fail
    refine bodyPost_ret (v := .tuple #[.agg #[.int .i64 x, .int .i64 (-y), .int .i64 z], .bool true]) (by simp [results, Tryd.results34, go_sem, r0, r1, r2]) rfl ⟨rfl, ?_⟩
    show Acc w _
    (repeat' (first | assumption | exact Acc.refl _ | refine Acc.drew ?_ | refine Acc.alloc ?_ _ | refine Acc.setCell ?_ (by omega) _))

end Go.Proofs.YtpbibfefcepeiaaDoor
