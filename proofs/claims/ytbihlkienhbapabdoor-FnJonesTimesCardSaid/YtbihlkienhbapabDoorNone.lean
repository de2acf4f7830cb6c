/-
  The program's errors: what is none, told apart by errors.As.
-/
import Derived.Test.YtbihlkienhbapabDoorAs
import Derived.Test.YtbihlkienhbapabDoorSpecLow
namespace Go.Proofs.YtbihlkienhbapabDoor
open Go.ChangeShapes Go.WideShapes Go.ChangeAt Go.RowKit
set_option linter.unusedVariables false

/-- An error that says that something is none. -/
def errV (s : ByteArray) : Value := .iface 104 (.agg #[.string s])

theorem noFrac_any (w : World) : Calls Tryd.prog 109 #[] w fun e w' => ∃ s, e = .returned (.iface 104 (.agg #[.string s])) ∧ w = w' := by
  go_enter Tryd.func109, Tryd.ntmps109
  go_wp2
  go_ret
  exact ⟨_, rfl, rfl⟩
theorem noReal_any (w : World) : Calls Tryd.prog 112 #[] w fun e w' => ∃ s, e = .returned (.iface 104 (.agg #[.string s])) ∧ w = w' := by
  go_enter Tryd.func112, Tryd.ntmps112
  go_wp2
  go_ret
  exact ⟨_, rfl, rfl⟩
theorem isNone_nil (w : World) : Calls Tryd.prog 46 #[.nilIface] w fun e w' => e = .returned (.bool false) ∧ Below w.heap.size w w' := by
  go_enter Tryd.func46, Tryd.ntmps46
  go_wp2_with fail
  refine (as_nil _ _).mono ?_
  rintro e w1 ⟨rfl, rfl⟩
  go_wp2_with fail
  go_ret
  exact ⟨rfl, (Below.refl _ _).alloc (Nat.le_refl _) _⟩
theorem isNone_hit (s : ByteArray) (w : World) (hl : Laid w) : Calls Tryd.prog 46 #[.iface 104 (.agg #[.string s])] w fun e w' => e = .returned (.bool true) ∧ Below w.heap.size w w' := by
  have hA : ∀ o, Laid (w.alloc o) := fun o => hl.acc ((Acc.refl w).alloc o)
  go_enter Tryd.func46, Tryd.ntmps46
  go_wp2_with fail
  refine (as_hit s ⟨w.heap.size, 0, none⟩ _ _ (hA _) (by rw [World.cell?_alloc_at _ _ _ _ rfl]; rfl) (by simp)).mono ?_
  rintro e w1 ⟨rfl, rfl⟩
  go_wp2_with fail
  go_ret
  refine ⟨rfl, ?_⟩
  show Acc w _
  (repeat' (first | assumption | exact Acc.refl _ | refine Acc.drew ?_ | refine Acc.alloc ?_ _ | refine Acc.setCell ?_ (by omega) _))
set_option maxHeartbeats 1000000 in
theorem toldFrac_ok (x y z : Int) (w : World) : Calls Tryd.prog 49 #[.agg #[.int .i64 x, .int .i64 y, .int .i64 z], .nilIface] w (Gave (some (x, y, z)) w) := by
  go_enter Tryd.func49, Tryd.ntmps49
  go_wp2_with fail
  refine (isNone_nil _).mono ?_
  rintro e w1 ⟨rfl, hb⟩
  obtain ⟨q00, q01, q02⟩ := keep3 hb (b := w.heap.size) (x := .int .i64 x) (y := .int .i64 y) (z := .int .i64 z) (by go_simp)
  have kb0 : w.heap.size < w1.heap.size := World.block_lt_of_cell? _ _ q00
  obtain ⟨r0, r1, r2⟩ := keep3 hb (b := w.heap.size + 1) (x := .int .i64 0) (y := .int .i64 0) (z := .int .i64 0) (by go_simp)
  have kz : w.heap.size + 1 < w1.heap.size := World.block_lt_of_cell? _ _ r0
  obtain ⟨f0, f1, f2⟩ := keepf3 hb (b := w.heap.size + 1) (by go_simp) (by go_simp)
  have haw1 : Acc w w1 := by
    refine Acc.call ?_ hb
    (repeat' (first | assumption | exact Acc.refl _ | refine Acc.drew ?_ | refine Acc.alloc ?_ _ | refine Acc.setCell ?_ (by omega) _))
  clear hb
  go_wp2_with fail
  refine bodyPost_ret (v := .tuple #[.agg #[.int .i64 x, .int .i64 y, .int .i64 z], .bool true]) (by simp [results, Tryd.results49, go_sem, r0, r1, r2]) rfl ⟨rfl, ?_⟩
  show Acc w _
  (repeat' (first | assumption | exact Acc.refl _ | refine Acc.drew ?_ | refine Acc.alloc ?_ _ | refine Acc.setCell ?_ (by omega) _))

set_option maxHeartbeats 1000000 in
theorem toldFrac_err (x y z : Int) (s : ByteArray) (w : World) (hl : Laid w) : Calls Tryd.prog 49 #[.agg #[.int .i64 x, .int .i64 y, .int .i64 z], .iface 104 (.agg #[.string s])] w (Gave none w) := by
  have HL := Lib.hid fun W (a : Acc w W) => hl.acc a
  clear hl
  go_enter Tryd.func49, Tryd.ntmps49
  go_wp2_with fail
  refine (isNone_hit s _ (HL.out _ (by repeat' (first | assumption | exact Acc.refl _ | refine Acc.drew ?_ | refine Acc.alloc ?_ _ | refine Acc.setCell ?_ (by omega) _)))).mono ?_
  rintro e w1 ⟨rfl, hb⟩
  obtain ⟨q00, q01, q02⟩ := keep3 hb (b := w.heap.size) (x := .int .i64 x) (y := .int .i64 y) (z := .int .i64 z) (by go_simp)
  have kb0 : w.heap.size < w1.heap.size := World.block_lt_of_cell? _ _ q00
  obtain ⟨r0, r1, r2⟩ := keep3 hb (b := w.heap.size + 1) (x := .int .i64 0) (y := .int .i64 0) (z := .int .i64 0) (by go_simp)
  have kz : w.heap.size + 1 < w1.heap.size := World.block_lt_of_cell? _ _ r0
  obtain ⟨f0, f1, f2⟩ := keepf3 hb (b := w.heap.size + 1) (by go_simp) (by go_simp)
  have haw1 : Acc w w1 := by
    refine Acc.call ?_ hb
    (repeat' (first | assumption | exact Acc.refl _ | refine Acc.drew ?_ | refine Acc.alloc ?_ _ | refine Acc.setCell ?_ (by omega) _))
  clear hb
  go_wp2_with fail
  refine bodyPost_ret (v := .tuple #[.agg #[.int .i64 0, .int .i64 0, .int .i64 0], .bool false]) (by simp [results, Tryd.results49, go_sem, r0, r1, r2, kz]) rfl ⟨rfl, ?_⟩
  show Acc w _
  (repeat' (first | assumption | exact Acc.refl _ | refine Acc.drew ?_ | refine Acc.alloc ?_ _ | refine Acc.setCell ?_ (by omega) _))

set_option maxHeartbeats 1000000 in
theorem toldInt_ok (n : Int) (w : World) : Calls Tryd.prog 63 #[.int .i64 n, .nilIface] w fun e w' => e = .returned (.tuple #[.int .i64 n, .bool true]) ∧ Below w.heap.size w w' := by
  go_enter Tryd.func63, Tryd.ntmps63
  go_wp2_with fail
  refine (isNone_nil _).mono ?_
  rintro e w1 ⟨rfl, hb⟩
  go_wp2_with fail
  go_ret2
  exact ⟨rfl, hb⟩
set_option maxHeartbeats 1000000 in
theorem toldInt_err (n : Int) (s : ByteArray) (w : World) (hl : Laid w) : Calls Tryd.prog 63 #[.int .i64 n, .iface 104 (.agg #[.string s])] w fun e w' => e = .returned (.tuple #[.int .i64 0, .bool false]) ∧ Below w.heap.size w w' := by
  go_enter Tryd.func63, Tryd.ntmps63
  go_wp2_with fail
  refine (isNone_hit s _ hl).mono ?_
  rintro e w1 ⟨rfl, hb⟩
  go_wp2_with fail
  go_ret2
  exact ⟨rfl, hb⟩
set_option maxHeartbeats 1000000 in
theorem toldWide_ok (p q : Nat) (w : World) : Calls Tryd.prog 77 #[.complex .f64 p q, .nilIface] w fun e w' => e = .returned (.tuple #[.complex .f64 p q, .bool true]) ∧ Below w.heap.size w w' := by
  go_enter Tryd.func77, Tryd.ntmps77
  go_wp2_with fail
  refine (isNone_nil _).mono ?_
  rintro e w1 ⟨rfl, hb⟩
  go_wp2_with fail
  go_ret2
  exact ⟨rfl, hb⟩
set_option maxHeartbeats 1000000 in
theorem toldWide_err (p q : Nat) (s : ByteArray) (w : World) (hl : Laid w) : Calls Tryd.prog 77 #[.complex .f64 p q, .iface 104 (.agg #[.string s])] w fun e w' => e = .returned (.tuple #[.complex .f64 0 0, .bool false]) ∧ Below w.heap.size w w' := by
  go_enter Tryd.func77, Tryd.ntmps77
  go_wp2_with fail
  refine (isNone_hit s _ hl).mono ?_
  rintro e w1 ⟨rfl, hb⟩
  go_wp2_with fail
  go_ret2
  exact ⟨rfl, hb⟩
end Go.Proofs.YtbihlkienhbapabDoor
