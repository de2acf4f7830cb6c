/-
  The model: alike light, what is not (1).
-/
import Derived.Test.YtchdcncnlfgjfaaDoorSpecS1
import Derived.Test.YtchdcncnlfgjfaaDoorEqVec
import Derived.Deep.RegionHeld3
import Derived.Deep.RegionWith
namespace Go.Proofs.YtchdcncnlfgjfaaDoor
open Go.ChangeShapes Go.WideShapes Go.ChangeAt Go.RowKit
set_option linter.unusedVariables false

set_option maxHeartbeats 64000000 in
set_option maxRecDepth 100000 in
theorem specSAlike_e1 (a1 a2 a3 b1 b2 b3 c1 c2 c3 d1 d2 d3 i1 i2 i3 j1 j2 j3 k1 k2 k3 l1 l2 l3 : Int) (c1' c2' : Bool) (o10 p10 o20 p20 o21 p21 o30 p30 o31 p31 o32 p32 : Option (Int × Int × Int)) (w : World)
    (KA : ∀ W, Calls Tryd.prog 18 #[.agg #[.int .i64 a1, .int .i64 a2, .int .i64 a3, .int .i64 b1, .int .i64 b2, .int .i64 b3, .int .i64 c1, .int .i64 c2, .int .i64 c3, .int .i64 d1, .int .i64 d2, .int .i64 d3]] W fun e w' => e = .returned (.bool c1') ∧ Below W.heap.size W w')
    (KB : ∀ W, Calls Tryd.prog 18 #[.agg #[.int .i64 i1, .int .i64 i2, .int .i64 i3, .int .i64 j1, .int .i64 j2, .int .i64 j3, .int .i64 k1, .int .i64 k2, .int .i64 k3, .int .i64 l1, .int .i64 l2, .int .i64 l3]] W fun e w' => e = .returned (.bool c2') ∧ Below W.heap.size W w')
    (L10 : ∀ W, Calls Tryd.prog 20 #[.agg #[.int .i64 b1, .int .i64 b2, .int .i64 b3], .agg #[.int .i64 i1, .int .i64 i2, .int .i64 i3]] W (Gave o10 W)) (R10 : ∀ W, Calls Tryd.prog 20 #[.agg #[.int .i64 a1, .int .i64 a2, .int .i64 a3], .agg #[.int .i64 j1, .int .i64 j2, .int .i64 j3]] W (Gave p10 W)) (L20 : ∀ W, Calls Tryd.prog 20 #[.agg #[.int .i64 c1, .int .i64 c2, .int .i64 c3], .agg #[.int .i64 i1, .int .i64 i2, .int .i64 i3]] W (Gave o20 W)) (R20 : ∀ W, Calls Tryd.prog 20 #[.agg #[.int .i64 a1, .int .i64 a2, .int .i64 a3], .agg #[.int .i64 k1, .int .i64 k2, .int .i64 k3]] W (Gave p20 W)) (L21 : ∀ W, Calls Tryd.prog 20 #[.agg #[.int .i64 c1, .int .i64 c2, .int .i64 c3], .agg #[.int .i64 j1, .int .i64 j2, .int .i64 j3]] W (Gave o21 W)) (R21 : ∀ W, Calls Tryd.prog 20 #[.agg #[.int .i64 b1, .int .i64 b2, .int .i64 b3], .agg #[.int .i64 k1, .int .i64 k2, .int .i64 k3]] W (Gave p21 W)) (L30 : ∀ W, Calls Tryd.prog 20 #[.agg #[.int .i64 d1, .int .i64 d2, .int .i64 d3], .agg #[.int .i64 i1, .int .i64 i2, .int .i64 i3]] W (Gave o30 W)) (R30 : ∀ W, Calls Tryd.prog 20 #[.agg #[.int .i64 a1, .int .i64 a2, .int .i64 a3], .agg #[.int .i64 l1, .int .i64 l2, .int .i64 l3]] W (Gave p30 W)) (L31 : ∀ W, Calls Tryd.prog 20 #[.agg #[.int .i64 d1, .int .i64 d2, .int .i64 d3], .agg #[.int .i64 j1, .int .i64 j2, .int .i64 j3]] W (Gave o31 W)) (R31 : ∀ W, Calls Tryd.prog 20 #[.agg #[.int .i64 b1, .int .i64 b2, .int .i64 b3], .agg #[.int .i64 l1, .int .i64 l2, .int .i64 l3]] W (Gave p31 W)) (L32 : ∀ W, Calls Tryd.prog 20 #[.agg #[.int .i64 d1, .int .i64 d2, .int .i64 d3], .agg #[.int .i64 k1, .int .i64 k2, .int .i64 k3]] W (Gave o32 W)) (R32 : ∀ W, Calls Tryd.prog 20 #[.agg #[.int .i64 c1, .int .i64 c2, .int .i64 c3], .agg #[.int .i64 l1, .int .i64 l2, .int .i64 l3]] W (Gave p32 W)) (h1 : c1' = false) :
    Calls Tryd.prog 6 #[.agg #[.int .i64 a1, .int .i64 a2, .int .i64 a3, .int .i64 b1, .int .i64 b2, .int .i64 b3, .int .i64 c1, .int .i64 c2, .int .i64 c3, .int .i64 d1, .int .i64 d2, .int .i64 d3], .agg #[.int .i64 i1, .int .i64 i2, .int .i64 i3, .int .i64 j1, .int .i64 j2, .int .i64 j3, .int .i64 k1, .int .i64 k2, .int .i64 k3, .int .i64 l1, .int .i64 l2, .int .i64 l3]] w fun e w' => e = .returned (.bool ((if (c1' && c2') = true then foldO (signI a1 == signI i1) [(o10, p10), (o20, p20), (o21, p21), (o30, p30), (o31, p31), (o32, p32)] else none).getD false)) ∧ Below w.heap.size w w' := by
  have HA := Lib.hid KA
  have HB := Lib.hid KB
  clear KA KB L10 R10 L20 R20 L21 R21 L30 R30 L31 R31 L32 R32
  obtain ⟨r, E⟩ : ∃ r, (if (c1' && c2') = true then foldO (signI a1 == signI i1) [(o10, p10), (o20, p20), (o21, p21), (o30, p30), (o31, p31), (o32, p32)] else none).getD false = r := ⟨_, rfl⟩
  rw [E]
  have HE := Lib.hid E
  clear E
  subst h1
  obtain rfl : r = false := HE.out.symm
  go_enter Tryd.func6, Tryd.ntmps6
  go_upto_region 1 with fail
  first
    | go_region_with
        (first
          | (go_at_call_of 18 (Value.int IntKind.i64 a1); refine (HA.out _).mono ?_; rintro e W1 ⟨rfl, hb⟩; have Ba : Blk W1 (w.heap.size) [.int .i64 a1, .int .i64 a2, .int .i64 a3, .int .i64 b1, .int .i64 b2, .int .i64 b3, .int .i64 c1, .int .i64 c2, .int .i64 c3, .int .i64 d1, .int .i64 d2, .int .i64 d3] := Blk.keep hb (by repeat' (first | (with_reducible first | assumption | refine Blk.drew ?_ | refine Blk.drewN ?_ _ | apply Blk.set | (refine Blk.new ?_; focus (first | rfl | (simp; done))) | refine Blk.alloc ?_ _ | refine Blk.other ?_ ?_ _) | exact eqL rfl | (refine neB ?_; omega))); have Bb : Blk W1 (w.heap.size + 1) [.int .i64 i1, .int .i64 i2, .int .i64 i3, .int .i64 j1, .int .i64 j2, .int .i64 j3, .int .i64 k1, .int .i64 k2, .int .i64 k3, .int .i64 l1, .int .i64 l2, .int .i64 l3] := Blk.keep hb (by repeat' (first | (with_reducible first | assumption | refine Blk.drew ?_ | refine Blk.drewN ?_ _ | apply Blk.set | (refine Blk.new ?_; focus (first | rfl | (simp; done))) | refine Blk.alloc ?_ _ | refine Blk.other ?_ ?_ _) | exact eqL rfl | (refine neB ?_; omega))); have ca := Ba.cell; have fa := Ba.free; have la_W1 := Ba.lt; have cb := Bb.cell; have fb := Bb.free; have lb_W1 := Bb.lt; have kaW1 : Acc w W1 := (by refine Acc.call ?_ hb; (repeat' (first | (with_reducible first | assumption | exact Acc.refl _ | refine Acc.drew ?_ | refine Acc.drewN ?_ _ | refine Acc.alloc ?_ _ | refine Acc.setCell ?_ ?_ _) | (refine leB ?_; omega)))); clear hb)
          | (go_at_call_of 18 (Value.int IntKind.i64 i1); refine (HB.out _).mono ?_; rintro e W2 ⟨rfl, hb⟩; have Ba : Blk W2 (w.heap.size) [.int .i64 a1, .int .i64 a2, .int .i64 a3, .int .i64 b1, .int .i64 b2, .int .i64 b3, .int .i64 c1, .int .i64 c2, .int .i64 c3, .int .i64 d1, .int .i64 d2, .int .i64 d3] := Blk.keep hb (by repeat' (first | (with_reducible first | assumption | refine Blk.drew ?_ | refine Blk.drewN ?_ _ | apply Blk.set | (refine Blk.new ?_; focus (first | rfl | (simp; done))) | refine Blk.alloc ?_ _ | refine Blk.other ?_ ?_ _) | exact eqL rfl | (refine neB ?_; omega))); have Bb : Blk W2 (w.heap.size + 1) [.int .i64 i1, .int .i64 i2, .int .i64 i3, .int .i64 j1, .int .i64 j2, .int .i64 j3, .int .i64 k1, .int .i64 k2, .int .i64 k3, .int .i64 l1, .int .i64 l2, .int .i64 l3] := Blk.keep hb (by repeat' (first | (with_reducible first | assumption | refine Blk.drew ?_ | refine Blk.drewN ?_ _ | apply Blk.set | (refine Blk.new ?_; focus (first | rfl | (simp; done))) | refine Blk.alloc ?_ _ | refine Blk.other ?_ ?_ _) | exact eqL rfl | (refine neB ?_; omega))); have ca := Ba.cell; have fa := Ba.free; have la_W2 := Ba.lt; have cb := Bb.cell; have fb := Bb.free; have lb_W2 := Bb.lt; have kaW2 : Acc w W2 := (by refine Acc.call ?_ hb; (repeat' (first | (with_reducible first | assumption | exact Acc.refl _ | refine Acc.drew ?_ | refine Acc.drewN ?_ _ | refine Acc.alloc ?_ _ | refine Acc.setCell ?_ ?_ _) | (refine leB ?_; omega)))); clear hb)
          | (go_at_call_of 19 (Value.int IntKind.i64 a1); refine (specSign_any a1 _).mono ?_; rintro e W3 ⟨rfl, rfl⟩)
          | (go_at_call_of 19 (Value.int IntKind.i64 i1); refine (specSign_any i1 _).mono ?_; rintro e W4 ⟨rfl, rfl⟩))
    | fail "region"
  all_goals
    go_wp2_with fail
    go_ret
    refine ⟨rfl, ?_⟩
    show Acc w _
    (repeat' (first | (with_reducible first | assumption | exact Acc.refl _ | refine Acc.drew ?_ | refine Acc.drewN ?_ _ | refine Acc.alloc ?_ _ | refine Acc.setCell ?_ ?_ _) | (refine leB ?_; omega)))
end Go.Proofs.YtchdcncnlfgjfaaDoor
