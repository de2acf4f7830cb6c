/-
  The law of products.
-/
import Derived.Test.YtpbibfefcepeiaaDoorDrawTwo
import Derived.Test.YtpbibfefcepeiaaDoorFracMath
import Derived.Test.YtpbibfefcepeiaaDoorGave
import Derived.Test.YtpbibfefcepeiaaDoorImplFn
namespace Go.Proofs.YtpbibfefcepeiaaDoor
open Go.ChangeShapes Go.WideShapes Go.ChangeAt Go.RowKit
set_option linter.unusedVariables false

theorem parts_some {o : Option (Int × Int × Int)} {v : Int × Int × Int} (hp : partsR o = v) (hk : okR o = true) : o = some v := by
  cases o with
  | none => cases hk
  | some u => rw [← hp]; rfl
set_option maxHeartbeats 4000000 in
theorem fnTimes_law (w : World) (hl : Laid w) (s : Option Addr) (len cap : Nat) (h : Code8 w s len cap) :
    Calls Tryd.prog 7 #[.slice s len cap] w (Fine w) := by
  have hm := h.2.1
  have hl' := h.1
  unfold maxLen at hm
  have HL := Lib.hid fun W (k : Acc w W) => hl.acc k
  clear hl
  by_cases hlen : 1048576 < len
  · clear h
    have hlen' : (1048576 : Int) < (len : Int) := by omega
    go_enter Tryd.func7, Tryd.ntmps7
    go_wp2_with fail
    go_ret
    exact ⟨rfl, Below.refl _ _⟩
  have hlen' : ¬ (1048576 : Int) < (len : Int) := by omega
  go_enter Tryd.func7, Tryd.ntmps7
  go_wp2_with fail
  refine (drawFracTimes_any s len cap w h).mono ?_
  rintro e W0 ⟨x, y, z, a, b, c, rfl, hx, hy, hz, ha, hb', hc, hb⟩
  have kaW0 : Acc w W0 := hb
  clear hb h
  go_wp2_with fail
  cases ho : timesF x y z a b c with
  | none =>
    have HO := Lib.hid ho
    clear ho
    refine (gave_none HO.out (implTimes_any x y z a b c hx hy hz ha hb' hc _ (HL.out _ (by repeat' (first | assumption | exact Acc.refl _ | refine Acc.drew ?_ | refine Acc.alloc ?_ _ | refine Acc.setCell ?_ (by omega) _))))).mono ?_
    rintro e W1 ⟨rfl, hb⟩
    obtain ⟨c00, c01, c02⟩ := keep3 hb (b := W0.heap.size) (x := .int .i64 x) (y := .int .i64 y) (z := .int .i64 z) (by go_simp)
    have cl0 : W0.heap.size < W1.heap.size := World.block_lt_of_cell? _ _ c00
    obtain ⟨c10, c11, c12⟩ := keep3 hb (b := W0.heap.size + 1) (x := .int .i64 a) (y := .int .i64 b) (z := .int .i64 c) (by go_simp)
    have cl1 : W0.heap.size + 1 < W1.heap.size := World.block_lt_of_cell? _ _ c10
    have kaW1 : Acc w W1 := by
      refine Acc.call ?_ hb
      (repeat' (first | assumption | exact Acc.refl _ | refine Acc.drew ?_ | refine Acc.drewN ?_ _ | refine Acc.alloc ?_ _ | refine Acc.setCell ?_ (by omega) _))
    clear hb
    go_wp2_with fail
    refine (gave_none HO.out (specTimes_any x y z a b c _)).mono ?_
    rintro e W2 ⟨rfl, hb⟩
    obtain ⟨c00, c01, c02⟩ := keep3 hb (b := W0.heap.size) (x := .int .i64 x) (y := .int .i64 y) (z := .int .i64 z) (by go_simp)
    have cl0 : W0.heap.size < W2.heap.size := World.block_lt_of_cell? _ _ c00
    obtain ⟨c10, c11, c12⟩ := keep3 hb (b := W0.heap.size + 1) (x := .int .i64 a) (y := .int .i64 b) (z := .int .i64 c) (by go_simp)
    have cl1 : W0.heap.size + 1 < W2.heap.size := World.block_lt_of_cell? _ _ c10
    obtain ⟨c20, c21, c22⟩ := keep3 hb (b := W1.heap.size) (x := .int .i64 0) (y := .int .i64 0) (z := .int .i64 0) (by go_simp)
    have cl2 : W1.heap.size < W2.heap.size := World.block_lt_of_cell? _ _ c20
    have kaW2 : Acc w W2 := by
      refine Acc.call ?_ hb
      (repeat' (first | assumption | exact Acc.refl _ | refine Acc.drew ?_ | refine Acc.drewN ?_ _ | refine Acc.alloc ?_ _ | refine Acc.setCell ?_ (by omega) _))
    clear hb
    go_wp2_with fail
    go_ret
    refine ⟨rfl, ?_⟩
    show Acc w _
    (repeat' (first | assumption | exact Acc.refl _ | refine Acc.drew ?_ | refine Acc.drewN ?_ _ | refine Acc.alloc ?_ _ | refine Acc.setCell ?_ (by omega) _))
  | some v =>
    obtain ⟨p, q, r⟩ := v
    have HO := Lib.hid ho
    obtain ⟨⟨u1, u2, u3⟩, hu⟩ : ∃ o, partsR (overF p q r a b c) = o := ⟨_, rfl⟩
    obtain ⟨k1, hk1⟩ : ∃ k, okR (overF p q r a b c) = k := ⟨_, rfl⟩
    obtain ⟨⟨d1, d2, d3⟩, hd⟩ : ∃ o, partsR (powerF x y z) = o := ⟨_, rfl⟩
    obtain ⟨k2, hk2⟩ : ∃ k, okR (powerF x y z) = k := ⟨_, rfl⟩
    obtain ⟨⟨f1, f2, f3⟩, hf⟩ : ∃ o, partsR (powerF a b c) = o := ⟨_, rfl⟩
    obtain ⟨k3, hk3⟩ : ∃ k, okR (powerF a b c) = k := ⟨_, rfl⟩
    obtain ⟨⟨g1, g2, g3⟩, hg⟩ : ∃ o, partsR (timesF d1 d2 d3 f1 f2 f3) = o := ⟨_, rfl⟩
    obtain ⟨k4, hk4⟩ : ∃ k, okR (timesF d1 d2 d3 f1 f2 f3) = k := ⟨_, rfl⟩
    obtain ⟨⟨m1, m2, m3⟩, hm⟩ : ∃ o, partsR (powerF p q r) = o := ⟨_, rfl⟩
    obtain ⟨k5, hk5⟩ : ∃ k, okR (powerF p q r) = k := ⟨_, rfl⟩
    have F1 : k1 = true → (u1, u2, u3) = (x, y, z) := fun h => times_over ho (parts_some hu (hk1.trans h))
    have F2 : k2 = true → k3 = true → k4 = true → k5 = true → (g1, g2, g3) = (m1, m2, m3) := fun h2 h3 h4 h5 => power_times ho (parts_some hd (hk2.trans h2)) (parts_some hf (hk3.trans h3)) (parts_some hg (hk4.trans h4)) (parts_some hm (hk5.trans h5))
    obtain ⟨bd1, bd2, bd3⟩ := parts_i64 (fun _ _ _ h => (power_some h).2.1) hd
    obtain ⟨bf1, bf2, bf3⟩ := parts_i64 (fun _ _ _ h => (power_some h).2.1) hf
    have Cu := Lib.hid hu
    have Du := Lib.hid hk1
    have Cd := Lib.hid hd
    have Dd := Lib.hid hk2
    have Cf := Lib.hid hf
    have Df := Lib.hid hk3
    have Cg := Lib.hid hg
    have Dg := Lib.hid hk4
    have Cm := Lib.hid hm
    have Dm := Lib.hid hk5
    have F1' := Lib.hid F1
    have F2' := Lib.hid F2
    obtain ⟨hp, hq, hr⟩ := okF_i64 ((times_some ho).2.2.1)
    clear ho
    refine (gave_some HO.out (implTimes_any x y z a b c hx hy hz ha hb' hc _ (HL.out _ (by repeat' (first | assumption | exact Acc.refl _ | refine Acc.drew ?_ | refine Acc.alloc ?_ _ | refine Acc.setCell ?_ (by omega) _))))).mono ?_
    rintro e W1 ⟨rfl, hb⟩
    obtain ⟨c00, c01, c02⟩ := keep3 hb (b := W0.heap.size) (x := .int .i64 x) (y := .int .i64 y) (z := .int .i64 z) (by go_simp)
    have cl0 : W0.heap.size < W1.heap.size := World.block_lt_of_cell? _ _ c00
    obtain ⟨c10, c11, c12⟩ := keep3 hb (b := W0.heap.size + 1) (x := .int .i64 a) (y := .int .i64 b) (z := .int .i64 c) (by go_simp)
    have cl1 : W0.heap.size + 1 < W1.heap.size := World.block_lt_of_cell? _ _ c10
    have kaW1 : Acc w W1 := by
      refine Acc.call ?_ hb
      (repeat' (first | assumption | exact Acc.refl _ | refine Acc.drew ?_ | refine Acc.drewN ?_ _ | refine Acc.alloc ?_ _ | refine Acc.setCell ?_ (by omega) _))
    clear hb
    go_wp2_with fail
    refine (gave_some HO.out (specTimes_any x y z a b c _)).mono ?_
    rintro e W2 ⟨rfl, hb⟩
    obtain ⟨c00, c01, c02⟩ := keep3 hb (b := W0.heap.size) (x := .int .i64 x) (y := .int .i64 y) (z := .int .i64 z) (by go_simp)
    have cl0 : W0.heap.size < W2.heap.size := World.block_lt_of_cell? _ _ c00
    obtain ⟨c10, c11, c12⟩ := keep3 hb (b := W0.heap.size + 1) (x := .int .i64 a) (y := .int .i64 b) (z := .int .i64 c) (by go_simp)
    have cl1 : W0.heap.size + 1 < W2.heap.size := World.block_lt_of_cell? _ _ c10
    obtain ⟨c20, c21, c22⟩ := keep3 hb (b := W1.heap.size) (x := .int .i64 p) (y := .int .i64 q) (z := .int .i64 r) (by go_simp)
    have cl2 : W1.heap.size < W2.heap.size := World.block_lt_of_cell? _ _ c20
    have kaW2 : Acc w W2 := by
      refine Acc.call ?_ hb
      (repeat' (first | assumption | exact Acc.refl _ | refine Acc.drew ?_ | refine Acc.drewN ?_ _ | refine Acc.alloc ?_ _ | refine Acc.setCell ?_ (by omega) _))
    clear hb
    go_wp2_with fail
    refine (gave_some (times_comm HO.out) (implTimes_any a b c x y z ha hb' hc hx hy hz _ (HL.out _ (by repeat' (first | assumption | exact Acc.refl _ | refine Acc.drew ?_ | refine Acc.alloc ?_ _ | refine Acc.setCell ?_ (by omega) _))))).mono ?_
    rintro e W3 ⟨rfl, hb⟩
    obtain ⟨c00, c01, c02⟩ := keep3 hb (b := W0.heap.size) (x := .int .i64 x) (y := .int .i64 y) (z := .int .i64 z) (by go_simp)
    have cl0 : W0.heap.size < W3.heap.size := World.block_lt_of_cell? _ _ c00
    obtain ⟨c10, c11, c12⟩ := keep3 hb (b := W0.heap.size + 1) (x := .int .i64 a) (y := .int .i64 b) (z := .int .i64 c) (by go_simp)
    have cl1 : W0.heap.size + 1 < W3.heap.size := World.block_lt_of_cell? _ _ c10
    obtain ⟨c20, c21, c22⟩ := keep3 hb (b := W1.heap.size) (x := .int .i64 p) (y := .int .i64 q) (z := .int .i64 r) (by go_simp)
    have cl2 : W1.heap.size < W3.heap.size := World.block_lt_of_cell? _ _ c20
    obtain ⟨c30, c31, c32⟩ := keep3 hb (b := W2.heap.size) (x := .int .i64 p) (y := .int .i64 q) (z := .int .i64 r) (by go_simp)
    have cl3 : W2.heap.size < W3.heap.size := World.block_lt_of_cell? _ _ c30
    have kaW3 : Acc w W3 := by
      refine Acc.call ?_ hb
      (repeat' (first | assumption | exact Acc.refl _ | refine Acc.drew ?_ | refine Acc.drewN ?_ _ | refine Acc.alloc ?_ _ | refine Acc.setCell ?_ (by omega) _))
    clear hb
    go_wp2_with fail
    refine (gave_any Cu.out Du.out (implOver_any p q r a b c hp hq hr ha hb' hc _ (HL.out _ (by repeat' (first | assumption | exact Acc.refl _ | refine Acc.drew ?_ | refine Acc.alloc ?_ _ | refine Acc.setCell ?_ (by omega) _))))).mono ?_
    rintro e W4 ⟨rfl, hb⟩
    obtain ⟨c00, c01, c02⟩ := keep3 hb (b := W0.heap.size) (x := .int .i64 x) (y := .int .i64 y) (z := .int .i64 z) (by go_simp)
    have cl0 : W0.heap.size < W4.heap.size := World.block_lt_of_cell? _ _ c00
    obtain ⟨c10, c11, c12⟩ := keep3 hb (b := W0.heap.size + 1) (x := .int .i64 a) (y := .int .i64 b) (z := .int .i64 c) (by go_simp)
    have cl1 : W0.heap.size + 1 < W4.heap.size := World.block_lt_of_cell? _ _ c10
    obtain ⟨c20, c21, c22⟩ := keep3 hb (b := W1.heap.size) (x := .int .i64 p) (y := .int .i64 q) (z := .int .i64 r) (by go_simp)
    have cl2 : W1.heap.size < W4.heap.size := World.block_lt_of_cell? _ _ c20
    obtain ⟨c30, c31, c32⟩ := keep3 hb (b := W2.heap.size) (x := .int .i64 p) (y := .int .i64 q) (z := .int .i64 r) (by go_simp)
    have cl3 : W2.heap.size < W4.heap.size := World.block_lt_of_cell? _ _ c30
    obtain ⟨c40, c41, c42⟩ := keep3 hb (b := W3.heap.size) (x := .int .i64 p) (y := .int .i64 q) (z := .int .i64 r) (by go_simp)
    have cl4 : W3.heap.size < W4.heap.size := World.block_lt_of_cell? _ _ c40
    have kaW4 : Acc w W4 := by
      refine Acc.call ?_ hb
      (repeat' (first | assumption | exact Acc.refl _ | refine Acc.drew ?_ | refine Acc.drewN ?_ _ | refine Acc.alloc ?_ _ | refine Acc.setCell ?_ (by omega) _))
    clear hb
    go_wp2_with fail
    refine (gave_any Cd.out Dd.out (implPower_any x y z hx hy hz _ (HL.out _ (by repeat' (first | assumption | exact Acc.refl _ | refine Acc.drew ?_ | refine Acc.alloc ?_ _ | refine Acc.setCell ?_ (by omega) _))))).mono ?_
    rintro e W5 ⟨rfl, hb⟩
    obtain ⟨c00, c01, c02⟩ := keep3 hb (b := W0.heap.size) (x := .int .i64 x) (y := .int .i64 y) (z := .int .i64 z) (by go_simp)
    have cl0 : W0.heap.size < W5.heap.size := World.block_lt_of_cell? _ _ c00
    obtain ⟨c10, c11, c12⟩ := keep3 hb (b := W0.heap.size + 1) (x := .int .i64 a) (y := .int .i64 b) (z := .int .i64 c) (by go_simp)
    have cl1 : W0.heap.size + 1 < W5.heap.size := World.block_lt_of_cell? _ _ c10
    obtain ⟨c20, c21, c22⟩ := keep3 hb (b := W1.heap.size) (x := .int .i64 p) (y := .int .i64 q) (z := .int .i64 r) (by go_simp)
    have cl2 : W1.heap.size < W5.heap.size := World.block_lt_of_cell? _ _ c20
    obtain ⟨c30, c31, c32⟩ := keep3 hb (b := W2.heap.size) (x := .int .i64 p) (y := .int .i64 q) (z := .int .i64 r) (by go_simp)
    have cl3 : W2.heap.size < W5.heap.size := World.block_lt_of_cell? _ _ c30
    obtain ⟨c40, c41, c42⟩ := keep3 hb (b := W3.heap.size) (x := .int .i64 p) (y := .int .i64 q) (z := .int .i64 r) (by go_simp)
    have cl4 : W3.heap.size < W5.heap.size := World.block_lt_of_cell? _ _ c40
    obtain ⟨c50, c51, c52⟩ := keep3 hb (b := W4.heap.size) (x := .int .i64 u1) (y := .int .i64 u2) (z := .int .i64 u3) (by go_simp)
    have cl5 : W4.heap.size < W5.heap.size := World.block_lt_of_cell? _ _ c50
    have kaW5 : Acc w W5 := by
      refine Acc.call ?_ hb
      (repeat' (first | assumption | exact Acc.refl _ | refine Acc.drew ?_ | refine Acc.drewN ?_ _ | refine Acc.alloc ?_ _ | refine Acc.setCell ?_ (by omega) _))
    clear hb
    go_wp2_with fail
    refine (gave_any Cf.out Df.out (implPower_any a b c ha hb' hc _ (HL.out _ (by repeat' (first | assumption | exact Acc.refl _ | refine Acc.drew ?_ | refine Acc.alloc ?_ _ | refine Acc.setCell ?_ (by omega) _))))).mono ?_
    rintro e W6 ⟨rfl, hb⟩
    obtain ⟨c00, c01, c02⟩ := keep3 hb (b := W0.heap.size) (x := .int .i64 x) (y := .int .i64 y) (z := .int .i64 z) (by go_simp)
    have cl0 : W0.heap.size < W6.heap.size := World.block_lt_of_cell? _ _ c00
    obtain ⟨c10, c11, c12⟩ := keep3 hb (b := W0.heap.size + 1) (x := .int .i64 a) (y := .int .i64 b) (z := .int .i64 c) (by go_simp)
    have cl1 : W0.heap.size + 1 < W6.heap.size := World.block_lt_of_cell? _ _ c10
    obtain ⟨c20, c21, c22⟩ := keep3 hb (b := W1.heap.size) (x := .int .i64 p) (y := .int .i64 q) (z := .int .i64 r) (by go_simp)
    have cl2 : W1.heap.size < W6.heap.size := World.block_lt_of_cell? _ _ c20
    obtain ⟨c30, c31, c32⟩ := keep3 hb (b := W2.heap.size) (x := .int .i64 p) (y := .int .i64 q) (z := .int .i64 r) (by go_simp)
    have cl3 : W2.heap.size < W6.heap.size := World.block_lt_of_cell? _ _ c30
    obtain ⟨c40, c41, c42⟩ := keep3 hb (b := W3.heap.size) (x := .int .i64 p) (y := .int .i64 q) (z := .int .i64 r) (by go_simp)
    have cl4 : W3.heap.size < W6.heap.size := World.block_lt_of_cell? _ _ c40
    obtain ⟨c50, c51, c52⟩ := keep3 hb (b := W4.heap.size) (x := .int .i64 u1) (y := .int .i64 u2) (z := .int .i64 u3) (by go_simp)
    have cl5 : W4.heap.size < W6.heap.size := World.block_lt_of_cell? _ _ c50
    obtain ⟨c60, c61, c62⟩ := keep3 hb (b := W5.heap.size) (x := .int .i64 d1) (y := .int .i64 d2) (z := .int .i64 d3) (by go_simp)
    have cl6 : W5.heap.size < W6.heap.size := World.block_lt_of_cell? _ _ c60
    have kaW6 : Acc w W6 := by
      refine Acc.call ?_ hb
      (repeat' (first | assumption | exact Acc.refl _ | refine Acc.drew ?_ | refine Acc.drewN ?_ _ | refine Acc.alloc ?_ _ | refine Acc.setCell ?_ (by omega) _))
    clear hb
    go_wp2_with fail
    refine (gave_any Cg.out Dg.out (implTimes_any d1 d2 d3 f1 f2 f3 bd1 bd2 bd3 bf1 bf2 bf3 _ (HL.out _ (by repeat' (first | assumption | exact Acc.refl _ | refine Acc.drew ?_ | refine Acc.alloc ?_ _ | refine Acc.setCell ?_ (by omega) _))))).mono ?_
    rintro e W7 ⟨rfl, hb⟩
    obtain ⟨c00, c01, c02⟩ := keep3 hb (b := W0.heap.size) (x := .int .i64 x) (y := .int .i64 y) (z := .int .i64 z) (by go_simp)
    have cl0 : W0.heap.size < W7.heap.size := World.block_lt_of_cell? _ _ c00
    obtain ⟨c10, c11, c12⟩ := keep3 hb (b := W0.heap.size + 1) (x := .int .i64 a) (y := .int .i64 b) (z := .int .i64 c) (by go_simp)
    have cl1 : W0.heap.size + 1 < W7.heap.size := World.block_lt_of_cell? _ _ c10
    obtain ⟨c20, c21, c22⟩ := keep3 hb (b := W1.heap.size) (x := .int .i64 p) (y := .int .i64 q) (z := .int .i64 r) (by go_simp)
    have cl2 : W1.heap.size < W7.heap.size := World.block_lt_of_cell? _ _ c20
    obtain ⟨c30, c31, c32⟩ := keep3 hb (b := W2.heap.size) (x := .int .i64 p) (y := .int .i64 q) (z := .int .i64 r) (by go_simp)
    have cl3 : W2.heap.size < W7.heap.size := World.block_lt_of_cell? _ _ c30
    obtain ⟨c40, c41, c42⟩ := keep3 hb (b := W3.heap.size) (x := .int .i64 p) (y := .int .i64 q) (z := .int .i64 r) (by go_simp)
    have cl4 : W3.heap.size < W7.heap.size := World.block_lt_of_cell? _ _ c40
    obtain ⟨c50, c51, c52⟩ := keep3 hb (b := W4.heap.size) (x := .int .i64 u1) (y := .int .i64 u2) (z := .int .i64 u3) (by go_simp)
    have cl5 : W4.heap.size < W7.heap.size := World.block_lt_of_cell? _ _ c50
    obtain ⟨c60, c61, c62⟩ := keep3 hb (b := W5.heap.size) (x := .int .i64 d1) (y := .int .i64 d2) (z := .int .i64 d3) (by go_simp)
    have cl6 : W5.heap.size < W7.heap.size := World.block_lt_of_cell? _ _ c60
    obtain ⟨c70, c71, c72⟩ := keep3 hb (b := W6.heap.size) (x := .int .i64 f1) (y := .int .i64 f2) (z := .int .i64 f3) (by go_simp)
    have cl7 : W6.heap.size < W7.heap.size := World.block_lt_of_cell? _ _ c70
    have kaW7 : Acc w W7 := by
      refine Acc.call ?_ hb
      (repeat' (first | assumption | exact Acc.refl _ | refine Acc.drew ?_ | refine Acc.drewN ?_ _ | refine Acc.alloc ?_ _ | refine Acc.setCell ?_ (by omega) _))
    clear hb
    go_wp2_with fail
    refine (gave_any Cm.out Dm.out (implPower_any p q r hp hq hr _ (HL.out _ (by repeat' (first | assumption | exact Acc.refl _ | refine Acc.drew ?_ | refine Acc.alloc ?_ _ | refine Acc.setCell ?_ (by omega) _))))).mono ?_
    rintro e W8 ⟨rfl, hb⟩
    obtain ⟨c00, c01, c02⟩ := keep3 hb (b := W0.heap.size) (x := .int .i64 x) (y := .int .i64 y) (z := .int .i64 z) (by go_simp)
    have cl0 : W0.heap.size < W8.heap.size := World.block_lt_of_cell? _ _ c00
    obtain ⟨c10, c11, c12⟩ := keep3 hb (b := W0.heap.size + 1) (x := .int .i64 a) (y := .int .i64 b) (z := .int .i64 c) (by go_simp)
    have cl1 : W0.heap.size + 1 < W8.heap.size := World.block_lt_of_cell? _ _ c10
    obtain ⟨c20, c21, c22⟩ := keep3 hb (b := W1.heap.size) (x := .int .i64 p) (y := .int .i64 q) (z := .int .i64 r) (by go_simp)
    have cl2 : W1.heap.size < W8.heap.size := World.block_lt_of_cell? _ _ c20
    obtain ⟨c30, c31, c32⟩ := keep3 hb (b := W2.heap.size) (x := .int .i64 p) (y := .int .i64 q) (z := .int .i64 r) (by go_simp)
    have cl3 : W2.heap.size < W8.heap.size := World.block_lt_of_cell? _ _ c30
    obtain ⟨c40, c41, c42⟩ := keep3 hb (b := W3.heap.size) (x := .int .i64 p) (y := .int .i64 q) (z := .int .i64 r) (by go_simp)
    have cl4 : W3.heap.size < W8.heap.size := World.block_lt_of_cell? _ _ c40
    obtain ⟨c50, c51, c52⟩ := keep3 hb (b := W4.heap.size) (x := .int .i64 u1) (y := .int .i64 u2) (z := .int .i64 u3) (by go_simp)
    have cl5 : W4.heap.size < W8.heap.size := World.block_lt_of_cell? _ _ c50
    obtain ⟨c60, c61, c62⟩ := keep3 hb (b := W5.heap.size) (x := .int .i64 d1) (y := .int .i64 d2) (z := .int .i64 d3) (by go_simp)
    have cl6 : W5.heap.size < W8.heap.size := World.block_lt_of_cell? _ _ c60
    obtain ⟨c70, c71, c72⟩ := keep3 hb (b := W6.heap.size) (x := .int .i64 f1) (y := .int .i64 f2) (z := .int .i64 f3) (by go_simp)
    have cl7 : W6.heap.size < W8.heap.size := World.block_lt_of_cell? _ _ c70
    obtain ⟨c80, c81, c82⟩ := keep3 hb (b := W7.heap.size) (x := .int .i64 g1) (y := .int .i64 g2) (z := .int .i64 g3) (by go_simp)
    have cl8 : W7.heap.size < W8.heap.size := World.block_lt_of_cell? _ _ c80
    have kaW8 : Acc w W8 := by
      refine Acc.call ?_ hb
      (repeat' (first | assumption | exact Acc.refl _ | refine Acc.drew ?_ | refine Acc.drewN ?_ _ | refine Acc.alloc ?_ _ | refine Acc.setCell ?_ (by omega) _))
    clear hb
    have G1 : k1 = false ∨ (k1 = true ∧ u1 = x ∧ u2 = y ∧ u3 = z) := by
      cases hh : k1 with
      | false => exact .inl rfl
      | true => have := F1'.out hh; simp only [Prod.mk.injEq] at this; exact .inr ⟨rfl, this⟩
    have G2 : k2 = false ∨ (k2 = true ∧ k3 = false) ∨ (k2 = true ∧ k3 = true ∧ k4 = false) ∨ (k2 = true ∧ k3 = true ∧ k4 = true ∧ k5 = false) ∨ (k2 = true ∧ k3 = true ∧ k4 = true ∧ k5 = true ∧ g1 = m1 ∧ g2 = m2 ∧ g3 = m3) := by
      have h := F2'.out
      cases k2 <;> cases k3 <;> cases k4 <;> cases k5 <;> simp at h ⊢ <;> exact h
    clear Cu Du Cd Dd Cf Df Cg Dg Cm Dm F1' F2' HO
    rcases G1 with rfl | ⟨rfl, rfl, rfl, rfl⟩ <;> rcases G2 with rfl | ⟨rfl, rfl⟩ | ⟨rfl, rfl, rfl⟩ | ⟨rfl, rfl, rfl, rfl⟩ | ⟨rfl, rfl, rfl, rfl, rfl, rfl, rfl⟩
    all_goals
      go_wp2_with fail
      go_ret
      refine ⟨rfl, ?_⟩
      show Acc w _
      (repeat' (first | assumption | exact Acc.refl _ | refine Acc.drew ?_ | refine Acc.drewN ?_ _ | refine Acc.alloc ?_ _ | refine Acc.setCell ?_ (by omega) _))
end Go.Proofs.YtpbibfefcepeiaaDoor
