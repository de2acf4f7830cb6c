/-
  The program's four numbers: the squares of polarisation.
-/
import Derived.Test.YtchdcncnlfgjfaaDoorImplN2
import Derived.Test.YtchdcncnlfgjfaaDoorEqVec
import Derived.Test.YtchdcncnlfgjfaaDoorBSpecF
namespace Go.Proofs.YtchdcncnlfgjfaaDoor
open Go.ChangeShapes Go.WideShapes Go.ChangeAt Go.RowKit
set_option linter.unusedVariables false

theorem power0 (x z : Int) : powerF x 0 z = timesF x 0 z x 0 z := by
  unfold powerF
  split
  · rfl
  · rename_i h
    unfold timesF
    rw [if_neg (by simp only [Bool.and_eq_true]; exact fun k => h k.1)]
theorem sign_zero (n : Int) : signI (n - 0) = signI n := by rw [Int.sub_zero]
theorem msign_any (x y z : Int) (w : World) : Calls Tryd.prog 33 #[.agg #[.int .i64 x, .int .i64 y, .int .i64 z]] w fun e w' => e = .returned (.int .i64 (signI x)) ∧ Below w.heap.size w w' := by
  have C := Lib.hid fun w => cmp_any x 0 w
  rw [sign_zero] at C
  go_enter Tryd.func33, Tryd.ntmps33
  go_wp2_with fail
  refine (C.out _).mono ?_
  rintro e w1 ⟨rfl, rfl⟩
  go_wp2_with fail
  go_ret
  refine ⟨rfl, ?_⟩
  show Acc w _
  (repeat' (first | (with_reducible first | assumption | exact Acc.refl _ | refine Acc.drew ?_ | refine Acc.drewN ?_ _ | refine Acc.alloc ?_ _ | refine Acc.setCell ?_ ?_ _ | refine Acc.mapPut ?_ ?_ _ _) | (refine leB ?_; omega)))
set_option maxHeartbeats 16000000 in
theorem nsquares_real (a1 a3 b1 b3 c1 c3 d1 d3 : Int) (ha1 : i64B a1) (ha3 : i64B a3) (hb1 : i64B b1) (hb3 : i64B b3) (hc1 : i64B c1) (hc3 : i64B c3) (hd1 : i64B d1) (hd3 : i64B d3) (h0 : i64B 0) (B : Nat) (w : World) (Ma : Mp w B [.agg #[.int .i64 a1, .int .i64 0, .int .i64 a3], .agg #[.int .i64 b1, .int .i64 0, .int .i64 b3], .agg #[.int .i64 c1, .int .i64 0, .int .i64 c3], .agg #[.int .i64 d1, .int .i64 0, .int .i64 d3]]) (hv : sValid a1 0 a3 b1 0 b3 c1 0 c3 d1 0 d3 = true) :
    Calls Tryd.prog 22 #[.map (some B)] w (Erred (squaresF a1 0 a3 b1 0 b3 c1 0 c3 d1 0 d3) w) := by
  have HC := Lib.hid fun W M => ncheck_any a1 0 a3 b1 0 b3 c1 0 c3 d1 0 d3 ha1 h0 ha3 hb1 h0 hb3 hc1 h0 hc3 hd1 h0 hd3 B W M
  have HV := Lib.hid hv
  rw [hv] at HC
  obtain ⟨o, E⟩ : ∃ o, squaresF a1 0 a3 b1 0 b3 c1 0 c3 d1 0 d3 = o := ⟨_, rfl⟩
  rw [E]
  have HE := Lib.hid E
  clear E hv
  have ma := Ma.out
  have na_w := Ma.lt
  have qr1 := @mapOf_drew
  have qr2 := @mapOf_drewN
  have qr3 := @mapOf_cells
  have qr5 := @mapOf_setCell
  have qa0 := @look0 (B) (.agg #[.int .i64 a1, .int .i64 0, .int .i64 a3]) (.agg #[.int .i64 b1, .int .i64 0, .int .i64 b3]) (.agg #[.int .i64 c1, .int .i64 0, .int .i64 c3]) (.agg #[.int .i64 d1, .int .i64 0, .int .i64 d3])
  have qa1 := @look1 (B) (.agg #[.int .i64 a1, .int .i64 0, .int .i64 a3]) (.agg #[.int .i64 b1, .int .i64 0, .int .i64 b3]) (.agg #[.int .i64 c1, .int .i64 0, .int .i64 c3]) (.agg #[.int .i64 d1, .int .i64 0, .int .i64 d3])
  have qa2 := @look2 (B) (.agg #[.int .i64 a1, .int .i64 0, .int .i64 a3]) (.agg #[.int .i64 b1, .int .i64 0, .int .i64 b3]) (.agg #[.int .i64 c1, .int .i64 0, .int .i64 c3]) (.agg #[.int .i64 d1, .int .i64 0, .int .i64 d3])
  have qa3 := @look3 (B) (.agg #[.int .i64 a1, .int .i64 0, .int .i64 a3]) (.agg #[.int .i64 b1, .int .i64 0, .int .i64 b3]) (.agg #[.int .i64 c1, .int .i64 0, .int .i64 c3]) (.agg #[.int .i64 d1, .int .i64 0, .int .i64 d3])
  go_enter Tryd.func22, Tryd.ntmps22
  go_wp2_with fail
  refine (HC.out _ (by repeat' (first | (with_reducible first | assumption | refine Mp.drew ?_ | refine Mp.drewN ?_ _ | refine Mp.set ?_ _ _ | (refine Mp.new ?_; focus (first | rfl | (simp; done)))) | (refine Mp.put (vs := []) ?_ rfl rfl) | (refine Mp.put (vs := [.agg #[.int .i64 a1, .int .i64 0, .int .i64 a3]]) ?_ rfl rfl) | (refine Mp.put (vs := [.agg #[.int .i64 a1, .int .i64 0, .int .i64 a3], .agg #[.int .i64 b1, .int .i64 0, .int .i64 b3]]) ?_ rfl rfl) | (refine Mp.put (vs := [.agg #[.int .i64 a1, .int .i64 0, .int .i64 a3], .agg #[.int .i64 b1, .int .i64 0, .int .i64 b3], .agg #[.int .i64 c1, .int .i64 0, .int .i64 c3]]) ?_ rfl rfl) | (with_reducible first | refine Mp.putOther ?_ ?_ _ _ | refine Mp.alloc ?_ _) | (refine neB ?_; omega)))).mono ?_
  rintro e W1 ⟨h1, -, hb⟩
  obtain rfl := h1 rfl
  clear h1
  have Br : Blk W1 (w.heap.size) [.int .i64 0, .int .i64 0, .int .i64 0] := Blk.keep hb (by repeat' (first | (with_reducible first | assumption | refine Blk.drew ?_ | refine Blk.drewN ?_ _ | refine Blk.mapPut ?_ _ _ | apply Blk.set | (refine Blk.new ?_; focus (first | rfl | (simp; done))) | refine Blk.alloc ?_ _ | refine Blk.other ?_ ?_ _) | exact eqL rfl | (refine neB ?_; omega)))
  have Ma : Mp W1 (B) [.agg #[.int .i64 a1, .int .i64 0, .int .i64 a3], .agg #[.int .i64 b1, .int .i64 0, .int .i64 b3], .agg #[.int .i64 c1, .int .i64 0, .int .i64 c3], .agg #[.int .i64 d1, .int .i64 0, .int .i64 d3]] := Mp.keep hb (by repeat' (first | (with_reducible first | assumption | refine Mp.drew ?_ | refine Mp.drewN ?_ _ | refine Mp.set ?_ _ _ | (refine Mp.new ?_; focus (first | rfl | (simp; done)))) | (refine Mp.put (vs := []) ?_ rfl rfl) | (refine Mp.put (vs := [.agg #[.int .i64 a1, .int .i64 0, .int .i64 a3]]) ?_ rfl rfl) | (refine Mp.put (vs := [.agg #[.int .i64 a1, .int .i64 0, .int .i64 a3], .agg #[.int .i64 b1, .int .i64 0, .int .i64 b3]]) ?_ rfl rfl) | (refine Mp.put (vs := [.agg #[.int .i64 a1, .int .i64 0, .int .i64 a3], .agg #[.int .i64 b1, .int .i64 0, .int .i64 b3], .agg #[.int .i64 c1, .int .i64 0, .int .i64 c3]]) ?_ rfl rfl) | (with_reducible first | refine Mp.putOther ?_ ?_ _ _ | refine Mp.alloc ?_ _) | (refine neB ?_; omega)))
  have cr := Br.cell
  have fr := Br.free
  have lr_W1 := Br.lt
  have ma := Ma.out
  have na_W1 := Ma.lt
  have kaW1 : Acc w W1 := by
    refine Acc.call ?_ hb
    (repeat' (first | (with_reducible first | assumption | exact Acc.refl _ | refine Acc.drew ?_ | refine Acc.drewN ?_ _ | refine Acc.alloc ?_ _ | refine Acc.setCell ?_ ?_ _ | refine Acc.mapPut ?_ ?_ _ _) | (refine leB ?_; omega)))
  clear hb
  go_wp2_with fail
  refine wp_loop_rounds 4 ?_
  rw [rounds_succ]
  go_wp2_with fail
  refine (mpower_any b1 0 b3 _ hb1 h0 hb3).mono ?_
  rintro e W2 ⟨h1, h2, hb⟩
  have Br : Blk W2 (w.heap.size) [.int .i64 0, .int .i64 0, .int .i64 0] := Blk.keep hb (by repeat' (first | (with_reducible first | assumption | refine Blk.drew ?_ | refine Blk.drewN ?_ _ | refine Blk.mapPut ?_ _ _ | apply Blk.set | (refine Blk.new ?_; focus (first | rfl | (simp; done))) | refine Blk.alloc ?_ _ | refine Blk.other ?_ ?_ _) | exact eqL rfl | (refine neB ?_; omega)))
  have Bs : Blk W2 (W1.heap.size) [.int .i64 0, .int .i64 0, .int .i64 1] := Blk.keep hb (by repeat' (first | (with_reducible first | assumption | refine Blk.drew ?_ | refine Blk.drewN ?_ _ | refine Blk.mapPut ?_ _ _ | apply Blk.set | (refine Blk.new ?_; focus (first | rfl | (simp; done))) | refine Blk.alloc ?_ _ | refine Blk.other ?_ ?_ _) | exact eqL rfl | (refine neB ?_; omega)))
  have Ma : Mp W2 (B) [.agg #[.int .i64 a1, .int .i64 0, .int .i64 a3], .agg #[.int .i64 b1, .int .i64 0, .int .i64 b3], .agg #[.int .i64 c1, .int .i64 0, .int .i64 c3], .agg #[.int .i64 d1, .int .i64 0, .int .i64 d3]] := Mp.keep hb (by repeat' (first | (with_reducible first | assumption | refine Mp.drew ?_ | refine Mp.drewN ?_ _ | refine Mp.set ?_ _ _ | (refine Mp.new ?_; focus (first | rfl | (simp; done)))) | (refine Mp.put (vs := []) ?_ rfl rfl) | (refine Mp.put (vs := [.agg #[.int .i64 a1, .int .i64 0, .int .i64 a3]]) ?_ rfl rfl) | (refine Mp.put (vs := [.agg #[.int .i64 a1, .int .i64 0, .int .i64 a3], .agg #[.int .i64 b1, .int .i64 0, .int .i64 b3]]) ?_ rfl rfl) | (refine Mp.put (vs := [.agg #[.int .i64 a1, .int .i64 0, .int .i64 a3], .agg #[.int .i64 b1, .int .i64 0, .int .i64 b3], .agg #[.int .i64 c1, .int .i64 0, .int .i64 c3]]) ?_ rfl rfl) | (with_reducible first | refine Mp.putOther ?_ ?_ _ _ | refine Mp.alloc ?_ _) | (refine neB ?_; omega)))
  have cr := Br.cell
  have fr := Br.free
  have lr_W2 := Br.lt
  have cs := Bs.cell
  have fs := Bs.free
  have ls_W2 := Bs.lt
  have ma := Ma.out
  have na_W2 := Ma.lt
  have kaW2 : Acc w W2 := by
    refine Acc.call ?_ hb
    (repeat' (first | (with_reducible first | assumption | exact Acc.refl _ | refine Acc.drew ?_ | refine Acc.drewN ?_ _ | refine Acc.alloc ?_ _ | refine Acc.setCell ?_ ?_ _ | refine Acc.mapPut ?_ ?_ _ _) | (refine leB ?_; omega)))
  clear hb
  cases hp : powerF b1 0 b3 with
  | none =>
    obtain ⟨s, rfl⟩ := h2 hp
    clear h1 h2
    obtain rfl : o = none := HE.out.symm.trans (by simp only [squaresF, HV.out, if_true, sumO, ← power0, addF, Option.bind_some, Option.bind_none, hp])
    go_wp2_with fail
    refine bodyPost_ret (v := .tuple #[.agg #[.int .i64 0, .int .i64 0, .int .i64 0], .iface 82 (.agg #[.string s])]) (by simp [results, Tryd.results22, go_sem, *]) rfl ⟨fun _ _ _ h => (by cases h), fun _ => ⟨_, rfl⟩, ?_⟩
    show Acc w _
    (repeat' (first | (with_reducible first | assumption | exact Acc.refl _ | refine Acc.drew ?_ | refine Acc.drewN ?_ _ | refine Acc.alloc ?_ _ | refine Acc.setCell ?_ ?_ _ | refine Acc.mapPut ?_ ?_ _ _) | (refine leB ?_; omega)))
  | some v =>
    obtain ⟨p1, p2, p3⟩ := v
    obtain rfl := h1 _ _ _ hp
    obtain ⟨hp1, hp2, hp3⟩ := okF_i64 (power_some hp).2.1
    have P0 := Lib.hid hp
    clear h1 h2 hp
    go_wp2_with fail
    refine (plus_any 0 0 1 p1 p2 p3 _ h0 h0 (by unfold i64B; omega) hp1 hp2 hp3).mono ?_
    rintro e W3 ⟨h1, h2, hb⟩
    have Br : Blk W3 (w.heap.size) [.int .i64 0, .int .i64 0, .int .i64 0] := Blk.keep hb (by repeat' (first | (with_reducible first | assumption | refine Blk.drew ?_ | refine Blk.drewN ?_ _ | refine Blk.mapPut ?_ _ _ | apply Blk.set | (refine Blk.new ?_; focus (first | rfl | (simp; done))) | refine Blk.alloc ?_ _ | refine Blk.other ?_ ?_ _) | exact eqL rfl | (refine neB ?_; omega)))
    have Bs : Blk W3 (W1.heap.size) [.int .i64 0, .int .i64 0, .int .i64 1] := Blk.keep hb (by repeat' (first | (with_reducible first | assumption | refine Blk.drew ?_ | refine Blk.drewN ?_ _ | refine Blk.mapPut ?_ _ _ | apply Blk.set | (refine Blk.new ?_; focus (first | rfl | (simp; done))) | refine Blk.alloc ?_ _ | refine Blk.other ?_ ?_ _) | exact eqL rfl | (refine neB ?_; omega)))
    have Ma : Mp W3 (B) [.agg #[.int .i64 a1, .int .i64 0, .int .i64 a3], .agg #[.int .i64 b1, .int .i64 0, .int .i64 b3], .agg #[.int .i64 c1, .int .i64 0, .int .i64 c3], .agg #[.int .i64 d1, .int .i64 0, .int .i64 d3]] := Mp.keep hb (by repeat' (first | (with_reducible first | assumption | refine Mp.drew ?_ | refine Mp.drewN ?_ _ | refine Mp.set ?_ _ _ | (refine Mp.new ?_; focus (first | rfl | (simp; done)))) | (refine Mp.put (vs := []) ?_ rfl rfl) | (refine Mp.put (vs := [.agg #[.int .i64 a1, .int .i64 0, .int .i64 a3]]) ?_ rfl rfl) | (refine Mp.put (vs := [.agg #[.int .i64 a1, .int .i64 0, .int .i64 a3], .agg #[.int .i64 b1, .int .i64 0, .int .i64 b3]]) ?_ rfl rfl) | (refine Mp.put (vs := [.agg #[.int .i64 a1, .int .i64 0, .int .i64 a3], .agg #[.int .i64 b1, .int .i64 0, .int .i64 b3], .agg #[.int .i64 c1, .int .i64 0, .int .i64 c3]]) ?_ rfl rfl) | (with_reducible first | refine Mp.putOther ?_ ?_ _ _ | refine Mp.alloc ?_ _) | (refine neB ?_; omega)))
    have cr := Br.cell
    have fr := Br.free
    have lr_W3 := Br.lt
    have cs := Bs.cell
    have fs := Bs.free
    have ls_W3 := Bs.lt
    have ma := Ma.out
    have na_W3 := Ma.lt
    have kaW3 : Acc w W3 := by
      refine Acc.call ?_ hb
      (repeat' (first | (with_reducible first | assumption | exact Acc.refl _ | refine Acc.drew ?_ | refine Acc.drewN ?_ _ | refine Acc.alloc ?_ _ | refine Acc.setCell ?_ ?_ _ | refine Acc.mapPut ?_ ?_ _ _) | (refine leB ?_; omega)))
    clear hb
    cases hp : sumF 1 0 0 1 p1 p2 p3 with
    | none =>
      obtain ⟨s, rfl⟩ := h2 hp
      clear h1 h2
      obtain rfl : o = none := HE.out.symm.trans (by simp only [squaresF, HV.out, if_true, sumO, ← power0, addF, Option.bind_some, Option.bind_none, hp, P0.out])
      go_wp2_with fail
      refine bodyPost_ret (v := .tuple #[.agg #[.int .i64 0, .int .i64 0, .int .i64 0], .iface 82 (.agg #[.string s])]) (by simp [results, Tryd.results22, go_sem, *]) rfl ⟨fun _ _ _ h => (by cases h), fun _ => ⟨_, rfl⟩, ?_⟩
      show Acc w _
      (repeat' (first | (with_reducible first | assumption | exact Acc.refl _ | refine Acc.drew ?_ | refine Acc.drewN ?_ _ | refine Acc.alloc ?_ _ | refine Acc.setCell ?_ ?_ _ | refine Acc.mapPut ?_ ?_ _ _) | (refine leB ?_; omega)))
    | some v =>
      obtain ⟨m1, m2, m3⟩ := v
      obtain rfl := h1 _ _ _ hp
      obtain ⟨hm1, hm2, hm3⟩ := okF_i64 (sum_some hp).2.2.1
      have G0 := Lib.hid hp
      clear h1 h2 hp
      go_wp2_with fail
      rw [rounds_succ]
      go_wp2_with fail
      refine (mpower_any c1 0 c3 _ hc1 h0 hc3).mono ?_
      rintro e W4 ⟨h1, h2, hb⟩
      have Br : Blk W4 (w.heap.size) [.int .i64 0, .int .i64 0, .int .i64 0] := Blk.keep hb (by repeat' (first | (with_reducible first | assumption | refine Blk.drew ?_ | refine Blk.drewN ?_ _ | refine Blk.mapPut ?_ _ _ | apply Blk.set | (refine Blk.new ?_; focus (first | rfl | (simp; done))) | refine Blk.alloc ?_ _ | refine Blk.other ?_ ?_ _) | exact eqL rfl | (refine neB ?_; omega)))
      have Bs : Blk W4 (W1.heap.size) [.int .i64 m1, .int .i64 m2, .int .i64 m3] := Blk.keep hb (by repeat' (first | (with_reducible first | assumption | refine Blk.drew ?_ | refine Blk.drewN ?_ _ | refine Blk.mapPut ?_ _ _ | apply Blk.set | (refine Blk.new ?_; focus (first | rfl | (simp; done))) | refine Blk.alloc ?_ _ | refine Blk.other ?_ ?_ _) | exact eqL rfl | (refine neB ?_; omega)))
      have Ma : Mp W4 (B) [.agg #[.int .i64 a1, .int .i64 0, .int .i64 a3], .agg #[.int .i64 b1, .int .i64 0, .int .i64 b3], .agg #[.int .i64 c1, .int .i64 0, .int .i64 c3], .agg #[.int .i64 d1, .int .i64 0, .int .i64 d3]] := Mp.keep hb (by repeat' (first | (with_reducible first | assumption | refine Mp.drew ?_ | refine Mp.drewN ?_ _ | refine Mp.set ?_ _ _ | (refine Mp.new ?_; focus (first | rfl | (simp; done)))) | (refine Mp.put (vs := []) ?_ rfl rfl) | (refine Mp.put (vs := [.agg #[.int .i64 a1, .int .i64 0, .int .i64 a3]]) ?_ rfl rfl) | (refine Mp.put (vs := [.agg #[.int .i64 a1, .int .i64 0, .int .i64 a3], .agg #[.int .i64 b1, .int .i64 0, .int .i64 b3]]) ?_ rfl rfl) | (refine Mp.put (vs := [.agg #[.int .i64 a1, .int .i64 0, .int .i64 a3], .agg #[.int .i64 b1, .int .i64 0, .int .i64 b3], .agg #[.int .i64 c1, .int .i64 0, .int .i64 c3]]) ?_ rfl rfl) | (with_reducible first | refine Mp.putOther ?_ ?_ _ _ | refine Mp.alloc ?_ _) | (refine neB ?_; omega)))
      have cr := Br.cell
      have fr := Br.free
      have lr_W4 := Br.lt
      have cs := Bs.cell
      have fs := Bs.free
      have ls_W4 := Bs.lt
      have ma := Ma.out
      have na_W4 := Ma.lt
      have kaW4 : Acc w W4 := by
        refine Acc.call ?_ hb
        (repeat' (first | (with_reducible first | assumption | exact Acc.refl _ | refine Acc.drew ?_ | refine Acc.drewN ?_ _ | refine Acc.alloc ?_ _ | refine Acc.setCell ?_ ?_ _ | refine Acc.mapPut ?_ ?_ _ _) | (refine leB ?_; omega)))
      clear hb
      cases hp : powerF c1 0 c3 with
      | none =>
        obtain ⟨s, rfl⟩ := h2 hp
        clear h1 h2
        obtain rfl : o = none := HE.out.symm.trans (by simp only [squaresF, HV.out, if_true, sumO, ← power0, addF, Option.bind_some, Option.bind_none, hp, P0.out, G0.out])
        go_wp2_with fail
        refine bodyPost_ret (v := .tuple #[.agg #[.int .i64 0, .int .i64 0, .int .i64 0], .iface 82 (.agg #[.string s])]) (by simp [results, Tryd.results22, go_sem, *]) rfl ⟨fun _ _ _ h => (by cases h), fun _ => ⟨_, rfl⟩, ?_⟩
        show Acc w _
        (repeat' (first | (with_reducible first | assumption | exact Acc.refl _ | refine Acc.drew ?_ | refine Acc.drewN ?_ _ | refine Acc.alloc ?_ _ | refine Acc.setCell ?_ ?_ _ | refine Acc.mapPut ?_ ?_ _ _) | (refine leB ?_; omega)))
      | some v =>
        obtain ⟨q1, q2, q3⟩ := v
        obtain rfl := h1 _ _ _ hp
        obtain ⟨hq1, hq2, hq3⟩ := okF_i64 (power_some hp).2.1
        have P1 := Lib.hid hp
        clear h1 h2 hp
        go_wp2_with fail
        refine (plus_any m1 m2 m3 q1 q2 q3 _ hm1 hm2 hm3 hq1 hq2 hq3).mono ?_
        rintro e W5 ⟨h1, h2, hb⟩
        have Br : Blk W5 (w.heap.size) [.int .i64 0, .int .i64 0, .int .i64 0] := Blk.keep hb (by repeat' (first | (with_reducible first | assumption | refine Blk.drew ?_ | refine Blk.drewN ?_ _ | refine Blk.mapPut ?_ _ _ | apply Blk.set | (refine Blk.new ?_; focus (first | rfl | (simp; done))) | refine Blk.alloc ?_ _ | refine Blk.other ?_ ?_ _) | exact eqL rfl | (refine neB ?_; omega)))
        have Bs : Blk W5 (W1.heap.size) [.int .i64 m1, .int .i64 m2, .int .i64 m3] := Blk.keep hb (by repeat' (first | (with_reducible first | assumption | refine Blk.drew ?_ | refine Blk.drewN ?_ _ | refine Blk.mapPut ?_ _ _ | apply Blk.set | (refine Blk.new ?_; focus (first | rfl | (simp; done))) | refine Blk.alloc ?_ _ | refine Blk.other ?_ ?_ _) | exact eqL rfl | (refine neB ?_; omega)))
        have Ma : Mp W5 (B) [.agg #[.int .i64 a1, .int .i64 0, .int .i64 a3], .agg #[.int .i64 b1, .int .i64 0, .int .i64 b3], .agg #[.int .i64 c1, .int .i64 0, .int .i64 c3], .agg #[.int .i64 d1, .int .i64 0, .int .i64 d3]] := Mp.keep hb (by repeat' (first | (with_reducible first | assumption | refine Mp.drew ?_ | refine Mp.drewN ?_ _ | refine Mp.set ?_ _ _ | (refine Mp.new ?_; focus (first | rfl | (simp; done)))) | (refine Mp.put (vs := []) ?_ rfl rfl) | (refine Mp.put (vs := [.agg #[.int .i64 a1, .int .i64 0, .int .i64 a3]]) ?_ rfl rfl) | (refine Mp.put (vs := [.agg #[.int .i64 a1, .int .i64 0, .int .i64 a3], .agg #[.int .i64 b1, .int .i64 0, .int .i64 b3]]) ?_ rfl rfl) | (refine Mp.put (vs := [.agg #[.int .i64 a1, .int .i64 0, .int .i64 a3], .agg #[.int .i64 b1, .int .i64 0, .int .i64 b3], .agg #[.int .i64 c1, .int .i64 0, .int .i64 c3]]) ?_ rfl rfl) | (with_reducible first | refine Mp.putOther ?_ ?_ _ _ | refine Mp.alloc ?_ _) | (refine neB ?_; omega)))
        have cr := Br.cell
        have fr := Br.free
        have lr_W5 := Br.lt
        have cs := Bs.cell
        have fs := Bs.free
        have ls_W5 := Bs.lt
        have ma := Ma.out
        have na_W5 := Ma.lt
        have kaW5 : Acc w W5 := by
          refine Acc.call ?_ hb
          (repeat' (first | (with_reducible first | assumption | exact Acc.refl _ | refine Acc.drew ?_ | refine Acc.drewN ?_ _ | refine Acc.alloc ?_ _ | refine Acc.setCell ?_ ?_ _ | refine Acc.mapPut ?_ ?_ _ _) | (refine leB ?_; omega)))
        clear hb
        cases hp : sumF 1 m1 m2 m3 q1 q2 q3 with
        | none =>
          obtain ⟨s, rfl⟩ := h2 hp
          clear h1 h2
          obtain rfl : o = none := HE.out.symm.trans (by simp only [squaresF, HV.out, if_true, sumO, ← power0, addF, Option.bind_some, Option.bind_none, hp, P0.out, G0.out, P1.out])
          go_wp2_with fail
          refine bodyPost_ret (v := .tuple #[.agg #[.int .i64 0, .int .i64 0, .int .i64 0], .iface 82 (.agg #[.string s])]) (by simp [results, Tryd.results22, go_sem, *]) rfl ⟨fun _ _ _ h => (by cases h), fun _ => ⟨_, rfl⟩, ?_⟩
          show Acc w _
          (repeat' (first | (with_reducible first | assumption | exact Acc.refl _ | refine Acc.drew ?_ | refine Acc.drewN ?_ _ | refine Acc.alloc ?_ _ | refine Acc.setCell ?_ ?_ _ | refine Acc.mapPut ?_ ?_ _ _) | (refine leB ?_; omega)))
        | some v =>
          obtain ⟨n1, n2, n3⟩ := v
          obtain rfl := h1 _ _ _ hp
          obtain ⟨hn1, hn2, hn3⟩ := okF_i64 (sum_some hp).2.2.1
          have G1 := Lib.hid hp
          clear h1 h2 hp
          go_wp2_with fail
          rw [rounds_succ]
          go_wp2_with fail
          refine (mpower_any d1 0 d3 _ hd1 h0 hd3).mono ?_
          rintro e W6 ⟨h1, h2, hb⟩
          have Br : Blk W6 (w.heap.size) [.int .i64 0, .int .i64 0, .int .i64 0] := Blk.keep hb (by repeat' (first | (with_reducible first | assumption | refine Blk.drew ?_ | refine Blk.drewN ?_ _ | refine Blk.mapPut ?_ _ _ | apply Blk.set | (refine Blk.new ?_; focus (first | rfl | (simp; done))) | refine Blk.alloc ?_ _ | refine Blk.other ?_ ?_ _) | exact eqL rfl | (refine neB ?_; omega)))
          have Bs : Blk W6 (W1.heap.size) [.int .i64 n1, .int .i64 n2, .int .i64 n3] := Blk.keep hb (by repeat' (first | (with_reducible first | assumption | refine Blk.drew ?_ | refine Blk.drewN ?_ _ | refine Blk.mapPut ?_ _ _ | apply Blk.set | (refine Blk.new ?_; focus (first | rfl | (simp; done))) | refine Blk.alloc ?_ _ | refine Blk.other ?_ ?_ _) | exact eqL rfl | (refine neB ?_; omega)))
          have Ma : Mp W6 (B) [.agg #[.int .i64 a1, .int .i64 0, .int .i64 a3], .agg #[.int .i64 b1, .int .i64 0, .int .i64 b3], .agg #[.int .i64 c1, .int .i64 0, .int .i64 c3], .agg #[.int .i64 d1, .int .i64 0, .int .i64 d3]] := Mp.keep hb (by repeat' (first | (with_reducible first | assumption | refine Mp.drew ?_ | refine Mp.drewN ?_ _ | refine Mp.set ?_ _ _ | (refine Mp.new ?_; focus (first | rfl | (simp; done)))) | (refine Mp.put (vs := []) ?_ rfl rfl) | (refine Mp.put (vs := [.agg #[.int .i64 a1, .int .i64 0, .int .i64 a3]]) ?_ rfl rfl) | (refine Mp.put (vs := [.agg #[.int .i64 a1, .int .i64 0, .int .i64 a3], .agg #[.int .i64 b1, .int .i64 0, .int .i64 b3]]) ?_ rfl rfl) | (refine Mp.put (vs := [.agg #[.int .i64 a1, .int .i64 0, .int .i64 a3], .agg #[.int .i64 b1, .int .i64 0, .int .i64 b3], .agg #[.int .i64 c1, .int .i64 0, .int .i64 c3]]) ?_ rfl rfl) | (with_reducible first | refine Mp.putOther ?_ ?_ _ _ | refine Mp.alloc ?_ _) | (refine neB ?_; omega)))
          have cr := Br.cell
          have fr := Br.free
          have lr_W6 := Br.lt
          have cs := Bs.cell
          have fs := Bs.free
          have ls_W6 := Bs.lt
          have ma := Ma.out
          have na_W6 := Ma.lt
          have kaW6 : Acc w W6 := by
            refine Acc.call ?_ hb
            (repeat' (first | (with_reducible first | assumption | exact Acc.refl _ | refine Acc.drew ?_ | refine Acc.drewN ?_ _ | refine Acc.alloc ?_ _ | refine Acc.setCell ?_ ?_ _ | refine Acc.mapPut ?_ ?_ _ _) | (refine leB ?_; omega)))
          clear hb
          cases hp : powerF d1 0 d3 with
          | none =>
            obtain ⟨s, rfl⟩ := h2 hp
            clear h1 h2
            obtain rfl : o = none := HE.out.symm.trans (by simp only [squaresF, HV.out, if_true, sumO, ← power0, addF, Option.bind_some, Option.bind_none, hp, P0.out, G0.out, P1.out, G1.out])
            go_wp2_with fail
            refine bodyPost_ret (v := .tuple #[.agg #[.int .i64 0, .int .i64 0, .int .i64 0], .iface 82 (.agg #[.string s])]) (by simp [results, Tryd.results22, go_sem, *]) rfl ⟨fun _ _ _ h => (by cases h), fun _ => ⟨_, rfl⟩, ?_⟩
            show Acc w _
            (repeat' (first | (with_reducible first | assumption | exact Acc.refl _ | refine Acc.drew ?_ | refine Acc.drewN ?_ _ | refine Acc.alloc ?_ _ | refine Acc.setCell ?_ ?_ _ | refine Acc.mapPut ?_ ?_ _ _) | (refine leB ?_; omega)))
          | some v =>
            obtain ⟨r1, r2, r3⟩ := v
            obtain rfl := h1 _ _ _ hp
            obtain ⟨hr1, hr2, hr3⟩ := okF_i64 (power_some hp).2.1
            have P2 := Lib.hid hp
            clear h1 h2 hp
            go_wp2_with fail
            refine (plus_any n1 n2 n3 r1 r2 r3 _ hn1 hn2 hn3 hr1 hr2 hr3).mono ?_
            rintro e W7 ⟨h1, h2, hb⟩
            have Br : Blk W7 (w.heap.size) [.int .i64 0, .int .i64 0, .int .i64 0] := Blk.keep hb (by repeat' (first | (with_reducible first | assumption | refine Blk.drew ?_ | refine Blk.drewN ?_ _ | refine Blk.mapPut ?_ _ _ | apply Blk.set | (refine Blk.new ?_; focus (first | rfl | (simp; done))) | refine Blk.alloc ?_ _ | refine Blk.other ?_ ?_ _) | exact eqL rfl | (refine neB ?_; omega)))
            have Bs : Blk W7 (W1.heap.size) [.int .i64 n1, .int .i64 n2, .int .i64 n3] := Blk.keep hb (by repeat' (first | (with_reducible first | assumption | refine Blk.drew ?_ | refine Blk.drewN ?_ _ | refine Blk.mapPut ?_ _ _ | apply Blk.set | (refine Blk.new ?_; focus (first | rfl | (simp; done))) | refine Blk.alloc ?_ _ | refine Blk.other ?_ ?_ _) | exact eqL rfl | (refine neB ?_; omega)))
            have Ma : Mp W7 (B) [.agg #[.int .i64 a1, .int .i64 0, .int .i64 a3], .agg #[.int .i64 b1, .int .i64 0, .int .i64 b3], .agg #[.int .i64 c1, .int .i64 0, .int .i64 c3], .agg #[.int .i64 d1, .int .i64 0, .int .i64 d3]] := Mp.keep hb (by repeat' (first | (with_reducible first | assumption | refine Mp.drew ?_ | refine Mp.drewN ?_ _ | refine Mp.set ?_ _ _ | (refine Mp.new ?_; focus (first | rfl | (simp; done)))) | (refine Mp.put (vs := []) ?_ rfl rfl) | (refine Mp.put (vs := [.agg #[.int .i64 a1, .int .i64 0, .int .i64 a3]]) ?_ rfl rfl) | (refine Mp.put (vs := [.agg #[.int .i64 a1, .int .i64 0, .int .i64 a3], .agg #[.int .i64 b1, .int .i64 0, .int .i64 b3]]) ?_ rfl rfl) | (refine Mp.put (vs := [.agg #[.int .i64 a1, .int .i64 0, .int .i64 a3], .agg #[.int .i64 b1, .int .i64 0, .int .i64 b3], .agg #[.int .i64 c1, .int .i64 0, .int .i64 c3]]) ?_ rfl rfl) | (with_reducible first | refine Mp.putOther ?_ ?_ _ _ | refine Mp.alloc ?_ _) | (refine neB ?_; omega)))
            have cr := Br.cell
            have fr := Br.free
            have lr_W7 := Br.lt
            have cs := Bs.cell
            have fs := Bs.free
            have ls_W7 := Bs.lt
            have ma := Ma.out
            have na_W7 := Ma.lt
            have kaW7 : Acc w W7 := by
              refine Acc.call ?_ hb
              (repeat' (first | (with_reducible first | assumption | exact Acc.refl _ | refine Acc.drew ?_ | refine Acc.drewN ?_ _ | refine Acc.alloc ?_ _ | refine Acc.setCell ?_ ?_ _ | refine Acc.mapPut ?_ ?_ _ _) | (refine leB ?_; omega)))
            clear hb
            cases hp : sumF 1 n1 n2 n3 r1 r2 r3 with
            | none =>
              obtain ⟨s, rfl⟩ := h2 hp
              clear h1 h2
              obtain rfl : o = none := HE.out.symm.trans (by simp only [squaresF, HV.out, if_true, sumO, ← power0, addF, Option.bind_some, hp, P0.out, G0.out, P1.out, G1.out, P2.out])
              go_wp2_with fail
              refine bodyPost_ret (v := .tuple #[.agg #[.int .i64 0, .int .i64 0, .int .i64 0], .iface 82 (.agg #[.string s])]) (by simp [results, Tryd.results22, go_sem, *]) rfl ⟨fun _ _ _ h => (by cases h), fun _ => ⟨_, rfl⟩, ?_⟩
              show Acc w _
              (repeat' (first | (with_reducible first | assumption | exact Acc.refl _ | refine Acc.drew ?_ | refine Acc.drewN ?_ _ | refine Acc.alloc ?_ _ | refine Acc.setCell ?_ ?_ _ | refine Acc.mapPut ?_ ?_ _ _) | (refine leB ?_; omega)))
            | some v =>
              obtain ⟨u1, u2, u3⟩ := v
              obtain rfl := h1 _ _ _ hp
              obtain ⟨hu1, hu2, hu3⟩ := okF_i64 (sum_some hp).2.2.1
              have G2 := Lib.hid hp
              clear h1 h2 hp
              go_wp2_with fail
              rw [rounds_succ]
              go_wp2_with fail
              obtain rfl : o = some (u1, u2, u3) := HE.out.symm.trans (by simp only [squaresF, HV.out, if_true, sumO, ← power0, addF, Option.bind_some, P0.out, G0.out, P1.out, G1.out, P2.out, G2.out])
              refine bodyPost_ret (v := .tuple #[.agg #[.int .i64 u1, .int .i64 u2, .int .i64 u3], .nilIface]) (by simp [results, Tryd.results22, go_sem, *]) rfl ⟨fun _ _ _ h => (by cases h; rfl), fun h => (by cases h), ?_⟩
              show Acc w _
              (repeat' (first | (with_reducible first | assumption | exact Acc.refl _ | refine Acc.drew ?_ | refine Acc.drewN ?_ _ | refine Acc.alloc ?_ _ | refine Acc.setCell ?_ ?_ _ | refine Acc.mapPut ?_ ?_ _ _) | (refine leB ?_; omega)))
set_option maxHeartbeats 2000000 in
theorem nsquares_any (a1 a2 a3 b1 b2 b3 c1 c2 c3 d1 d2 d3 : Int) (ha1 : i64B a1) (ha2 : i64B a2) (ha3 : i64B a3) (hb1 : i64B b1) (hb2 : i64B b2) (hb3 : i64B b3) (hc1 : i64B c1) (hc2 : i64B c2) (hc3 : i64B c3) (hd1 : i64B d1) (hd2 : i64B d2) (hd3 : i64B d3) (B : Nat) (w : World) (Ma : Mp w B [.agg #[.int .i64 a1, .int .i64 a2, .int .i64 a3], .agg #[.int .i64 b1, .int .i64 b2, .int .i64 b3], .agg #[.int .i64 c1, .int .i64 c2, .int .i64 c3], .agg #[.int .i64 d1, .int .i64 d2, .int .i64 d3]]) :
    Calls Tryd.prog 22 #[.map (some B)] w (Erred (squaresF a1 a2 a3 b1 b2 b3 c1 c2 c3 d1 d2 d3) w) := by
  cases hv : sValid a1 a2 a3 b1 b2 b3 c1 c2 c3 d1 d2 d3 with
  | true =>
    obtain ⟨ga, gb, gc, gd⟩ := sValid_ok hv
    obtain ⟨_, rfl⟩ := realB_ok ga
    obtain ⟨_, rfl⟩ := realB_ok gb
    obtain ⟨_, rfl⟩ := realB_ok gc
    obtain ⟨_, rfl⟩ := realB_ok gd
    exact nsquares_real a1 a3 b1 b3 c1 c3 d1 d3 ha1 ha3 hb1 hb3 hc1 hc3 hd1 hd3 ha2 B w Ma hv
  | false =>
    rw [show squaresF a1 a2 a3 b1 b2 b3 c1 c2 c3 d1 d2 d3 = none by unfold squaresF; rw [hv]; rfl]
    have HC := Lib.hid fun W M => ncheck_any a1 a2 a3 b1 b2 b3 c1 c2 c3 d1 d2 d3 ha1 ha2 ha3 hb1 hb2 hb3 hc1 hc2 hc3 hd1 hd2 hd3 B W M
    rw [hv] at HC
    clear hv ha1 ha2 ha3 hb1 hb2 hb3 hc1 hc2 hc3 hd1 hd2 hd3
    have ma := Ma.out
    have na_w := Ma.lt
    go_enter Tryd.func22, Tryd.ntmps22
    go_wp2_with fail
    refine (HC.out _ (by repeat' (first | (with_reducible first | assumption | refine Mp.drew ?_ | refine Mp.drewN ?_ _ | refine Mp.set ?_ _ _ | (refine Mp.new ?_; focus (first | rfl | (simp; done)))) | (refine Mp.put (vs := []) ?_ rfl rfl) | (refine Mp.put (vs := [.agg #[.int .i64 a1, .int .i64 a2, .int .i64 a3]]) ?_ rfl rfl) | (refine Mp.put (vs := [.agg #[.int .i64 a1, .int .i64 a2, .int .i64 a3], .agg #[.int .i64 b1, .int .i64 b2, .int .i64 b3]]) ?_ rfl rfl) | (refine Mp.put (vs := [.agg #[.int .i64 a1, .int .i64 a2, .int .i64 a3], .agg #[.int .i64 b1, .int .i64 b2, .int .i64 b3], .agg #[.int .i64 c1, .int .i64 c2, .int .i64 c3]]) ?_ rfl rfl) | (with_reducible first | refine Mp.putOther ?_ ?_ _ _ | refine Mp.alloc ?_ _) | (refine neB ?_; omega)))).mono ?_
    rintro e W1 ⟨-, h2, hb⟩
    obtain ⟨s, rfl⟩ := h2 rfl
    clear h2
    have Br : Blk W1 (w.heap.size) [.int .i64 0, .int .i64 0, .int .i64 0] := Blk.keep hb (by repeat' (first | (with_reducible first | assumption | refine Blk.drew ?_ | refine Blk.drewN ?_ _ | refine Blk.mapPut ?_ _ _ | apply Blk.set | (refine Blk.new ?_; focus (first | rfl | (simp; done))) | refine Blk.alloc ?_ _ | refine Blk.other ?_ ?_ _) | exact eqL rfl | (refine neB ?_; omega)))
    have Ma : Mp W1 (B) [.agg #[.int .i64 a1, .int .i64 a2, .int .i64 a3], .agg #[.int .i64 b1, .int .i64 b2, .int .i64 b3], .agg #[.int .i64 c1, .int .i64 c2, .int .i64 c3], .agg #[.int .i64 d1, .int .i64 d2, .int .i64 d3]] := Mp.keep hb (by repeat' (first | (with_reducible first | assumption | refine Mp.drew ?_ | refine Mp.drewN ?_ _ | refine Mp.set ?_ _ _ | (refine Mp.new ?_; focus (first | rfl | (simp; done)))) | (refine Mp.put (vs := []) ?_ rfl rfl) | (refine Mp.put (vs := [.agg #[.int .i64 a1, .int .i64 a2, .int .i64 a3]]) ?_ rfl rfl) | (refine Mp.put (vs := [.agg #[.int .i64 a1, .int .i64 a2, .int .i64 a3], .agg #[.int .i64 b1, .int .i64 b2, .int .i64 b3]]) ?_ rfl rfl) | (refine Mp.put (vs := [.agg #[.int .i64 a1, .int .i64 a2, .int .i64 a3], .agg #[.int .i64 b1, .int .i64 b2, .int .i64 b3], .agg #[.int .i64 c1, .int .i64 c2, .int .i64 c3]]) ?_ rfl rfl) | (with_reducible first | refine Mp.putOther ?_ ?_ _ _ | refine Mp.alloc ?_ _) | (refine neB ?_; omega)))
    have cr := Br.cell
    have fr := Br.free
    have lr_W1 := Br.lt
    have ma := Ma.out
    have na_W1 := Ma.lt
    have kaW1 : Acc w W1 := by
      refine Acc.call ?_ hb
      (repeat' (first | (with_reducible first | assumption | exact Acc.refl _ | refine Acc.drew ?_ | refine Acc.drewN ?_ _ | refine Acc.alloc ?_ _ | refine Acc.setCell ?_ ?_ _ | refine Acc.mapPut ?_ ?_ _ _) | (refine leB ?_; omega)))
    clear hb
    go_wp2_with fail
    refine bodyPost_ret (v := .tuple #[.agg #[.int .i64 0, .int .i64 0, .int .i64 0], .iface 82 (.agg #[.string s])]) (by simp [results, Tryd.results22, go_sem, *]) rfl ⟨fun _ _ _ h => (by cases h), fun _ => ⟨_, rfl⟩, ?_⟩
    show Acc w _
    (repeat' (first | (with_reducible first | assumption | exact Acc.refl _ | refine Acc.drew ?_ | refine Acc.drewN ?_ _ | refine Acc.alloc ?_ _ | refine Acc.setCell ?_ ?_ _ | refine Acc.mapPut ?_ ?_ _ _) | (refine leB ?_; omega)))
end Go.Proofs.YtchdcncnlfgjfaaDoor
