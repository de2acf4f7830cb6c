/-
  The program's exported functions of directions.
-/
import Derived.Test.YtiibnncanpohjaaDoorImplM6t
import Derived.Test.YtiibnncanpohjaaDoorImplM6c
namespace Go.Proofs.YtiibnncanpohjaaDoor
open Go.ChangeShapes Go.WideShapes Go.ChangeAt Go.RowKit
set_option linter.unusedVariables false

set_option maxHeartbeats 8000000 in
theorem implRot_any (p q : Int) (hp : i64B p) (hq : i64B q) (w : World) (hl : Laid w) :
    Calls Tryd.prog 13 #[.int .i64 p, .int .i64 q] w (Gave12 (rotM p q) w) := by
  have HL := Lib.hid fun W (k : Acc w W) => hl.acc k
  clear hl
  cases h : dirB p q with
  | false =>
    rw [rot_not h]
    have HT := Lib.hid fun w => turned_rot_no p q hp hq h w
    clear h
    go_enter Tryd.func13, Tryd.ntmps13
    go_wp2_with fail
    refine (rotator_any _).mono ?_
    rintro e W1 ⟨rfl, hb⟩
    have Bz : Blk W1 (w.heap.size) [.int .i64 0, .int .i64 0, .int .i64 0, .int .i64 0, .int .i64 0, .int .i64 0, .int .i64 0, .int .i64 0, .int .i64 0, .int .i64 0, .int .i64 0, .int .i64 0] := Blk.keep hb (by repeat' (first | (with_reducible first | assumption | refine Blk.drew ?_ | refine Blk.drewN ?_ _ | apply Blk.set | (refine Blk.new ?_; focus (first | rfl | (simp; done))) | refine Blk.alloc ?_ _ | refine Blk.other ?_ ?_ _) | exact eqL rfl | (refine neB ?_; omega)))
    have cz := Bz.cell
    have fz := Bz.free
    have lz_W1 := Bz.lt
    have kaW1 : Acc w W1 := by
      refine Acc.call ?_ hb
      (repeat' (first | (with_reducible first | assumption | exact Acc.refl _ | refine Acc.drew ?_ | refine Acc.drewN ?_ _ | refine Acc.alloc ?_ _ | refine Acc.setCell ?_ ?_ _) | (refine leB ?_; omega)))
    clear hb
    go_wp2_with fail
    refine (HT.out _).mono ?_
    rintro e W2 ⟨h1, h2, hb⟩
    have Bz : Blk W2 (w.heap.size) [.int .i64 0, .int .i64 0, .int .i64 0, .int .i64 0, .int .i64 0, .int .i64 0, .int .i64 0, .int .i64 0, .int .i64 0, .int .i64 0, .int .i64 0, .int .i64 0] := Blk.keep hb (by repeat' (first | (with_reducible first | assumption | refine Blk.drew ?_ | refine Blk.drewN ?_ _ | apply Blk.set | (refine Blk.new ?_; focus (first | rfl | (simp; done))) | refine Blk.alloc ?_ _ | refine Blk.other ?_ ?_ _) | exact eqL rfl | (refine neB ?_; omega)))
    have cz := Bz.cell
    have fz := Bz.free
    have lz_W2 := Bz.lt
    have kaW2 : Acc w W2 := by
      refine Acc.call ?_ hb
      (repeat' (first | (with_reducible first | assumption | exact Acc.refl _ | refine Acc.drew ?_ | refine Acc.drewN ?_ _ | refine Acc.alloc ?_ _ | refine Acc.setCell ?_ ?_ _) | (refine leB ?_; omega)))
    clear hb
    obtain ⟨s, rfl⟩ := h2 rfl
    clear h1 h2
    go_wp2_with fail
    refine (toldMatrix_err _ _ _ _ _ _ _ _ _ _ _ _ s _ (HL.out _ (by repeat' (first | (with_reducible first | assumption | exact Acc.refl _ | refine Acc.drew ?_ | refine Acc.drewN ?_ _ | refine Acc.alloc ?_ _ | refine Acc.setCell ?_ ?_ _) | (refine leB ?_; omega))))).mono ?_
    rintro e W3 ⟨rfl, hb⟩
    have Bz : Blk W3 (w.heap.size) [.int .i64 0, .int .i64 0, .int .i64 0, .int .i64 0, .int .i64 0, .int .i64 0, .int .i64 0, .int .i64 0, .int .i64 0, .int .i64 0, .int .i64 0, .int .i64 0] := Blk.keep hb (by repeat' (first | (with_reducible first | assumption | refine Blk.drew ?_ | refine Blk.drewN ?_ _ | apply Blk.set | (refine Blk.new ?_; focus (first | rfl | (simp; done))) | refine Blk.alloc ?_ _ | refine Blk.other ?_ ?_ _) | exact eqL rfl | (refine neB ?_; omega)))
    have cz := Bz.cell
    have fz := Bz.free
    have lz_W3 := Bz.lt
    have kaW3 : Acc w W3 := by
      refine Acc.call ?_ hb
      (repeat' (first | (with_reducible first | assumption | exact Acc.refl _ | refine Acc.drew ?_ | refine Acc.drewN ?_ _ | refine Acc.alloc ?_ _ | refine Acc.setCell ?_ ?_ _) | (refine leB ?_; omega)))
    clear hb
    go_wp2_with fail
    refine bodyPost_ret (v := .tuple #[.agg #[.int .i64 0, .int .i64 0, .int .i64 0, .int .i64 0, .int .i64 0, .int .i64 0, .int .i64 0, .int .i64 0, .int .i64 0, .int .i64 0, .int .i64 0, .int .i64 0], .bool false]) (by simp [results, Tryd.results13, go_sem, *]) rfl ⟨fun _ _ _ _ _ _ _ _ _ _ _ _ h => (by cases h), fun _ => rfl, ?_⟩
    show Acc w _
    (repeat' (first | (with_reducible first | assumption | exact Acc.refl _ | refine Acc.drew ?_ | refine Acc.drewN ?_ _ | refine Acc.alloc ?_ _ | refine Acc.setCell ?_ ?_ _) | (refine leB ?_; omega)))
  | true =>
    obtain ⟨n, x, y, -, -, -, -, -, -, -, -, oc, -, zc, os, -, zs, -, -⟩ := dir_val h
    obtain ⟨⟨c1, c2, c3⟩, hc⟩ : ∃ o, dirC p q = o := ⟨_, rfl⟩
    obtain ⟨⟨s1, s2, s3⟩, hs⟩ : ∃ o, dirS p q = o := ⟨_, rfl⟩
    rw [hc] at oc zc
    rw [hs] at os zs
    obtain rfl : s2 = 0 := zs
    obtain rfl : c2 = 0 := zc
    obtain ⟨hc1, hc2, hc3⟩ := okF_i64 (show okF c1 0 c3 = true from oc)
    obtain ⟨hs1, hs2, hs3⟩ := okF_i64 (show okF s1 0 s3 = true from os)
    obtain ⟨bs1, -, -⟩ := okF_bd (show okF s1 0 s3 = true from os)
    have en : negT (s1, 0, s3) = (-s1, 0, s3) := by unfold negT; rw [Int.zero_sub]
    rw [rot_some h, hc, hs, en]
    obtain ⟨oo, ho⟩ : ∃ o, (some ((c1, 0, c3), (-s1, 0, s3), (s1, 0, s3), c1, 0, c3) : Option F4) = o := ⟨_, rfl⟩
    have HT := Lib.hid fun w => turned_rot p q c1 0 c3 s1 0 s3 hp hq h hc hs _ w (fun W _ => rotClo_any c1 0 c3 s1 s3 bs1 W)
    rw [ho] at HT ⊢
    clear ho h hc hs oc os en
    go_enter Tryd.func13, Tryd.ntmps13
    go_wp2_with fail
    refine (rotator_any _).mono ?_
    rintro e W1 ⟨rfl, hb⟩
    have Bz : Blk W1 (w.heap.size) [.int .i64 0, .int .i64 0, .int .i64 0, .int .i64 0, .int .i64 0, .int .i64 0, .int .i64 0, .int .i64 0, .int .i64 0, .int .i64 0, .int .i64 0, .int .i64 0] := Blk.keep hb (by repeat' (first | (with_reducible first | assumption | refine Blk.drew ?_ | refine Blk.drewN ?_ _ | apply Blk.set | (refine Blk.new ?_; focus (first | rfl | (simp; done))) | refine Blk.alloc ?_ _ | refine Blk.other ?_ ?_ _) | exact eqL rfl | (refine neB ?_; omega)))
    have cz := Bz.cell
    have fz := Bz.free
    have lz_W1 := Bz.lt
    have kaW1 : Acc w W1 := by
      refine Acc.call ?_ hb
      (repeat' (first | (with_reducible first | assumption | exact Acc.refl _ | refine Acc.drew ?_ | refine Acc.drewN ?_ _ | refine Acc.alloc ?_ _ | refine Acc.setCell ?_ ?_ _) | (refine leB ?_; omega)))
    clear hb
    go_wp2_with fail
    refine (HT.out _).mono ?_
    rintro e W2 ⟨h1, h2, hb⟩
    have Bz : Blk W2 (w.heap.size) [.int .i64 0, .int .i64 0, .int .i64 0, .int .i64 0, .int .i64 0, .int .i64 0, .int .i64 0, .int .i64 0, .int .i64 0, .int .i64 0, .int .i64 0, .int .i64 0] := Blk.keep hb (by repeat' (first | (with_reducible first | assumption | refine Blk.drew ?_ | refine Blk.drewN ?_ _ | apply Blk.set | (refine Blk.new ?_; focus (first | rfl | (simp; done))) | refine Blk.alloc ?_ _ | refine Blk.other ?_ ?_ _) | exact eqL rfl | (refine neB ?_; omega)))
    have cz := Bz.cell
    have fz := Bz.free
    have lz_W2 := Bz.lt
    have kaW2 : Acc w W2 := by
      refine Acc.call ?_ hb
      (repeat' (first | (with_reducible first | assumption | exact Acc.refl _ | refine Acc.drew ?_ | refine Acc.drewN ?_ _ | refine Acc.alloc ?_ _ | refine Acc.setCell ?_ ?_ _) | (refine leB ?_; omega)))
    clear hb
    cases oo with
    | none =>
      obtain ⟨s, rfl⟩ := h2 rfl
      clear h1 h2
      go_wp2_with fail
      refine (toldMatrix_err _ _ _ _ _ _ _ _ _ _ _ _ s _ (HL.out _ (by repeat' (first | (with_reducible first | assumption | exact Acc.refl _ | refine Acc.drew ?_ | refine Acc.drewN ?_ _ | refine Acc.alloc ?_ _ | refine Acc.setCell ?_ ?_ _) | (refine leB ?_; omega))))).mono ?_
      rintro e W3 ⟨rfl, hb⟩
      have Bz : Blk W3 (w.heap.size) [.int .i64 0, .int .i64 0, .int .i64 0, .int .i64 0, .int .i64 0, .int .i64 0, .int .i64 0, .int .i64 0, .int .i64 0, .int .i64 0, .int .i64 0, .int .i64 0] := Blk.keep hb (by repeat' (first | (with_reducible first | assumption | refine Blk.drew ?_ | refine Blk.drewN ?_ _ | apply Blk.set | (refine Blk.new ?_; focus (first | rfl | (simp; done))) | refine Blk.alloc ?_ _ | refine Blk.other ?_ ?_ _) | exact eqL rfl | (refine neB ?_; omega)))
      have cz := Bz.cell
      have fz := Bz.free
      have lz_W3 := Bz.lt
      have kaW3 : Acc w W3 := by
        refine Acc.call ?_ hb
        (repeat' (first | (with_reducible first | assumption | exact Acc.refl _ | refine Acc.drew ?_ | refine Acc.drewN ?_ _ | refine Acc.alloc ?_ _ | refine Acc.setCell ?_ ?_ _) | (refine leB ?_; omega)))
      clear hb
      go_wp2_with fail
      refine bodyPost_ret (v := .tuple #[.agg #[.int .i64 0, .int .i64 0, .int .i64 0, .int .i64 0, .int .i64 0, .int .i64 0, .int .i64 0, .int .i64 0, .int .i64 0, .int .i64 0, .int .i64 0, .int .i64 0], .bool false]) (by simp [results, Tryd.results13, go_sem, *]) rfl ⟨fun _ _ _ _ _ _ _ _ _ _ _ _ h => (by cases h), fun _ => rfl, ?_⟩
      show Acc w _
      (repeat' (first | (with_reducible first | assumption | exact Acc.refl _ | refine Acc.drew ?_ | refine Acc.drewN ?_ _ | refine Acc.alloc ?_ _ | refine Acc.setCell ?_ ?_ _) | (refine leB ?_; omega)))
    | some v =>
      obtain ⟨⟨p1, p2, p3⟩, ⟨t1, t2, t3⟩, ⟨r1, r2, r3⟩, u1, u2, u3⟩ := v
      obtain rfl := h1 _ _ _ _ _ _ _ _ _ _ _ _ rfl
      clear h1 h2
      go_wp2_with fail
      refine (toldMatrix_ok p1 p2 p3 t1 t2 t3 r1 r2 r3 u1 u2 u3 _).mono ?_
      rintro e W3 ⟨rfl, hb⟩
      have Bz : Blk W3 (w.heap.size) [.int .i64 0, .int .i64 0, .int .i64 0, .int .i64 0, .int .i64 0, .int .i64 0, .int .i64 0, .int .i64 0, .int .i64 0, .int .i64 0, .int .i64 0, .int .i64 0] := Blk.keep hb (by repeat' (first | (with_reducible first | assumption | refine Blk.drew ?_ | refine Blk.drewN ?_ _ | apply Blk.set | (refine Blk.new ?_; focus (first | rfl | (simp; done))) | refine Blk.alloc ?_ _ | refine Blk.other ?_ ?_ _) | exact eqL rfl | (refine neB ?_; omega)))
      have cz := Bz.cell
      have fz := Bz.free
      have lz_W3 := Bz.lt
      have kaW3 : Acc w W3 := by
        refine Acc.call ?_ hb
        (repeat' (first | (with_reducible first | assumption | exact Acc.refl _ | refine Acc.drew ?_ | refine Acc.drewN ?_ _ | refine Acc.alloc ?_ _ | refine Acc.setCell ?_ ?_ _) | (refine leB ?_; omega)))
      clear hb
      go_wp2_with fail
      refine bodyPost_ret (v := .tuple #[.agg #[.int .i64 p1, .int .i64 p2, .int .i64 p3, .int .i64 t1, .int .i64 t2, .int .i64 t3, .int .i64 r1, .int .i64 r2, .int .i64 r3, .int .i64 u1, .int .i64 u2, .int .i64 u3], .bool true]) (by simp [results, Tryd.results13, go_sem, *]) rfl ⟨fun _ _ _ _ _ _ _ _ _ _ _ _ h => (by cases h; rfl), fun h => (by cases h), ?_⟩
      show Acc w _
      (repeat' (first | (with_reducible first | assumption | exact Acc.refl _ | refine Acc.drew ?_ | refine Acc.drewN ?_ _ | refine Acc.alloc ?_ _ | refine Acc.setCell ?_ ?_ _) | (refine leB ?_; omega)))
set_option maxHeartbeats 8000000 in
theorem implFil_any (p q : Int) (hp : i64B p) (hq : i64B q) (w : World) (hl : Laid w) :
    Calls Tryd.prog 33 #[.int .i64 p, .int .i64 q] w (Gave12 (filM p q) w) := by
  have HL := Lib.hid fun W (k : Acc w W) => hl.acc k
  clear hl
  cases h : dirB p q with
  | false =>
    rw [show filM p q = none by unfold filM; rw [h]; rfl]
    have HT := Lib.hid fun w => turned_fil_no p q hp hq h w
    clear h
    go_enter Tryd.func33, Tryd.ntmps33
    go_wp2_with fail
    refine (filter_any _).mono ?_
    rintro e W1 ⟨rfl, hb⟩
    have Bz : Blk W1 (w.heap.size) [.int .i64 0, .int .i64 0, .int .i64 0, .int .i64 0, .int .i64 0, .int .i64 0, .int .i64 0, .int .i64 0, .int .i64 0, .int .i64 0, .int .i64 0, .int .i64 0] := Blk.keep hb (by repeat' (first | (with_reducible first | assumption | refine Blk.drew ?_ | refine Blk.drewN ?_ _ | apply Blk.set | (refine Blk.new ?_; focus (first | rfl | (simp; done))) | refine Blk.alloc ?_ _ | refine Blk.other ?_ ?_ _) | exact eqL rfl | (refine neB ?_; omega)))
    have cz := Bz.cell
    have fz := Bz.free
    have lz_W1 := Bz.lt
    have kaW1 : Acc w W1 := by
      refine Acc.call ?_ hb
      (repeat' (first | (with_reducible first | assumption | exact Acc.refl _ | refine Acc.drew ?_ | refine Acc.drewN ?_ _ | refine Acc.alloc ?_ _ | refine Acc.setCell ?_ ?_ _) | (refine leB ?_; omega)))
    clear hb
    go_wp2_with fail
    refine (HT.out _).mono ?_
    rintro e W2 ⟨h1, h2, hb⟩
    have Bz : Blk W2 (w.heap.size) [.int .i64 0, .int .i64 0, .int .i64 0, .int .i64 0, .int .i64 0, .int .i64 0, .int .i64 0, .int .i64 0, .int .i64 0, .int .i64 0, .int .i64 0, .int .i64 0] := Blk.keep hb (by repeat' (first | (with_reducible first | assumption | refine Blk.drew ?_ | refine Blk.drewN ?_ _ | apply Blk.set | (refine Blk.new ?_; focus (first | rfl | (simp; done))) | refine Blk.alloc ?_ _ | refine Blk.other ?_ ?_ _) | exact eqL rfl | (refine neB ?_; omega)))
    have cz := Bz.cell
    have fz := Bz.free
    have lz_W2 := Bz.lt
    have kaW2 : Acc w W2 := by
      refine Acc.call ?_ hb
      (repeat' (first | (with_reducible first | assumption | exact Acc.refl _ | refine Acc.drew ?_ | refine Acc.drewN ?_ _ | refine Acc.alloc ?_ _ | refine Acc.setCell ?_ ?_ _) | (refine leB ?_; omega)))
    clear hb
    obtain ⟨s, rfl⟩ := h2 rfl
    clear h1 h2
    go_wp2_with fail
    refine (toldMatrix_err _ _ _ _ _ _ _ _ _ _ _ _ s _ (HL.out _ (by repeat' (first | (with_reducible first | assumption | exact Acc.refl _ | refine Acc.drew ?_ | refine Acc.drewN ?_ _ | refine Acc.alloc ?_ _ | refine Acc.setCell ?_ ?_ _) | (refine leB ?_; omega))))).mono ?_
    rintro e W3 ⟨rfl, hb⟩
    have Bz : Blk W3 (w.heap.size) [.int .i64 0, .int .i64 0, .int .i64 0, .int .i64 0, .int .i64 0, .int .i64 0, .int .i64 0, .int .i64 0, .int .i64 0, .int .i64 0, .int .i64 0, .int .i64 0] := Blk.keep hb (by repeat' (first | (with_reducible first | assumption | refine Blk.drew ?_ | refine Blk.drewN ?_ _ | apply Blk.set | (refine Blk.new ?_; focus (first | rfl | (simp; done))) | refine Blk.alloc ?_ _ | refine Blk.other ?_ ?_ _) | exact eqL rfl | (refine neB ?_; omega)))
    have cz := Bz.cell
    have fz := Bz.free
    have lz_W3 := Bz.lt
    have kaW3 : Acc w W3 := by
      refine Acc.call ?_ hb
      (repeat' (first | (with_reducible first | assumption | exact Acc.refl _ | refine Acc.drew ?_ | refine Acc.drewN ?_ _ | refine Acc.alloc ?_ _ | refine Acc.setCell ?_ ?_ _) | (refine leB ?_; omega)))
    clear hb
    go_wp2_with fail
    refine bodyPost_ret (v := .tuple #[.agg #[.int .i64 0, .int .i64 0, .int .i64 0, .int .i64 0, .int .i64 0, .int .i64 0, .int .i64 0, .int .i64 0, .int .i64 0, .int .i64 0, .int .i64 0, .int .i64 0], .bool false]) (by simp [results, Tryd.results33, go_sem, *]) rfl ⟨fun _ _ _ _ _ _ _ _ _ _ _ _ h => (by cases h), fun _ => rfl, ?_⟩
    show Acc w _
    (repeat' (first | (with_reducible first | assumption | exact Acc.refl _ | refine Acc.drew ?_ | refine Acc.drewN ?_ _ | refine Acc.alloc ?_ _ | refine Acc.setCell ?_ ?_ _) | (refine leB ?_; omega)))
  | true =>
    obtain ⟨n, x, y, -, -, -, -, -, -, -, -, oc, -, zc, os, -, zs, -, -⟩ := dir_val h
    obtain ⟨⟨c1, c2, c3⟩, hc⟩ : ∃ o, dirC p q = o := ⟨_, rfl⟩
    obtain ⟨⟨s1, s2, s3⟩, hs⟩ : ∃ o, dirS p q = o := ⟨_, rfl⟩
    rw [hc] at oc zc
    rw [hs] at os zs
    obtain rfl : s2 = 0 := zs
    obtain rfl : c2 = 0 := zc
    obtain ⟨hc1, hc2, hc3⟩ := okF_i64 (show okF c1 0 c3 = true from oc)
    obtain ⟨hs1, hs2, hs3⟩ := okF_i64 (show okF s1 0 s3 = true from os)
    obtain ⟨bs1, -, -⟩ := okF_bd (show okF s1 0 s3 = true from os)
    rw [show filM p q = quadO (timesF c1 0 c3 c1 0 c3) (timesF c1 0 c3 s1 0 s3) (timesF s1 0 s3 c1 0 c3) (timesF s1 0 s3 s1 0 s3) from (by unfold filM; rw [h, hc, hs]; exact fil_quad.symm)]
    obtain ⟨oo, ho⟩ : ∃ o, quadO (timesF c1 0 c3 c1 0 c3) (timesF c1 0 c3 s1 0 s3) (timesF s1 0 s3 c1 0 c3) (timesF s1 0 s3 s1 0 s3) = o := ⟨_, rfl⟩
    have HT := Lib.hid fun w => turned_fil p q c1 0 c3 s1 0 s3 hp hq h hc hs _ w (fun W _ => filClo_any c1 0 c3 s1 0 s3 hc1 hc2 hc3 hs1 hs2 hs3 W)
    rw [ho] at HT ⊢
    clear ho h hc hs oc os
    go_enter Tryd.func33, Tryd.ntmps33
    go_wp2_with fail
    refine (filter_any _).mono ?_
    rintro e W1 ⟨rfl, hb⟩
    have Bz : Blk W1 (w.heap.size) [.int .i64 0, .int .i64 0, .int .i64 0, .int .i64 0, .int .i64 0, .int .i64 0, .int .i64 0, .int .i64 0, .int .i64 0, .int .i64 0, .int .i64 0, .int .i64 0] := Blk.keep hb (by repeat' (first | (with_reducible first | assumption | refine Blk.drew ?_ | refine Blk.drewN ?_ _ | apply Blk.set | (refine Blk.new ?_; focus (first | rfl | (simp; done))) | refine Blk.alloc ?_ _ | refine Blk.other ?_ ?_ _) | exact eqL rfl | (refine neB ?_; omega)))
    have cz := Bz.cell
    have fz := Bz.free
    have lz_W1 := Bz.lt
    have kaW1 : Acc w W1 := by
      refine Acc.call ?_ hb
      (repeat' (first | (with_reducible first | assumption | exact Acc.refl _ | refine Acc.drew ?_ | refine Acc.drewN ?_ _ | refine Acc.alloc ?_ _ | refine Acc.setCell ?_ ?_ _) | (refine leB ?_; omega)))
    clear hb
    go_wp2_with fail
    refine (HT.out _).mono ?_
    rintro e W2 ⟨h1, h2, hb⟩
    have Bz : Blk W2 (w.heap.size) [.int .i64 0, .int .i64 0, .int .i64 0, .int .i64 0, .int .i64 0, .int .i64 0, .int .i64 0, .int .i64 0, .int .i64 0, .int .i64 0, .int .i64 0, .int .i64 0] := Blk.keep hb (by repeat' (first | (with_reducible first | assumption | refine Blk.drew ?_ | refine Blk.drewN ?_ _ | apply Blk.set | (refine Blk.new ?_; focus (first | rfl | (simp; done))) | refine Blk.alloc ?_ _ | refine Blk.other ?_ ?_ _) | exact eqL rfl | (refine neB ?_; omega)))
    have cz := Bz.cell
    have fz := Bz.free
    have lz_W2 := Bz.lt
    have kaW2 : Acc w W2 := by
      refine Acc.call ?_ hb
      (repeat' (first | (with_reducible first | assumption | exact Acc.refl _ | refine Acc.drew ?_ | refine Acc.drewN ?_ _ | refine Acc.alloc ?_ _ | refine Acc.setCell ?_ ?_ _) | (refine leB ?_; omega)))
    clear hb
    cases oo with
    | none =>
      obtain ⟨s, rfl⟩ := h2 rfl
      clear h1 h2
      go_wp2_with fail
      refine (toldMatrix_err _ _ _ _ _ _ _ _ _ _ _ _ s _ (HL.out _ (by repeat' (first | (with_reducible first | assumption | exact Acc.refl _ | refine Acc.drew ?_ | refine Acc.drewN ?_ _ | refine Acc.alloc ?_ _ | refine Acc.setCell ?_ ?_ _) | (refine leB ?_; omega))))).mono ?_
      rintro e W3 ⟨rfl, hb⟩
      have Bz : Blk W3 (w.heap.size) [.int .i64 0, .int .i64 0, .int .i64 0, .int .i64 0, .int .i64 0, .int .i64 0, .int .i64 0, .int .i64 0, .int .i64 0, .int .i64 0, .int .i64 0, .int .i64 0] := Blk.keep hb (by repeat' (first | (with_reducible first | assumption | refine Blk.drew ?_ | refine Blk.drewN ?_ _ | apply Blk.set | (refine Blk.new ?_; focus (first | rfl | (simp; done))) | refine Blk.alloc ?_ _ | refine Blk.other ?_ ?_ _) | exact eqL rfl | (refine neB ?_; omega)))
      have cz := Bz.cell
      have fz := Bz.free
      have lz_W3 := Bz.lt
      have kaW3 : Acc w W3 := by
        refine Acc.call ?_ hb
        (repeat' (first | (with_reducible first | assumption | exact Acc.refl _ | refine Acc.drew ?_ | refine Acc.drewN ?_ _ | refine Acc.alloc ?_ _ | refine Acc.setCell ?_ ?_ _) | (refine leB ?_; omega)))
      clear hb
      go_wp2_with fail
      refine bodyPost_ret (v := .tuple #[.agg #[.int .i64 0, .int .i64 0, .int .i64 0, .int .i64 0, .int .i64 0, .int .i64 0, .int .i64 0, .int .i64 0, .int .i64 0, .int .i64 0, .int .i64 0, .int .i64 0], .bool false]) (by simp [results, Tryd.results33, go_sem, *]) rfl ⟨fun _ _ _ _ _ _ _ _ _ _ _ _ h => (by cases h), fun _ => rfl, ?_⟩
      show Acc w _
      (repeat' (first | (with_reducible first | assumption | exact Acc.refl _ | refine Acc.drew ?_ | refine Acc.drewN ?_ _ | refine Acc.alloc ?_ _ | refine Acc.setCell ?_ ?_ _) | (refine leB ?_; omega)))
    | some v =>
      obtain ⟨⟨p1, p2, p3⟩, ⟨t1, t2, t3⟩, ⟨r1, r2, r3⟩, u1, u2, u3⟩ := v
      obtain rfl := h1 _ _ _ _ _ _ _ _ _ _ _ _ rfl
      clear h1 h2
      go_wp2_with fail
      refine (toldMatrix_ok p1 p2 p3 t1 t2 t3 r1 r2 r3 u1 u2 u3 _).mono ?_
      rintro e W3 ⟨rfl, hb⟩
      have Bz : Blk W3 (w.heap.size) [.int .i64 0, .int .i64 0, .int .i64 0, .int .i64 0, .int .i64 0, .int .i64 0, .int .i64 0, .int .i64 0, .int .i64 0, .int .i64 0, .int .i64 0, .int .i64 0] := Blk.keep hb (by repeat' (first | (with_reducible first | assumption | refine Blk.drew ?_ | refine Blk.drewN ?_ _ | apply Blk.set | (refine Blk.new ?_; focus (first | rfl | (simp; done))) | refine Blk.alloc ?_ _ | refine Blk.other ?_ ?_ _) | exact eqL rfl | (refine neB ?_; omega)))
      have cz := Bz.cell
      have fz := Bz.free
      have lz_W3 := Bz.lt
      have kaW3 : Acc w W3 := by
        refine Acc.call ?_ hb
        (repeat' (first | (with_reducible first | assumption | exact Acc.refl _ | refine Acc.drew ?_ | refine Acc.drewN ?_ _ | refine Acc.alloc ?_ _ | refine Acc.setCell ?_ ?_ _) | (refine leB ?_; omega)))
      clear hb
      go_wp2_with fail
      refine bodyPost_ret (v := .tuple #[.agg #[.int .i64 p1, .int .i64 p2, .int .i64 p3, .int .i64 t1, .int .i64 t2, .int .i64 t3, .int .i64 r1, .int .i64 r2, .int .i64 r3, .int .i64 u1, .int .i64 u2, .int .i64 u3], .bool true]) (by simp [results, Tryd.results33, go_sem, *]) rfl ⟨fun _ _ _ _ _ _ _ _ _ _ _ _ h => (by cases h; rfl), fun h => (by cases h), ?_⟩
      show Acc w _
      (repeat' (first | (with_reducible first | assumption | exact Acc.refl _ | refine Acc.drew ?_ | refine Acc.drewN ?_ _ | refine Acc.alloc ?_ _ | refine Acc.setCell ?_ ?_ _) | (refine leB ?_; omega)))
theorem Blk.at' {w : World} {n m : Nat} {vs : List Value} (h : Blk w n vs) (e : n = m) : Blk w m vs := e ▸ h
theorem pla_prog {p q k f1 f2 f3 c1 c3 s1 s3 : Int} (hf : phaT k = (f1, f2, f3)) (hr : rotM p q = some ((c1, 0, c3), (-s1, 0, s3), (s1, 0, s3), c1, 0, c3)) (hok : okM ((c1, 0, c3), (-s1, 0, s3), (s1, 0, s3), c1, 0, c3) = true) : plaM p q k = ((adjM ((c1, 0, c3), (-s1, 0, s3), (s1, 0, s3), c1, 0, c3)).bind fun B => (if inB k 0 3 = true then some (f1, f2, f3) else none).bind fun (f : F3) => (mulM ((c1, 0, c3), (-s1, 0, s3), (s1, 0, s3), c1, 0, c3) ((1, 0, 1), (0, 0, 1), (0, 0, 1), f)).bind fun X => mulM X B) := by
  unfold plaM diaM
  rw [hr, hf, Option.bind_some, adjM_of hok]
  cases inB k 0 3 <;> rfl
set_option maxHeartbeats 8000000 in
theorem implPla_any (p q k : Int) (hp : i64B p) (hq : i64B q) (hk : i64B k) (w : World) (hl : Laid w) :
    Calls Tryd.prog 30 #[.int .i64 p, .int .i64 q, .int .i64 k] w (Gave12 (plaM p q k) w) := by
  have HL := Lib.hid fun W (k : Acc w W) => hl.acc k
  clear hl
  cases h : dirB p q with
  | false =>
    rw [show plaM p q k = none by unfold plaM; rw [rot_not h]; cases inB k 0 3 <;> rfl]
    have HT := Lib.hid fun kb w => turned_pla_no kb p q hp hq h w
    clear h
    go_enter Tryd.func30, Tryd.ntmps30
    go_wp2_with fail
    refine (plate_any k _).mono ?_
    rintro e W1 ⟨rfl, Bk0, hb⟩
    have Bk : Blk W1 (w.heap.size + 1) [.int .i64 k] := Blk.at' Bk0 (by simp only [World.alloc, Array.size_push])
    clear Bk0
    have Bz : Blk W1 (w.heap.size) [.int .i64 0, .int .i64 0, .int .i64 0, .int .i64 0, .int .i64 0, .int .i64 0, .int .i64 0, .int .i64 0, .int .i64 0, .int .i64 0, .int .i64 0, .int .i64 0] := Blk.keep hb (by repeat' (first | (with_reducible first | assumption | refine Blk.drew ?_ | refine Blk.drewN ?_ _ | apply Blk.set | (refine Blk.new ?_; focus (first | rfl | (simp; done))) | refine Blk.alloc ?_ _ | refine Blk.other ?_ ?_ _) | exact eqL rfl | (refine neB ?_; omega)))
    have cz := Bz.cell
    have fz := Bz.free
    have lz_W1 := Bz.lt
    have kaW1 : Acc w W1 := by
      refine Acc.call ?_ hb
      (repeat' (first | (with_reducible first | assumption | exact Acc.refl _ | refine Acc.drew ?_ | refine Acc.drewN ?_ _ | refine Acc.alloc ?_ _ | refine Acc.setCell ?_ ?_ _) | (refine leB ?_; omega)))
    clear hb
    have ck := Bk.cell
    have fk := Bk.free
    have lk_W1 := Bk.lt
    go_wp2_with fail
    refine (HT.out (w.heap.size + 1) _).mono ?_
    rintro e W2 ⟨h1, h2, hb⟩
    obtain ⟨Bz, Bk⟩ : Blk W2 (w.heap.size) [.int .i64 0, .int .i64 0, .int .i64 0, .int .i64 0, .int .i64 0, .int .i64 0, .int .i64 0, .int .i64 0, .int .i64 0, .int .i64 0, .int .i64 0, .int .i64 0] ∧ Blk W2 (w.heap.size + 1) [.int .i64 k] := by
      refine ⟨?_, ?_⟩ <;> refine Blk.keep hb ?_ <;> (repeat' (first | (with_reducible first | assumption | refine Blk.drew ?_ | refine Blk.drewN ?_ _ | apply Blk.set | (refine Blk.new ?_; focus (first | rfl | (simp; done))) | refine Blk.alloc ?_ _ | refine Blk.other ?_ ?_ _) | exact eqL rfl | (refine neB ?_; omega)))
    have cz := Bz.cell
    have fz := Bz.free
    have lz_W2 := Bz.lt
    have ck := Bk.cell
    have fk := Bk.free
    have lk_W2 := Bk.lt
    have kaW2 : Acc w W2 := by
      refine Acc.call ?_ hb
      (repeat' (first | (with_reducible first | assumption | exact Acc.refl _ | refine Acc.drew ?_ | refine Acc.drewN ?_ _ | refine Acc.alloc ?_ _ | refine Acc.setCell ?_ ?_ _) | (refine leB ?_; omega)))
    clear hb
    obtain ⟨s, rfl⟩ := h2 rfl
    clear h1 h2
    go_wp2_with fail
    refine (toldMatrix_err _ _ _ _ _ _ _ _ _ _ _ _ s _ (HL.out _ (by repeat' (first | (with_reducible first | assumption | exact Acc.refl _ | refine Acc.drew ?_ | refine Acc.drewN ?_ _ | refine Acc.alloc ?_ _ | refine Acc.setCell ?_ ?_ _) | (refine leB ?_; omega))))).mono ?_
    rintro e W3 ⟨rfl, hb⟩
    obtain ⟨Bz, Bk⟩ : Blk W3 (w.heap.size) [.int .i64 0, .int .i64 0, .int .i64 0, .int .i64 0, .int .i64 0, .int .i64 0, .int .i64 0, .int .i64 0, .int .i64 0, .int .i64 0, .int .i64 0, .int .i64 0] ∧ Blk W3 (w.heap.size + 1) [.int .i64 k] := by
      refine ⟨?_, ?_⟩ <;> refine Blk.keep hb ?_ <;> (repeat' (first | (with_reducible first | assumption | refine Blk.drew ?_ | refine Blk.drewN ?_ _ | apply Blk.set | (refine Blk.new ?_; focus (first | rfl | (simp; done))) | refine Blk.alloc ?_ _ | refine Blk.other ?_ ?_ _) | exact eqL rfl | (refine neB ?_; omega)))
    have cz := Bz.cell
    have fz := Bz.free
    have lz_W3 := Bz.lt
    have ck := Bk.cell
    have fk := Bk.free
    have lk_W3 := Bk.lt
    have kaW3 : Acc w W3 := by
      refine Acc.call ?_ hb
      (repeat' (first | (with_reducible first | assumption | exact Acc.refl _ | refine Acc.drew ?_ | refine Acc.drewN ?_ _ | refine Acc.alloc ?_ _ | refine Acc.setCell ?_ ?_ _) | (refine leB ?_; omega)))
    clear hb
    go_wp2_with fail
    refine bodyPost_ret (v := .tuple #[.agg #[.int .i64 0, .int .i64 0, .int .i64 0, .int .i64 0, .int .i64 0, .int .i64 0, .int .i64 0, .int .i64 0, .int .i64 0, .int .i64 0, .int .i64 0, .int .i64 0], .bool false]) (by simp [results, Tryd.results30, go_sem, *]) rfl ⟨fun _ _ _ _ _ _ _ _ _ _ _ _ h => (by cases h), fun _ => rfl, ?_⟩
    show Acc w _
    (repeat' (first | (with_reducible first | assumption | exact Acc.refl _ | refine Acc.drew ?_ | refine Acc.drewN ?_ _ | refine Acc.alloc ?_ _ | refine Acc.setCell ?_ ?_ _) | (refine leB ?_; omega)))
  | true =>
    obtain ⟨n, x, y, -, -, -, -, -, -, -, -, oc, -, zc, os, -, zs, -, -⟩ := dir_val h
    obtain ⟨⟨c1, c2, c3⟩, hc⟩ : ∃ o, dirC p q = o := ⟨_, rfl⟩
    obtain ⟨⟨s1, s2, s3⟩, hs⟩ : ∃ o, dirS p q = o := ⟨_, rfl⟩
    rw [hc] at oc zc
    rw [hs] at os zs
    obtain rfl : s2 = 0 := zs
    obtain rfl : c2 = 0 := zc
    obtain ⟨hc1, hc2, hc3⟩ := okF_i64 (show okF c1 0 c3 = true from oc)
    obtain ⟨hs1, hs2, hs3⟩ := okF_i64 (show okF s1 0 s3 = true from os)
    obtain ⟨bs1, -, -⟩ := okF_bd (show okF s1 0 s3 = true from os)
    have en : negT (s1, 0, s3) = (-s1, 0, s3) := by unfold negT; rw [Int.zero_sub]
    have hr := rot_some h
    have hok := (rot_ok hr).2
    rw [hc, hs, en] at hr hok
    obtain ⟨⟨f1, f2, f3⟩, hf⟩ : ∃ o, phaT k = o := ⟨_, rfl⟩
    rw [pla_prog hf hr hok]
    obtain ⟨oo, ho⟩ : ∃ o, ((adjM ((c1, 0, c3), (-s1, 0, s3), (s1, 0, s3), c1, 0, c3)).bind fun B => (if inB k 0 3 = true then some (f1, f2, f3) else none).bind fun (f : F3) => (mulM ((c1, 0, c3), (-s1, 0, s3), (s1, 0, s3), c1, 0, c3) ((1, 0, 1), (0, 0, 1), (0, 0, 1), f)).bind fun X => mulM X B) = o := ⟨_, rfl⟩
    have HT := Lib.hid fun kb w (K : ∀ W, Acc w W → Blk W kb [.int .i64 k]) => turned_pla kb p q c1 0 c3 s1 0 s3 hp hq h hc hs _ w (fun W a => plaClo_any kb k c1 0 c3 s1 s3 f1 f2 f3 hc1 hc2 hc3 bs1 hs3 hok hf W (K W a))
    rw [ho] at HT ⊢
    clear ho h hc hs oc os en hr hok hf
    go_enter Tryd.func30, Tryd.ntmps30
    go_wp2_with fail
    refine (plate_any k _).mono ?_
    rintro e W1 ⟨rfl, Bk0, hb⟩
    have Bk : Blk W1 (w.heap.size + 1) [.int .i64 k] := Blk.at' Bk0 (by simp only [World.alloc, Array.size_push])
    clear Bk0
    have Bz : Blk W1 (w.heap.size) [.int .i64 0, .int .i64 0, .int .i64 0, .int .i64 0, .int .i64 0, .int .i64 0, .int .i64 0, .int .i64 0, .int .i64 0, .int .i64 0, .int .i64 0, .int .i64 0] := Blk.keep hb (by repeat' (first | (with_reducible first | assumption | refine Blk.drew ?_ | refine Blk.drewN ?_ _ | apply Blk.set | (refine Blk.new ?_; focus (first | rfl | (simp; done))) | refine Blk.alloc ?_ _ | refine Blk.other ?_ ?_ _) | exact eqL rfl | (refine neB ?_; omega)))
    have cz := Bz.cell
    have fz := Bz.free
    have lz_W1 := Bz.lt
    have kaW1 : Acc w W1 := by
      refine Acc.call ?_ hb
      (repeat' (first | (with_reducible first | assumption | exact Acc.refl _ | refine Acc.drew ?_ | refine Acc.drewN ?_ _ | refine Acc.alloc ?_ _ | refine Acc.setCell ?_ ?_ _) | (refine leB ?_; omega)))
    clear hb
    have ck := Bk.cell
    have fk := Bk.free
    have lk_W1 := Bk.lt
    go_wp2_with fail
    refine (HT.out (w.heap.size + 1) _ (fun W k => (Blk.keep k (by repeat' (first | (with_reducible first | assumption | refine Blk.drew ?_ | refine Blk.drewN ?_ _ | apply Blk.set | (refine Blk.new ?_; focus (first | rfl | (simp; done))) | refine Blk.alloc ?_ _ | refine Blk.other ?_ ?_ _) | exact eqL rfl | (refine neB ?_; omega)))))).mono ?_
    rintro e W2 ⟨h1, h2, hb⟩
    obtain ⟨Bz, Bk⟩ : Blk W2 (w.heap.size) [.int .i64 0, .int .i64 0, .int .i64 0, .int .i64 0, .int .i64 0, .int .i64 0, .int .i64 0, .int .i64 0, .int .i64 0, .int .i64 0, .int .i64 0, .int .i64 0] ∧ Blk W2 (w.heap.size + 1) [.int .i64 k] := by
      refine ⟨?_, ?_⟩ <;> refine Blk.keep hb ?_ <;> (repeat' (first | (with_reducible first | assumption | refine Blk.drew ?_ | refine Blk.drewN ?_ _ | apply Blk.set | (refine Blk.new ?_; focus (first | rfl | (simp; done))) | refine Blk.alloc ?_ _ | refine Blk.other ?_ ?_ _) | exact eqL rfl | (refine neB ?_; omega)))
    have cz := Bz.cell
    have fz := Bz.free
    have lz_W2 := Bz.lt
    have ck := Bk.cell
    have fk := Bk.free
    have lk_W2 := Bk.lt
    have kaW2 : Acc w W2 := by
      refine Acc.call ?_ hb
      (repeat' (first | (with_reducible first | assumption | exact Acc.refl _ | refine Acc.drew ?_ | refine Acc.drewN ?_ _ | refine Acc.alloc ?_ _ | refine Acc.setCell ?_ ?_ _) | (refine leB ?_; omega)))
    clear hb
    cases oo with
    | none =>
      obtain ⟨s, rfl⟩ := h2 rfl
      clear h1 h2
      go_wp2_with fail
      refine (toldMatrix_err _ _ _ _ _ _ _ _ _ _ _ _ s _ (HL.out _ (by repeat' (first | (with_reducible first | assumption | exact Acc.refl _ | refine Acc.drew ?_ | refine Acc.drewN ?_ _ | refine Acc.alloc ?_ _ | refine Acc.setCell ?_ ?_ _) | (refine leB ?_; omega))))).mono ?_
      rintro e W3 ⟨rfl, hb⟩
      obtain ⟨Bz, Bk⟩ : Blk W3 (w.heap.size) [.int .i64 0, .int .i64 0, .int .i64 0, .int .i64 0, .int .i64 0, .int .i64 0, .int .i64 0, .int .i64 0, .int .i64 0, .int .i64 0, .int .i64 0, .int .i64 0] ∧ Blk W3 (w.heap.size + 1) [.int .i64 k] := by
        refine ⟨?_, ?_⟩ <;> refine Blk.keep hb ?_ <;> (repeat' (first | (with_reducible first | assumption | refine Blk.drew ?_ | refine Blk.drewN ?_ _ | apply Blk.set | (refine Blk.new ?_; focus (first | rfl | (simp; done))) | refine Blk.alloc ?_ _ | refine Blk.other ?_ ?_ _) | exact eqL rfl | (refine neB ?_; omega)))
      have cz := Bz.cell
      have fz := Bz.free
      have lz_W3 := Bz.lt
      have ck := Bk.cell
      have fk := Bk.free
      have lk_W3 := Bk.lt
      have kaW3 : Acc w W3 := by
        refine Acc.call ?_ hb
        (repeat' (first | (with_reducible first | assumption | exact Acc.refl _ | refine Acc.drew ?_ | refine Acc.drewN ?_ _ | refine Acc.alloc ?_ _ | refine Acc.setCell ?_ ?_ _) | (refine leB ?_; omega)))
      clear hb
      go_wp2_with fail
      refine bodyPost_ret (v := .tuple #[.agg #[.int .i64 0, .int .i64 0, .int .i64 0, .int .i64 0, .int .i64 0, .int .i64 0, .int .i64 0, .int .i64 0, .int .i64 0, .int .i64 0, .int .i64 0, .int .i64 0], .bool false]) (by simp [results, Tryd.results30, go_sem, *]) rfl ⟨fun _ _ _ _ _ _ _ _ _ _ _ _ h => (by cases h), fun _ => rfl, ?_⟩
      show Acc w _
      (repeat' (first | (with_reducible first | assumption | exact Acc.refl _ | refine Acc.drew ?_ | refine Acc.drewN ?_ _ | refine Acc.alloc ?_ _ | refine Acc.setCell ?_ ?_ _) | (refine leB ?_; omega)))
    | some v =>
      obtain ⟨⟨p1, p2, p3⟩, ⟨t1, t2, t3⟩, ⟨r1, r2, r3⟩, u1, u2, u3⟩ := v
      obtain rfl := h1 _ _ _ _ _ _ _ _ _ _ _ _ rfl
      clear h1 h2
      go_wp2_with fail
      refine (toldMatrix_ok p1 p2 p3 t1 t2 t3 r1 r2 r3 u1 u2 u3 _).mono ?_
      rintro e W3 ⟨rfl, hb⟩
      obtain ⟨Bz, Bk⟩ : Blk W3 (w.heap.size) [.int .i64 0, .int .i64 0, .int .i64 0, .int .i64 0, .int .i64 0, .int .i64 0, .int .i64 0, .int .i64 0, .int .i64 0, .int .i64 0, .int .i64 0, .int .i64 0] ∧ Blk W3 (w.heap.size + 1) [.int .i64 k] := by
        refine ⟨?_, ?_⟩ <;> refine Blk.keep hb ?_ <;> (repeat' (first | (with_reducible first | assumption | refine Blk.drew ?_ | refine Blk.drewN ?_ _ | apply Blk.set | (refine Blk.new ?_; focus (first | rfl | (simp; done))) | refine Blk.alloc ?_ _ | refine Blk.other ?_ ?_ _) | exact eqL rfl | (refine neB ?_; omega)))
      have cz := Bz.cell
      have fz := Bz.free
      have lz_W3 := Bz.lt
      have ck := Bk.cell
      have fk := Bk.free
      have lk_W3 := Bk.lt
      have kaW3 : Acc w W3 := by
        refine Acc.call ?_ hb
        (repeat' (first | (with_reducible first | assumption | exact Acc.refl _ | refine Acc.drew ?_ | refine Acc.drewN ?_ _ | refine Acc.alloc ?_ _ | refine Acc.setCell ?_ ?_ _) | (refine leB ?_; omega)))
      clear hb
      go_wp2_with fail
      refine bodyPost_ret (v := .tuple #[.agg #[.int .i64 p1, .int .i64 p2, .int .i64 p3, .int .i64 t1, .int .i64 t2, .int .i64 t3, .int .i64 r1, .int .i64 r2, .int .i64 r3, .int .i64 u1, .int .i64 u2, .int .i64 u3], .bool true]) (by simp [results, Tryd.results30, go_sem, *]) rfl ⟨fun _ _ _ _ _ _ _ _ _ _ _ _ h => (by cases h; rfl), fun h => (by cases h), ?_⟩
      show Acc w _
      (repeat' (first | (with_reducible first | assumption | exact Acc.refl _ | refine Acc.drew ?_ | refine Acc.drewN ?_ _ | refine Acc.alloc ?_ _ | refine Acc.setCell ?_ ?_ _) | (refine leB ?_; omega)))
end Go.Proofs.YtiibnncanpohjaaDoor
