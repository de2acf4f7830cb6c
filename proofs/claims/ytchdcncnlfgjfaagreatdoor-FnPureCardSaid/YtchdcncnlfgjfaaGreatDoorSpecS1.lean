/-
  The model: four numbers: valid, squares, light, pure light.
-/
import Derived.Test.YtchdcncnlfgjfaaGreatDoorStokesDef
import Derived.Test.YtchdcncnlfgjfaaGreatDoorBMem
import Derived.Test.YtchdcncnlfgjfaaGreatDoorBSpecV
namespace Go.Proofs.YtchdcncnlfgjfaaGreatDoor
open Go.ChangeShapes Go.WideShapes Go.ChangeAt Go.RowKit
set_option linter.unusedVariables false

theorem some_of {o : Option (Int × Int × Int)} {p q r : Int} (hp : partsR o = (p, q, r)) (hk : okR o = true) : o = some (p, q, r) := by
  cases o with
  | none => cases hk
  | some v => rw [← hp]; rfl
theorem none_of {o : Option (Int × Int × Int)} (hk : okR o = false) : o = none := by
  cases o with
  | none => rfl
  | some v => cases hk
set_option maxHeartbeats 8000000 in
theorem specSValid_any (a1 a2 a3 b1 b2 b3 c1 c2 c3 d1 d2 d3 : Int) (w : World) :
    Calls Tryz.prog 56 #[.agg #[.int .i64 a1, .int .i64 a2, .int .i64 a3, .int .i64 b1, .int .i64 b2, .int .i64 b3, .int .i64 c1, .int .i64 c2, .int .i64 c3, .int .i64 d1, .int .i64 d2, .int .i64 d3]] w fun e w' => e = .returned (.bool (sValid a1 a2 a3 b1 b2 b3 c1 c2 c3 d1 d2 d3)) ∧ Below w.heap.size w w' := by
  obtain ⟨k0, hk0⟩ : ∃ k, okF a1 a2 a3 = k := ⟨_, rfl⟩
  have K0 := Lib.hid hk0
  clear hk0
  obtain ⟨k1, hk1⟩ : ∃ k, okF b1 b2 b3 = k := ⟨_, rfl⟩
  have K1 := Lib.hid hk1
  clear hk1
  obtain ⟨k2, hk2⟩ : ∃ k, okF c1 c2 c3 = k := ⟨_, rfl⟩
  have K2 := Lib.hid hk2
  clear hk2
  obtain ⟨k3, hk3⟩ : ∃ k, okF d1 d2 d3 = k := ⟨_, rfl⟩
  have K3 := Lib.hid hk3
  clear hk3
  obtain ⟨o, E⟩ : ∃ o, sValid a1 a2 a3 b1 b2 b3 c1 c2 c3 d1 d2 d3 = o := ⟨_, rfl⟩
  rw [E]
  have HE := Lib.hid E
  clear E
  go_enter Tryz.func56, Tryz.ntmps56
  go_wp2_with fail
  refine wp_loop_rounds 5 ?_
  rw [rounds_succ]
  go_wp2_with fail
  refine (valid_at K0.out (specValid_any a1 a2 a3 _)).mono ?_
  rintro e W1 ⟨rfl, hb⟩
  have Ba : Blk W1 (w.heap.size) [.int .i64 a1, .int .i64 a2, .int .i64 a3, .int .i64 b1, .int .i64 b2, .int .i64 b3, .int .i64 c1, .int .i64 c2, .int .i64 c3, .int .i64 d1, .int .i64 d2, .int .i64 d3] := Blk.keep hb (by repeat' (first | (with_reducible first | assumption | refine Blk.drew ?_ | refine Blk.drewN ?_ _ | apply Blk.set | (refine Blk.new ?_; focus (first | rfl | (simp; done))) | refine Blk.alloc ?_ _ | refine Blk.other ?_ ?_ _) | exact eqL rfl | (refine neB ?_; omega)))
  have ca := Ba.cell
  have fa := Ba.free
  have la_W1 := Ba.lt
  have kaW1 : Acc w W1 := by
    refine Acc.call ?_ hb
    (repeat' (first | (with_reducible first | assumption | exact Acc.refl _ | refine Acc.drew ?_ | refine Acc.drewN ?_ _ | refine Acc.alloc ?_ _ | refine Acc.setCell ?_ ?_ _) | (refine leB ?_; omega)))
  clear hb
  cases k0 with
  | false =>
    obtain rfl : o = false := HE.out.symm.trans (by unfold sValid realB; simp [K0.out])
    go_wp2_with fail
    go_ret
    refine ⟨rfl, ?_⟩
    show Acc w _
    (repeat' (first | (with_reducible first | assumption | exact Acc.refl _ | refine Acc.drew ?_ | refine Acc.drewN ?_ _ | refine Acc.alloc ?_ _ | refine Acc.setCell ?_ ?_ _) | (refine leB ?_; omega)))
  | true =>
    by_cases hz : a2 = 0
    · subst hz
      go_wp2_with fail
      rw [rounds_succ]
      go_wp2_with fail
      refine (valid_at K1.out (specValid_any b1 b2 b3 _)).mono ?_
      rintro e W2 ⟨rfl, hb⟩
      have Ba : Blk W2 (w.heap.size) [.int .i64 a1, .int .i64 0, .int .i64 a3, .int .i64 b1, .int .i64 b2, .int .i64 b3, .int .i64 c1, .int .i64 c2, .int .i64 c3, .int .i64 d1, .int .i64 d2, .int .i64 d3] := Blk.keep hb (by repeat' (first | (with_reducible first | assumption | refine Blk.drew ?_ | refine Blk.drewN ?_ _ | apply Blk.set | (refine Blk.new ?_; focus (first | rfl | (simp; done))) | refine Blk.alloc ?_ _ | refine Blk.other ?_ ?_ _) | exact eqL rfl | (refine neB ?_; omega)))
      have ca := Ba.cell
      have fa := Ba.free
      have la_W2 := Ba.lt
      have kaW2 : Acc w W2 := by
        refine Acc.call ?_ hb
        (repeat' (first | (with_reducible first | assumption | exact Acc.refl _ | refine Acc.drew ?_ | refine Acc.drewN ?_ _ | refine Acc.alloc ?_ _ | refine Acc.setCell ?_ ?_ _) | (refine leB ?_; omega)))
      clear hb
      cases k1 with
      | false =>
        obtain rfl : o = false := HE.out.symm.trans (by unfold sValid realB; simp [K1.out])
        go_wp2_with fail
        go_ret
        refine ⟨rfl, ?_⟩
        show Acc w _
        (repeat' (first | (with_reducible first | assumption | exact Acc.refl _ | refine Acc.drew ?_ | refine Acc.drewN ?_ _ | refine Acc.alloc ?_ _ | refine Acc.setCell ?_ ?_ _) | (refine leB ?_; omega)))
      | true =>
        by_cases hz : b2 = 0
        · subst hz
          go_wp2_with fail
          rw [rounds_succ]
          go_wp2_with fail
          refine (valid_at K2.out (specValid_any c1 c2 c3 _)).mono ?_
          rintro e W3 ⟨rfl, hb⟩
          have Ba : Blk W3 (w.heap.size) [.int .i64 a1, .int .i64 0, .int .i64 a3, .int .i64 b1, .int .i64 0, .int .i64 b3, .int .i64 c1, .int .i64 c2, .int .i64 c3, .int .i64 d1, .int .i64 d2, .int .i64 d3] := Blk.keep hb (by repeat' (first | (with_reducible first | assumption | refine Blk.drew ?_ | refine Blk.drewN ?_ _ | apply Blk.set | (refine Blk.new ?_; focus (first | rfl | (simp; done))) | refine Blk.alloc ?_ _ | refine Blk.other ?_ ?_ _) | exact eqL rfl | (refine neB ?_; omega)))
          have ca := Ba.cell
          have fa := Ba.free
          have la_W3 := Ba.lt
          have kaW3 : Acc w W3 := by
            refine Acc.call ?_ hb
            (repeat' (first | (with_reducible first | assumption | exact Acc.refl _ | refine Acc.drew ?_ | refine Acc.drewN ?_ _ | refine Acc.alloc ?_ _ | refine Acc.setCell ?_ ?_ _) | (refine leB ?_; omega)))
          clear hb
          cases k2 with
          | false =>
            obtain rfl : o = false := HE.out.symm.trans (by unfold sValid realB; simp [K2.out])
            go_wp2_with fail
            go_ret
            refine ⟨rfl, ?_⟩
            show Acc w _
            (repeat' (first | (with_reducible first | assumption | exact Acc.refl _ | refine Acc.drew ?_ | refine Acc.drewN ?_ _ | refine Acc.alloc ?_ _ | refine Acc.setCell ?_ ?_ _) | (refine leB ?_; omega)))
          | true =>
            by_cases hz : c2 = 0
            · subst hz
              go_wp2_with fail
              rw [rounds_succ]
              go_wp2_with fail
              refine (valid_at K3.out (specValid_any d1 d2 d3 _)).mono ?_
              rintro e W4 ⟨rfl, hb⟩
              have Ba : Blk W4 (w.heap.size) [.int .i64 a1, .int .i64 0, .int .i64 a3, .int .i64 b1, .int .i64 0, .int .i64 b3, .int .i64 c1, .int .i64 0, .int .i64 c3, .int .i64 d1, .int .i64 d2, .int .i64 d3] := Blk.keep hb (by repeat' (first | (with_reducible first | assumption | refine Blk.drew ?_ | refine Blk.drewN ?_ _ | apply Blk.set | (refine Blk.new ?_; focus (first | rfl | (simp; done))) | refine Blk.alloc ?_ _ | refine Blk.other ?_ ?_ _) | exact eqL rfl | (refine neB ?_; omega)))
              have ca := Ba.cell
              have fa := Ba.free
              have la_W4 := Ba.lt
              have kaW4 : Acc w W4 := by
                refine Acc.call ?_ hb
                (repeat' (first | (with_reducible first | assumption | exact Acc.refl _ | refine Acc.drew ?_ | refine Acc.drewN ?_ _ | refine Acc.alloc ?_ _ | refine Acc.setCell ?_ ?_ _) | (refine leB ?_; omega)))
              clear hb
              cases k3 with
              | false =>
                obtain rfl : o = false := HE.out.symm.trans (by unfold sValid realB; simp [K3.out])
                go_wp2_with fail
                go_ret
                refine ⟨rfl, ?_⟩
                show Acc w _
                (repeat' (first | (with_reducible first | assumption | exact Acc.refl _ | refine Acc.drew ?_ | refine Acc.drewN ?_ _ | refine Acc.alloc ?_ _ | refine Acc.setCell ?_ ?_ _) | (refine leB ?_; omega)))
              | true =>
                by_cases hz : d2 = 0
                · subst hz
                  go_wp2_with fail
                  rw [rounds_succ]
                  go_wp2_with fail
                  obtain rfl : o = true := HE.out.symm.trans (by unfold sValid realB; simp [K0.out, K1.out, K2.out, K3.out])
                  go_ret
                  refine ⟨rfl, ?_⟩
                  show Acc w _
                  (repeat' (first | (with_reducible first | assumption | exact Acc.refl _ | refine Acc.drew ?_ | refine Acc.drewN ?_ _ | refine Acc.alloc ?_ _ | refine Acc.setCell ?_ ?_ _) | (refine leB ?_; omega)))
                · skip
                  obtain rfl : o = false := HE.out.symm.trans (by unfold sValid realB; simp [hz])
                  go_wp2_with fail
                  go_ret
                  refine ⟨rfl, ?_⟩
                  show Acc w _
                  (repeat' (first | (with_reducible first | assumption | exact Acc.refl _ | refine Acc.drew ?_ | refine Acc.drewN ?_ _ | refine Acc.alloc ?_ _ | refine Acc.setCell ?_ ?_ _) | (refine leB ?_; omega)))
            · skip
              obtain rfl : o = false := HE.out.symm.trans (by unfold sValid realB; simp [hz])
              go_wp2_with fail
              go_ret
              refine ⟨rfl, ?_⟩
              show Acc w _
              (repeat' (first | (with_reducible first | assumption | exact Acc.refl _ | refine Acc.drew ?_ | refine Acc.drewN ?_ _ | refine Acc.alloc ?_ _ | refine Acc.setCell ?_ ?_ _) | (refine leB ?_; omega)))
        · skip
          obtain rfl : o = false := HE.out.symm.trans (by unfold sValid realB; simp [hz])
          go_wp2_with fail
          go_ret
          refine ⟨rfl, ?_⟩
          show Acc w _
          (repeat' (first | (with_reducible first | assumption | exact Acc.refl _ | refine Acc.drew ?_ | refine Acc.drewN ?_ _ | refine Acc.alloc ?_ _ | refine Acc.setCell ?_ ?_ _) | (refine leB ?_; omega)))
    · skip
      obtain rfl : o = false := HE.out.symm.trans (by unfold sValid realB; simp [hz])
      go_wp2_with fail
      go_ret
      refine ⟨rfl, ?_⟩
      show Acc w _
      (repeat' (first | (with_reducible first | assumption | exact Acc.refl _ | refine Acc.drew ?_ | refine Acc.drewN ?_ _ | refine Acc.alloc ?_ _ | refine Acc.setCell ?_ ?_ _) | (refine leB ?_; omega)))
set_option maxHeartbeats 8000000 in
theorem specSquares_any (a1 a2 a3 b1 b2 b3 c1 c2 c3 d1 d2 d3 : Int) (w : World) : Calls Tryz.prog 32 #[.agg #[.int .i64 a1, .int .i64 a2, .int .i64 a3, .int .i64 b1, .int .i64 b2, .int .i64 b3, .int .i64 c1, .int .i64 c2, .int .i64 c3, .int .i64 d1, .int .i64 d2, .int .i64 d3]] w (Gave (squaresF a1 a2 a3 b1 b2 b3 c1 c2 c3 d1 d2 d3) w) := by
  obtain ⟨v, hv⟩ : ∃ k, sValid a1 a2 a3 b1 b2 b3 c1 c2 c3 d1 d2 d3 = k := ⟨_, rfl⟩
  have HV := Lib.hid hv
  clear hv
  obtain ⟨⟨m1, m2, m3⟩, hv⟩ : ∃ o, partsR (timesF b1 b2 b3 b1 b2 b3) = o := ⟨_, rfl⟩
  obtain ⟨km, hk⟩ : ∃ k, okR (timesF b1 b2 b3 b1 b2 b3) = k := ⟨_, rfl⟩
  have Cm := Lib.hid hv
  have Dm := Lib.hid hk
  clear hv hk
  obtain ⟨⟨g1, g2, g3⟩, hv⟩ : ∃ o, partsR (addF 0 0 1 m1 m2 m3) = o := ⟨_, rfl⟩
  obtain ⟨kg, hk⟩ : ∃ k, okR (addF 0 0 1 m1 m2 m3) = k := ⟨_, rfl⟩
  have Cg := Lib.hid hv
  have Dg := Lib.hid hk
  clear hv hk
  obtain ⟨⟨n1, n2, n3⟩, hv⟩ : ∃ o, partsR (timesF c1 c2 c3 c1 c2 c3) = o := ⟨_, rfl⟩
  obtain ⟨kn, hk⟩ : ∃ k, okR (timesF c1 c2 c3 c1 c2 c3) = k := ⟨_, rfl⟩
  have Cn := Lib.hid hv
  have Dn := Lib.hid hk
  clear hv hk
  obtain ⟨⟨p1, p2, p3⟩, hv⟩ : ∃ o, partsR (addF g1 g2 g3 n1 n2 n3) = o := ⟨_, rfl⟩
  obtain ⟨kp, hk⟩ : ∃ k, okR (addF g1 g2 g3 n1 n2 n3) = k := ⟨_, rfl⟩
  have Cp := Lib.hid hv
  have Dp := Lib.hid hk
  clear hv hk
  obtain ⟨⟨u1, u2, u3⟩, hv⟩ : ∃ o, partsR (timesF d1 d2 d3 d1 d2 d3) = o := ⟨_, rfl⟩
  obtain ⟨ku, hk⟩ : ∃ k, okR (timesF d1 d2 d3 d1 d2 d3) = k := ⟨_, rfl⟩
  have Cu := Lib.hid hv
  have Du := Lib.hid hk
  clear hv hk
  obtain ⟨⟨r1, r2, r3⟩, hv⟩ : ∃ o, partsR (addF p1 p2 p3 u1 u2 u3) = o := ⟨_, rfl⟩
  obtain ⟨kr, hk⟩ : ∃ k, okR (addF p1 p2 p3 u1 u2 u3) = k := ⟨_, rfl⟩
  have Cr := Lib.hid hv
  have Dr := Lib.hid hk
  clear hv hk
  obtain ⟨o, E⟩ : ∃ o, squaresF a1 a2 a3 b1 b2 b3 c1 c2 c3 d1 d2 d3 = o := ⟨_, rfl⟩
  rw [E]
  have HE := Lib.hid E
  clear E
  go_enter Tryz.func32, Tryz.ntmps32
  go_wp2_with fail
  refine (valid_at HV.out (specSValid_any a1 a2 a3 b1 b2 b3 c1 c2 c3 d1 d2 d3 _)).mono ?_
  rintro e W1 ⟨rfl, hb⟩
  obtain ⟨Ba, Bres, Bs⟩ : Blk W1 (w.heap.size) [.int .i64 a1, .int .i64 a2, .int .i64 a3, .int .i64 b1, .int .i64 b2, .int .i64 b3, .int .i64 c1, .int .i64 c2, .int .i64 c3, .int .i64 d1, .int .i64 d2, .int .i64 d3] ∧ Blk W1 (w.heap.size + 1) [.int .i64 0, .int .i64 0, .int .i64 0] ∧ Blk W1 (w.heap.size + 1 + 1) [.int .i64 0, .int .i64 0, .int .i64 1] := by
    refine ⟨?_, ?_, ?_⟩ <;> refine Blk.keep hb ?_ <;> (repeat' (first | (with_reducible first | assumption | refine Blk.drew ?_ | refine Blk.drewN ?_ _ | apply Blk.set | (refine Blk.new ?_; focus (first | rfl | (simp; done))) | refine Blk.alloc ?_ _ | refine Blk.other ?_ ?_ _) | exact eqL rfl | (refine neB ?_; omega)))
  have ca := Ba.cell
  have fa := Ba.free
  have la_W1 := Ba.lt
  have cres := Bres.cell
  have fres := Bres.free
  have lres_W1 := Bres.lt
  have cs := Bs.cell
  have fs := Bs.free
  have ls_W1 := Bs.lt
  have kaW1 : Acc w W1 := by
    refine Acc.call ?_ hb
    (repeat' (first | (with_reducible first | assumption | exact Acc.refl _ | refine Acc.drew ?_ | refine Acc.drewN ?_ _ | refine Acc.alloc ?_ _ | refine Acc.setCell ?_ ?_ _) | (refine leB ?_; omega)))
  clear hb
  cases v with
  | false =>
    obtain rfl : o = none := HE.out.symm.trans (by simp only [squaresF, HV.out, if_false, Bool.false_eq_true])
    go_wp2_with fail
    refine bodyPost_ret (v := .tuple #[.agg #[.int .i64 0, .int .i64 0, .int .i64 0], .bool false]) (by simp [results, Tryz.results32, go_sem, *]) rfl ⟨rfl, ?_⟩
    show Acc w _
    (repeat' (first | (with_reducible first | assumption | exact Acc.refl _ | refine Acc.drew ?_ | refine Acc.drewN ?_ _ | refine Acc.alloc ?_ _ | refine Acc.setCell ?_ ?_ _) | (refine leB ?_; omega)))
  | true =>
    go_wp2_with fail
    refine wp_loop_rounds 4 ?_
    rw [rounds_succ]
    go_wp2_with fail
    go_cut [6, 7] (fun s6 s7 wx => ∃ p : Nat, s6 = .pointer (some ⟨p, 0, none⟩) ∧ s7 = .bool km ∧ Blk wx (p) [.int .i64 m1, .int .i64 m2, .int .i64 m3] ∧ Blk wx (w.heap.size) [.int .i64 a1, .int .i64 a2, .int .i64 a3, .int .i64 b1, .int .i64 b2, .int .i64 b3, .int .i64 c1, .int .i64 c2, .int .i64 c3, .int .i64 d1, .int .i64 d2, .int .i64 d3] ∧ Blk wx (w.heap.size + 1) [.int .i64 0, .int .i64 0, .int .i64 0] ∧ Blk wx (w.heap.size + 1 + 1) [.int .i64 0, .int .i64 0, .int .i64 1] ∧ Acc w wx)
    case first =>
      go_region_held3 (fun w' => (∀ k, w'.cell? ⟨w.heap.size, k, none⟩ = [.int .i64 a1, .int .i64 a2, .int .i64 a3, .int .i64 b1, .int .i64 b2, .int .i64 b3, .int .i64 c1, .int .i64 c2, .int .i64 c3, .int .i64 d1, .int .i64 d2, .int .i64 d3][k]?))
        (((try dsimp only); (refine Blk.cell ?_ <;> (repeat' (first | (with_reducible first | assumption | refine Blk.drew ?_ | refine Blk.drewN ?_ _ | apply Blk.set | (refine Blk.new ?_; focus (first | rfl | (simp; done))) | refine Blk.alloc ?_ _ | refine Blk.other ?_ ?_ _) | exact eqL rfl | (refine neB ?_; omega))))))
        (first
          | (go_at_call 33; refine (gave_any Cm.out Dm.out (specTimes_any b1 b2 b3 b1 b2 b3 _)).mono ?_; rintro e W9 ⟨rfl, hb⟩; (try (refine with_fact (A := Blk W9 (W1.heap.size) [.int .i64 0, .int .i64 0, .int .i64 0]) ?_ ?_; (focus (refine Blk.keep hb ?_; (repeat' (first | (with_reducible first | assumption | refine Blk.drew ?_ | refine Blk.drewN ?_ _ | apply Blk.set | (refine Blk.new ?_; focus (first | rfl | (simp; done))) | refine Blk.alloc ?_ _ | refine Blk.other ?_ ?_ _) | exact eqL rfl | (refine neB ?_; omega))); done)); intro Bz0; have cz0 := Bz0.cell; have fz0 := Bz0.free; have lz0 := Bz0.lt)); (try (refine with_fact (A := Blk W9 (W1.heap.size + 1) [.int .i64 0, .int .i64 0, .int .i64 0]) ?_ ?_; (focus (refine Blk.keep hb ?_; (repeat' (first | (with_reducible first | assumption | refine Blk.drew ?_ | refine Blk.drewN ?_ _ | apply Blk.set | (refine Blk.new ?_; focus (first | rfl | (simp; done))) | refine Blk.alloc ?_ _ | refine Blk.other ?_ ?_ _) | exact eqL rfl | (refine neB ?_; omega))); done)); intro Bz1; have cz1 := Bz1.cell; have fz1 := Bz1.free; have lz1 := Bz1.lt)); have Ba : Blk W9 (w.heap.size) [.int .i64 a1, .int .i64 a2, .int .i64 a3, .int .i64 b1, .int .i64 b2, .int .i64 b3, .int .i64 c1, .int .i64 c2, .int .i64 c3, .int .i64 d1, .int .i64 d2, .int .i64 d3] := Blk.keep hb (by repeat' (first | (with_reducible first | assumption | refine Blk.drew ?_ | refine Blk.drewN ?_ _ | apply Blk.set | (refine Blk.new ?_; focus (first | rfl | (simp; done))) | refine Blk.alloc ?_ _ | refine Blk.other ?_ ?_ _) | exact eqL rfl | (refine neB ?_; omega))); have Bres : Blk W9 (w.heap.size + 1) [.int .i64 0, .int .i64 0, .int .i64 0] := Blk.keep hb (by repeat' (first | (with_reducible first | assumption | refine Blk.drew ?_ | refine Blk.drewN ?_ _ | apply Blk.set | (refine Blk.new ?_; focus (first | rfl | (simp; done))) | refine Blk.alloc ?_ _ | refine Blk.other ?_ ?_ _) | exact eqL rfl | (refine neB ?_; omega))); have Bs : Blk W9 (w.heap.size + 1 + 1) [.int .i64 0, .int .i64 0, .int .i64 1] := Blk.keep hb (by repeat' (first | (with_reducible first | assumption | refine Blk.drew ?_ | refine Blk.drewN ?_ _ | apply Blk.set | (refine Blk.new ?_; focus (first | rfl | (simp; done))) | refine Blk.alloc ?_ _ | refine Blk.other ?_ ?_ _) | exact eqL rfl | (refine neB ?_; omega))); have ca := Ba.cell; have fa := Ba.free; have la_W9 := Ba.lt; have cres := Bres.cell; have fres := Bres.free; have lres_W9 := Bres.lt; have cs := Bs.cell; have fs := Bs.free; have ls_W9 := Bs.lt; have kaW9 : Acc w W9 := (by refine Acc.call ?_ hb; (repeat' (first | (with_reducible first | assumption | exact Acc.refl _ | refine Acc.drew ?_ | refine Acc.drewN ?_ _ | refine Acc.alloc ?_ _ | refine Acc.setCell ?_ ?_ _) | (refine leB ?_; omega)))); clear hb))
      all_goals
        go_wp2_with fail
        go_meet
        refine ⟨_, rfl, rfl, ?_⟩
        and_intros
        all_goals
          first
            | ((repeat' (first | (with_reducible first | assumption | refine Blk.drew ?_ | refine Blk.drewN ?_ _ | apply Blk.set | (refine Blk.new ?_; focus (first | rfl | (simp; done))) | refine Blk.alloc ?_ _ | refine Blk.other ?_ ?_ _) | exact eqL rfl | (refine neB ?_; omega))); done)
            | ((show Acc w _); (repeat' (first | (with_reducible first | assumption | exact Acc.refl _ | refine Acc.drew ?_ | refine Acc.drewN ?_ _ | refine Acc.alloc ?_ _ | refine Acc.setCell ?_ ?_ _) | (refine leB ?_; omega))); done)
    case rest =>
      obtain ⟨px1x, rfl, rfl, Bx, Ba, Bres, Bs, kawc⟩ := hcut
      have ca := Ba.cell
      have fa := Ba.free
      have la_wc := Ba.lt
      have cres := Bres.cell
      have fres := Bres.free
      have lres_wc := Bres.lt
      have cs := Bs.cell
      have fs := Bs.free
      have ls_wc := Bs.lt
      have cx := Bx.cell
      have fx := Bx.free
      have lx_wc := Bx.lt
      go_wp2_with fail
      refine (gave_any Cg.out Dg.out (specAdd_any 0 0 1 m1 m2 m3 _)).mono ?_
      rintro e W2 ⟨rfl, hb⟩
      obtain ⟨Ba, Bres, Bs, Bx⟩ : Blk W2 (w.heap.size) [.int .i64 a1, .int .i64 a2, .int .i64 a3, .int .i64 b1, .int .i64 b2, .int .i64 b3, .int .i64 c1, .int .i64 c2, .int .i64 c3, .int .i64 d1, .int .i64 d2, .int .i64 d3] ∧ Blk W2 (w.heap.size + 1) [.int .i64 0, .int .i64 0, .int .i64 0] ∧ Blk W2 (w.heap.size + 1 + 1) [.int .i64 0, .int .i64 0, .int .i64 1] ∧ Blk W2 (px1x) [.int .i64 m1, .int .i64 m2, .int .i64 m3] := by
        refine ⟨?_, ?_, ?_, ?_⟩ <;> refine Blk.keep hb ?_ <;> (repeat' (first | (with_reducible first | assumption | refine Blk.drew ?_ | refine Blk.drewN ?_ _ | apply Blk.set | (refine Blk.new ?_; focus (first | rfl | (simp; done))) | refine Blk.alloc ?_ _ | refine Blk.other ?_ ?_ _) | exact eqL rfl | (refine neB ?_; omega)))
      have ca := Ba.cell
      have fa := Ba.free
      have la_W2 := Ba.lt
      have cres := Bres.cell
      have fres := Bres.free
      have lres_W2 := Bres.lt
      have cs := Bs.cell
      have fs := Bs.free
      have ls_W2 := Bs.lt
      have cx := Bx.cell
      have fx := Bx.free
      have lx_W2 := Bx.lt
      have kaW2 : Acc w W2 := by
        refine Acc.call ?_ hb
        (repeat' (first | (with_reducible first | assumption | exact Acc.refl _ | refine Acc.drew ?_ | refine Acc.drewN ?_ _ | refine Acc.alloc ?_ _ | refine Acc.setCell ?_ ?_ _) | (refine leB ?_; omega)))
      clear hb
      cases km with
      | false =>
        obtain rfl : o = none := HE.out.symm.trans (by simp only [squaresF, HV.out, if_true, sumO, Option.bind_some, Option.bind_none, none_of Dm.out])
        go_wp2_with fail
        refine bodyPost_ret (v := .tuple #[.agg #[.int .i64 0, .int .i64 0, .int .i64 0], .bool false]) (by simp [results, Tryz.results32, go_sem, *]) rfl ⟨rfl, ?_⟩
        show Acc w _
        (repeat' (first | (with_reducible first | assumption | exact Acc.refl _ | refine Acc.drew ?_ | refine Acc.drewN ?_ _ | refine Acc.alloc ?_ _ | refine Acc.setCell ?_ ?_ _) | (refine leB ?_; omega)))
      | true =>
        cases kg with
        | false =>
          obtain rfl : o = none := HE.out.symm.trans (by simp only [squaresF, HV.out, if_true, sumO, Option.bind_some, Option.bind_none, some_of Cm.out Dm.out, none_of Dg.out])
          go_wp2_with fail
          refine bodyPost_ret (v := .tuple #[.agg #[.int .i64 0, .int .i64 0, .int .i64 0], .bool false]) (by simp [results, Tryz.results32, go_sem, *]) rfl ⟨rfl, ?_⟩
          show Acc w _
          (repeat' (first | (with_reducible first | assumption | exact Acc.refl _ | refine Acc.drew ?_ | refine Acc.drewN ?_ _ | refine Acc.alloc ?_ _ | refine Acc.setCell ?_ ?_ _) | (refine leB ?_; omega)))
        | true =>
          go_wp2_with fail
          rw [rounds_succ]
          go_wp2_with fail
          go_cut [6, 7] (fun s6 s7 wx => ∃ p : Nat, s6 = .pointer (some ⟨p, 0, none⟩) ∧ s7 = .bool kn ∧ Blk wx (p) [.int .i64 n1, .int .i64 n2, .int .i64 n3] ∧ Blk wx (w.heap.size) [.int .i64 a1, .int .i64 a2, .int .i64 a3, .int .i64 b1, .int .i64 b2, .int .i64 b3, .int .i64 c1, .int .i64 c2, .int .i64 c3, .int .i64 d1, .int .i64 d2, .int .i64 d3] ∧ Blk wx (w.heap.size + 1) [.int .i64 0, .int .i64 0, .int .i64 0] ∧ Blk wx (w.heap.size + 1 + 1) [.int .i64 g1, .int .i64 g2, .int .i64 g3] ∧ Acc w wx)
          case first =>
            go_region_held3 (fun w' => (∀ k, w'.cell? ⟨w.heap.size, k, none⟩ = [.int .i64 a1, .int .i64 a2, .int .i64 a3, .int .i64 b1, .int .i64 b2, .int .i64 b3, .int .i64 c1, .int .i64 c2, .int .i64 c3, .int .i64 d1, .int .i64 d2, .int .i64 d3][k]?))
              (((try dsimp only); (refine Blk.cell ?_ <;> (repeat' (first | (with_reducible first | assumption | refine Blk.drew ?_ | refine Blk.drewN ?_ _ | apply Blk.set | (refine Blk.new ?_; focus (first | rfl | (simp; done))) | refine Blk.alloc ?_ _ | refine Blk.other ?_ ?_ _) | exact eqL rfl | (refine neB ?_; omega))))))
              (first
                | (go_at_call 33; refine (gave_any Cn.out Dn.out (specTimes_any c1 c2 c3 c1 c2 c3 _)).mono ?_; rintro e W9 ⟨rfl, hb⟩; (try (refine with_fact (A := Blk W9 (W2.heap.size) [.int .i64 0, .int .i64 0, .int .i64 0]) ?_ ?_; (focus (refine Blk.keep hb ?_; (repeat' (first | (with_reducible first | assumption | refine Blk.drew ?_ | refine Blk.drewN ?_ _ | apply Blk.set | (refine Blk.new ?_; focus (first | rfl | (simp; done))) | refine Blk.alloc ?_ _ | refine Blk.other ?_ ?_ _) | exact eqL rfl | (refine neB ?_; omega))); done)); intro Bz0; have cz0 := Bz0.cell; have fz0 := Bz0.free; have lz0 := Bz0.lt)); (try (refine with_fact (A := Blk W9 (W2.heap.size + 1) [.int .i64 0, .int .i64 0, .int .i64 0]) ?_ ?_; (focus (refine Blk.keep hb ?_; (repeat' (first | (with_reducible first | assumption | refine Blk.drew ?_ | refine Blk.drewN ?_ _ | apply Blk.set | (refine Blk.new ?_; focus (first | rfl | (simp; done))) | refine Blk.alloc ?_ _ | refine Blk.other ?_ ?_ _) | exact eqL rfl | (refine neB ?_; omega))); done)); intro Bz1; have cz1 := Bz1.cell; have fz1 := Bz1.free; have lz1 := Bz1.lt)); have Ba : Blk W9 (w.heap.size) [.int .i64 a1, .int .i64 a2, .int .i64 a3, .int .i64 b1, .int .i64 b2, .int .i64 b3, .int .i64 c1, .int .i64 c2, .int .i64 c3, .int .i64 d1, .int .i64 d2, .int .i64 d3] := Blk.keep hb (by repeat' (first | (with_reducible first | assumption | refine Blk.drew ?_ | refine Blk.drewN ?_ _ | apply Blk.set | (refine Blk.new ?_; focus (first | rfl | (simp; done))) | refine Blk.alloc ?_ _ | refine Blk.other ?_ ?_ _) | exact eqL rfl | (refine neB ?_; omega))); have Bres : Blk W9 (w.heap.size + 1) [.int .i64 0, .int .i64 0, .int .i64 0] := Blk.keep hb (by repeat' (first | (with_reducible first | assumption | refine Blk.drew ?_ | refine Blk.drewN ?_ _ | apply Blk.set | (refine Blk.new ?_; focus (first | rfl | (simp; done))) | refine Blk.alloc ?_ _ | refine Blk.other ?_ ?_ _) | exact eqL rfl | (refine neB ?_; omega))); have Bs : Blk W9 (w.heap.size + 1 + 1) [.int .i64 g1, .int .i64 g2, .int .i64 g3] := Blk.keep hb (by repeat' (first | (with_reducible first | assumption | refine Blk.drew ?_ | refine Blk.drewN ?_ _ | apply Blk.set | (refine Blk.new ?_; focus (first | rfl | (simp; done))) | refine Blk.alloc ?_ _ | refine Blk.other ?_ ?_ _) | exact eqL rfl | (refine neB ?_; omega))); have ca := Ba.cell; have fa := Ba.free; have la_W9 := Ba.lt; have cres := Bres.cell; have fres := Bres.free; have lres_W9 := Bres.lt; have cs := Bs.cell; have fs := Bs.free; have ls_W9 := Bs.lt; have kaW9 : Acc w W9 := (by refine Acc.call ?_ hb; (repeat' (first | (with_reducible first | assumption | exact Acc.refl _ | refine Acc.drew ?_ | refine Acc.drewN ?_ _ | refine Acc.alloc ?_ _ | refine Acc.setCell ?_ ?_ _) | (refine leB ?_; omega)))); clear hb))
            all_goals
              go_wp2_with fail
              go_meet
              refine ⟨_, rfl, rfl, ?_⟩
              and_intros
              all_goals
                first
                  | ((repeat' (first | (with_reducible first | assumption | refine Blk.drew ?_ | refine Blk.drewN ?_ _ | apply Blk.set | (refine Blk.new ?_; focus (first | rfl | (simp; done))) | refine Blk.alloc ?_ _ | refine Blk.other ?_ ?_ _) | exact eqL rfl | (refine neB ?_; omega))); done)
                  | ((show Acc w _); (repeat' (first | (with_reducible first | assumption | exact Acc.refl _ | refine Acc.drew ?_ | refine Acc.drewN ?_ _ | refine Acc.alloc ?_ _ | refine Acc.setCell ?_ ?_ _) | (refine leB ?_; omega))); done)
          case rest =>
            obtain ⟨px1x, rfl, rfl, Bx, Ba, Bres, Bs, kawc⟩ := hcut
            have ca := Ba.cell
            have fa := Ba.free
            have la_wc := Ba.lt
            have cres := Bres.cell
            have fres := Bres.free
            have lres_wc := Bres.lt
            have cs := Bs.cell
            have fs := Bs.free
            have ls_wc := Bs.lt
            have cx := Bx.cell
            have fx := Bx.free
            have lx_wc := Bx.lt
            go_wp2_with fail
            refine (gave_any Cp.out Dp.out (specAdd_any g1 g2 g3 n1 n2 n3 _)).mono ?_
            rintro e W3 ⟨rfl, hb⟩
            obtain ⟨Ba, Bres, Bs, Bx⟩ : Blk W3 (w.heap.size) [.int .i64 a1, .int .i64 a2, .int .i64 a3, .int .i64 b1, .int .i64 b2, .int .i64 b3, .int .i64 c1, .int .i64 c2, .int .i64 c3, .int .i64 d1, .int .i64 d2, .int .i64 d3] ∧ Blk W3 (w.heap.size + 1) [.int .i64 0, .int .i64 0, .int .i64 0] ∧ Blk W3 (w.heap.size + 1 + 1) [.int .i64 g1, .int .i64 g2, .int .i64 g3] ∧ Blk W3 (px1x) [.int .i64 n1, .int .i64 n2, .int .i64 n3] := by
              refine ⟨?_, ?_, ?_, ?_⟩ <;> refine Blk.keep hb ?_ <;> (repeat' (first | (with_reducible first | assumption | refine Blk.drew ?_ | refine Blk.drewN ?_ _ | apply Blk.set | (refine Blk.new ?_; focus (first | rfl | (simp; done))) | refine Blk.alloc ?_ _ | refine Blk.other ?_ ?_ _) | exact eqL rfl | (refine neB ?_; omega)))
            have ca := Ba.cell
            have fa := Ba.free
            have la_W3 := Ba.lt
            have cres := Bres.cell
            have fres := Bres.free
            have lres_W3 := Bres.lt
            have cs := Bs.cell
            have fs := Bs.free
            have ls_W3 := Bs.lt
            have cx := Bx.cell
            have fx := Bx.free
            have lx_W3 := Bx.lt
            have kaW3 : Acc w W3 := by
              refine Acc.call ?_ hb
              (repeat' (first | (with_reducible first | assumption | exact Acc.refl _ | refine Acc.drew ?_ | refine Acc.drewN ?_ _ | refine Acc.alloc ?_ _ | refine Acc.setCell ?_ ?_ _) | (refine leB ?_; omega)))
            clear hb
            cases kn with
            | false =>
              obtain rfl : o = none := HE.out.symm.trans (by simp only [squaresF, HV.out, if_true, sumO, Option.bind_some, Option.bind_none, some_of Cm.out Dm.out, some_of Cg.out Dg.out, none_of Dn.out])
              go_wp2_with fail
              refine bodyPost_ret (v := .tuple #[.agg #[.int .i64 0, .int .i64 0, .int .i64 0], .bool false]) (by simp [results, Tryz.results32, go_sem, *]) rfl ⟨rfl, ?_⟩
              show Acc w _
              (repeat' (first | (with_reducible first | assumption | exact Acc.refl _ | refine Acc.drew ?_ | refine Acc.drewN ?_ _ | refine Acc.alloc ?_ _ | refine Acc.setCell ?_ ?_ _) | (refine leB ?_; omega)))
            | true =>
              cases kp with
              | false =>
                obtain rfl : o = none := HE.out.symm.trans (by simp only [squaresF, HV.out, if_true, sumO, Option.bind_some, Option.bind_none, some_of Cm.out Dm.out, some_of Cg.out Dg.out, some_of Cn.out Dn.out, none_of Dp.out])
                go_wp2_with fail
                refine bodyPost_ret (v := .tuple #[.agg #[.int .i64 0, .int .i64 0, .int .i64 0], .bool false]) (by simp [results, Tryz.results32, go_sem, *]) rfl ⟨rfl, ?_⟩
                show Acc w _
                (repeat' (first | (with_reducible first | assumption | exact Acc.refl _ | refine Acc.drew ?_ | refine Acc.drewN ?_ _ | refine Acc.alloc ?_ _ | refine Acc.setCell ?_ ?_ _) | (refine leB ?_; omega)))
              | true =>
                go_wp2_with fail
                rw [rounds_succ]
                go_wp2_with fail
                go_cut [6, 7] (fun s6 s7 wx => ∃ p : Nat, s6 = .pointer (some ⟨p, 0, none⟩) ∧ s7 = .bool ku ∧ Blk wx (p) [.int .i64 u1, .int .i64 u2, .int .i64 u3] ∧ Blk wx (w.heap.size) [.int .i64 a1, .int .i64 a2, .int .i64 a3, .int .i64 b1, .int .i64 b2, .int .i64 b3, .int .i64 c1, .int .i64 c2, .int .i64 c3, .int .i64 d1, .int .i64 d2, .int .i64 d3] ∧ Blk wx (w.heap.size + 1) [.int .i64 0, .int .i64 0, .int .i64 0] ∧ Blk wx (w.heap.size + 1 + 1) [.int .i64 p1, .int .i64 p2, .int .i64 p3] ∧ Acc w wx)
                case first =>
                  go_region_held3 (fun w' => (∀ k, w'.cell? ⟨w.heap.size, k, none⟩ = [.int .i64 a1, .int .i64 a2, .int .i64 a3, .int .i64 b1, .int .i64 b2, .int .i64 b3, .int .i64 c1, .int .i64 c2, .int .i64 c3, .int .i64 d1, .int .i64 d2, .int .i64 d3][k]?))
                    (((try dsimp only); (refine Blk.cell ?_ <;> (repeat' (first | (with_reducible first | assumption | refine Blk.drew ?_ | refine Blk.drewN ?_ _ | apply Blk.set | (refine Blk.new ?_; focus (first | rfl | (simp; done))) | refine Blk.alloc ?_ _ | refine Blk.other ?_ ?_ _) | exact eqL rfl | (refine neB ?_; omega))))))
                    (first
                      | (go_at_call 33; refine (gave_any Cu.out Du.out (specTimes_any d1 d2 d3 d1 d2 d3 _)).mono ?_; rintro e W9 ⟨rfl, hb⟩; (try (refine with_fact (A := Blk W9 (W3.heap.size) [.int .i64 0, .int .i64 0, .int .i64 0]) ?_ ?_; (focus (refine Blk.keep hb ?_; (repeat' (first | (with_reducible first | assumption | refine Blk.drew ?_ | refine Blk.drewN ?_ _ | apply Blk.set | (refine Blk.new ?_; focus (first | rfl | (simp; done))) | refine Blk.alloc ?_ _ | refine Blk.other ?_ ?_ _) | exact eqL rfl | (refine neB ?_; omega))); done)); intro Bz0; have cz0 := Bz0.cell; have fz0 := Bz0.free; have lz0 := Bz0.lt)); (try (refine with_fact (A := Blk W9 (W3.heap.size + 1) [.int .i64 0, .int .i64 0, .int .i64 0]) ?_ ?_; (focus (refine Blk.keep hb ?_; (repeat' (first | (with_reducible first | assumption | refine Blk.drew ?_ | refine Blk.drewN ?_ _ | apply Blk.set | (refine Blk.new ?_; focus (first | rfl | (simp; done))) | refine Blk.alloc ?_ _ | refine Blk.other ?_ ?_ _) | exact eqL rfl | (refine neB ?_; omega))); done)); intro Bz1; have cz1 := Bz1.cell; have fz1 := Bz1.free; have lz1 := Bz1.lt)); have Ba : Blk W9 (w.heap.size) [.int .i64 a1, .int .i64 a2, .int .i64 a3, .int .i64 b1, .int .i64 b2, .int .i64 b3, .int .i64 c1, .int .i64 c2, .int .i64 c3, .int .i64 d1, .int .i64 d2, .int .i64 d3] := Blk.keep hb (by repeat' (first | (with_reducible first | assumption | refine Blk.drew ?_ | refine Blk.drewN ?_ _ | apply Blk.set | (refine Blk.new ?_; focus (first | rfl | (simp; done))) | refine Blk.alloc ?_ _ | refine Blk.other ?_ ?_ _) | exact eqL rfl | (refine neB ?_; omega))); have Bres : Blk W9 (w.heap.size + 1) [.int .i64 0, .int .i64 0, .int .i64 0] := Blk.keep hb (by repeat' (first | (with_reducible first | assumption | refine Blk.drew ?_ | refine Blk.drewN ?_ _ | apply Blk.set | (refine Blk.new ?_; focus (first | rfl | (simp; done))) | refine Blk.alloc ?_ _ | refine Blk.other ?_ ?_ _) | exact eqL rfl | (refine neB ?_; omega))); have Bs : Blk W9 (w.heap.size + 1 + 1) [.int .i64 p1, .int .i64 p2, .int .i64 p3] := Blk.keep hb (by repeat' (first | (with_reducible first | assumption | refine Blk.drew ?_ | refine Blk.drewN ?_ _ | apply Blk.set | (refine Blk.new ?_; focus (first | rfl | (simp; done))) | refine Blk.alloc ?_ _ | refine Blk.other ?_ ?_ _) | exact eqL rfl | (refine neB ?_; omega))); have ca := Ba.cell; have fa := Ba.free; have la_W9 := Ba.lt; have cres := Bres.cell; have fres := Bres.free; have lres_W9 := Bres.lt; have cs := Bs.cell; have fs := Bs.free; have ls_W9 := Bs.lt; have kaW9 : Acc w W9 := (by refine Acc.call ?_ hb; (repeat' (first | (with_reducible first | assumption | exact Acc.refl _ | refine Acc.drew ?_ | refine Acc.drewN ?_ _ | refine Acc.alloc ?_ _ | refine Acc.setCell ?_ ?_ _) | (refine leB ?_; omega)))); clear hb))
                  all_goals
                    go_wp2_with fail
                    go_meet
                    refine ⟨_, rfl, rfl, ?_⟩
                    and_intros
                    all_goals
                      first
                        | ((repeat' (first | (with_reducible first | assumption | refine Blk.drew ?_ | refine Blk.drewN ?_ _ | apply Blk.set | (refine Blk.new ?_; focus (first | rfl | (simp; done))) | refine Blk.alloc ?_ _ | refine Blk.other ?_ ?_ _) | exact eqL rfl | (refine neB ?_; omega))); done)
                        | ((show Acc w _); (repeat' (first | (with_reducible first | assumption | exact Acc.refl _ | refine Acc.drew ?_ | refine Acc.drewN ?_ _ | refine Acc.alloc ?_ _ | refine Acc.setCell ?_ ?_ _) | (refine leB ?_; omega))); done)
                case rest =>
                  obtain ⟨px1x, rfl, rfl, Bx, Ba, Bres, Bs, kawc⟩ := hcut
                  have ca := Ba.cell
                  have fa := Ba.free
                  have la_wc := Ba.lt
                  have cres := Bres.cell
                  have fres := Bres.free
                  have lres_wc := Bres.lt
                  have cs := Bs.cell
                  have fs := Bs.free
                  have ls_wc := Bs.lt
                  have cx := Bx.cell
                  have fx := Bx.free
                  have lx_wc := Bx.lt
                  go_wp2_with fail
                  refine (gave_any Cr.out Dr.out (specAdd_any p1 p2 p3 u1 u2 u3 _)).mono ?_
                  rintro e W4 ⟨rfl, hb⟩
                  obtain ⟨Ba, Bres, Bs, Bx⟩ : Blk W4 (w.heap.size) [.int .i64 a1, .int .i64 a2, .int .i64 a3, .int .i64 b1, .int .i64 b2, .int .i64 b3, .int .i64 c1, .int .i64 c2, .int .i64 c3, .int .i64 d1, .int .i64 d2, .int .i64 d3] ∧ Blk W4 (w.heap.size + 1) [.int .i64 0, .int .i64 0, .int .i64 0] ∧ Blk W4 (w.heap.size + 1 + 1) [.int .i64 p1, .int .i64 p2, .int .i64 p3] ∧ Blk W4 (px1x) [.int .i64 u1, .int .i64 u2, .int .i64 u3] := by
                    refine ⟨?_, ?_, ?_, ?_⟩ <;> refine Blk.keep hb ?_ <;> (repeat' (first | (with_reducible first | assumption | refine Blk.drew ?_ | refine Blk.drewN ?_ _ | apply Blk.set | (refine Blk.new ?_; focus (first | rfl | (simp; done))) | refine Blk.alloc ?_ _ | refine Blk.other ?_ ?_ _) | exact eqL rfl | (refine neB ?_; omega)))
                  have ca := Ba.cell
                  have fa := Ba.free
                  have la_W4 := Ba.lt
                  have cres := Bres.cell
                  have fres := Bres.free
                  have lres_W4 := Bres.lt
                  have cs := Bs.cell
                  have fs := Bs.free
                  have ls_W4 := Bs.lt
                  have cx := Bx.cell
                  have fx := Bx.free
                  have lx_W4 := Bx.lt
                  have kaW4 : Acc w W4 := by
                    refine Acc.call ?_ hb
                    (repeat' (first | (with_reducible first | assumption | exact Acc.refl _ | refine Acc.drew ?_ | refine Acc.drewN ?_ _ | refine Acc.alloc ?_ _ | refine Acc.setCell ?_ ?_ _) | (refine leB ?_; omega)))
                  clear hb
                  cases ku with
                  | false =>
                    obtain rfl : o = none := HE.out.symm.trans (by simp only [squaresF, HV.out, if_true, sumO, Option.bind_some, Option.bind_none, some_of Cm.out Dm.out, some_of Cg.out Dg.out, some_of Cn.out Dn.out, some_of Cp.out Dp.out, none_of Du.out])
                    go_wp2_with fail
                    refine bodyPost_ret (v := .tuple #[.agg #[.int .i64 0, .int .i64 0, .int .i64 0], .bool false]) (by simp [results, Tryz.results32, go_sem, *]) rfl ⟨rfl, ?_⟩
                    show Acc w _
                    (repeat' (first | (with_reducible first | assumption | exact Acc.refl _ | refine Acc.drew ?_ | refine Acc.drewN ?_ _ | refine Acc.alloc ?_ _ | refine Acc.setCell ?_ ?_ _) | (refine leB ?_; omega)))
                  | true =>
                    cases kr with
                    | false =>
                      obtain rfl : o = none := HE.out.symm.trans (by simp only [squaresF, HV.out, if_true, sumO, Option.bind_some, some_of Cm.out Dm.out, some_of Cg.out Dg.out, some_of Cn.out Dn.out, some_of Cp.out Dp.out, some_of Cu.out Du.out, none_of Dr.out])
                      go_wp2_with fail
                      refine bodyPost_ret (v := .tuple #[.agg #[.int .i64 0, .int .i64 0, .int .i64 0], .bool false]) (by simp [results, Tryz.results32, go_sem, *]) rfl ⟨rfl, ?_⟩
                      show Acc w _
                      (repeat' (first | (with_reducible first | assumption | exact Acc.refl _ | refine Acc.drew ?_ | refine Acc.drewN ?_ _ | refine Acc.alloc ?_ _ | refine Acc.setCell ?_ ?_ _) | (refine leB ?_; omega)))
                    | true =>
                      go_wp2_with fail
                      rw [rounds_succ]
                      go_wp2_with fail
                      obtain rfl : o = some (r1, r2, r3) := HE.out.symm.trans (by simp only [squaresF, HV.out, if_true, sumO, Option.bind_some, some_of Cm.out Dm.out, some_of Cg.out Dg.out, some_of Cn.out Dn.out, some_of Cp.out Dp.out, some_of Cu.out Du.out, some_of Cr.out Dr.out])
                      refine bodyPost_ret (v := .tuple #[.agg #[.int .i64 r1, .int .i64 r2, .int .i64 r3], .bool true]) (by simp [results, Tryz.results32, go_sem, *]) rfl ⟨rfl, ?_⟩
                      show Acc w _
                      (repeat' (first | (with_reducible first | assumption | exact Acc.refl _ | refine Acc.drew ?_ | refine Acc.drewN ?_ _ | refine Acc.alloc ?_ _ | refine Acc.setCell ?_ ?_ _) | (refine leB ?_; omega)))
set_option maxHeartbeats 4000000 in
theorem specRest_any (a1 a2 a3 b1 b2 b3 c1 c2 c3 d1 d2 d3 : Int) (w : World) : Calls Tryz.prog 16 #[.agg #[.int .i64 a1, .int .i64 a2, .int .i64 a3, .int .i64 b1, .int .i64 b2, .int .i64 b3, .int .i64 c1, .int .i64 c2, .int .i64 c3, .int .i64 d1, .int .i64 d2, .int .i64 d3]] w fun e w' => e = .returned (cmpV (restF a1 a2 a3 b1 b2 b3 c1 c2 c3 d1 d2 d3)) ∧ Below w.heap.size w w' := by
  obtain ⟨⟨m1, m2, m3⟩, hv⟩ : ∃ o, partsR (squaresF a1 a2 a3 b1 b2 b3 c1 c2 c3 d1 d2 d3) = o := ⟨_, rfl⟩
  obtain ⟨km, hk⟩ : ∃ k, okR (squaresF a1 a2 a3 b1 b2 b3 c1 c2 c3 d1 d2 d3) = k := ⟨_, rfl⟩
  have Cm := Lib.hid hv
  have Dm := Lib.hid hk
  clear hv hk
  obtain ⟨⟨n1, n2, n3⟩, hv⟩ : ∃ o, partsR (timesF a1 a2 a3 a1 a2 a3) = o := ⟨_, rfl⟩
  obtain ⟨kn, hk⟩ : ∃ k, okR (timesF a1 a2 a3 a1 a2 a3) = k := ⟨_, rfl⟩
  have Cn := Lib.hid hv
  have Dn := Lib.hid hk
  clear hv hk
  obtain ⟨o, E⟩ : ∃ o, restF a1 a2 a3 b1 b2 b3 c1 c2 c3 d1 d2 d3 = o := ⟨_, rfl⟩
  rw [E]
  have HE := Lib.hid E
  clear E
  go_enter Tryz.func16, Tryz.ntmps16
  go_wp2_with fail
  refine (gave_any Cm.out Dm.out (specSquares_any a1 a2 a3 b1 b2 b3 c1 c2 c3 d1 d2 d3 _)).mono ?_
  rintro e W1 ⟨rfl, hb⟩
  have Ba : Blk W1 (w.heap.size) [.int .i64 a1, .int .i64 a2, .int .i64 a3, .int .i64 b1, .int .i64 b2, .int .i64 b3, .int .i64 c1, .int .i64 c2, .int .i64 c3, .int .i64 d1, .int .i64 d2, .int .i64 d3] := Blk.keep hb (by repeat' (first | (with_reducible first | assumption | refine Blk.drew ?_ | refine Blk.drewN ?_ _ | apply Blk.set | (refine Blk.new ?_; focus (first | rfl | (simp; done))) | refine Blk.alloc ?_ _ | refine Blk.other ?_ ?_ _) | exact eqL rfl | (refine neB ?_; omega)))
  have ca := Ba.cell
  have fa := Ba.free
  have la_W1 := Ba.lt
  have kaW1 : Acc w W1 := by
    refine Acc.call ?_ hb
    (repeat' (first | (with_reducible first | assumption | exact Acc.refl _ | refine Acc.drew ?_ | refine Acc.drewN ?_ _ | refine Acc.alloc ?_ _ | refine Acc.setCell ?_ ?_ _) | (refine leB ?_; omega)))
  clear hb
  go_wp2_with fail
  refine (gave_any Cn.out Dn.out (specTimes_any a1 a2 a3 a1 a2 a3 _)).mono ?_
  rintro e W2 ⟨rfl, hb⟩
  obtain ⟨Ba, Bm⟩ : Blk W2 (w.heap.size) [.int .i64 a1, .int .i64 a2, .int .i64 a3, .int .i64 b1, .int .i64 b2, .int .i64 b3, .int .i64 c1, .int .i64 c2, .int .i64 c3, .int .i64 d1, .int .i64 d2, .int .i64 d3] ∧ Blk W2 (W1.heap.size) [.int .i64 m1, .int .i64 m2, .int .i64 m3] := by
    refine ⟨?_, ?_⟩ <;> refine Blk.keep hb ?_ <;> (repeat' (first | (with_reducible first | assumption | refine Blk.drew ?_ | refine Blk.drewN ?_ _ | apply Blk.set | (refine Blk.new ?_; focus (first | rfl | (simp; done))) | refine Blk.alloc ?_ _ | refine Blk.other ?_ ?_ _) | exact eqL rfl | (refine neB ?_; omega)))
  have ca := Ba.cell
  have fa := Ba.free
  have la_W2 := Ba.lt
  have cm := Bm.cell
  have fm := Bm.free
  have lm_W2 := Bm.lt
  have kaW2 : Acc w W2 := by
    refine Acc.call ?_ hb
    (repeat' (first | (with_reducible first | assumption | exact Acc.refl _ | refine Acc.drew ?_ | refine Acc.drewN ?_ _ | refine Acc.alloc ?_ _ | refine Acc.setCell ?_ ?_ _) | (refine leB ?_; omega)))
  clear hb
  cases km with
  | false =>
    obtain rfl : o = none := HE.out.symm.trans (by simp only [restF, Option.bind_none, none_of Dm.out])
    go_wp2_with fail
    refine bodyPost_ret (v := .tuple #[.int .i64 0, .bool false]) (by simp [results, Tryz.results16, go_sem, *]) rfl ⟨rfl, ?_⟩
    show Acc w _
    (repeat' (first | (with_reducible first | assumption | exact Acc.refl _ | refine Acc.drew ?_ | refine Acc.drewN ?_ _ | refine Acc.alloc ?_ _ | refine Acc.setCell ?_ ?_ _) | (refine leB ?_; omega)))
  | true =>
    cases kn with
    | false =>
      obtain rfl : o = none := HE.out.symm.trans (by simp only [restF, Option.bind_some, Option.bind_none, some_of Cm.out Dm.out, none_of Dn.out])
      go_wp2_with fail
      refine bodyPost_ret (v := .tuple #[.int .i64 0, .bool false]) (by simp [results, Tryz.results16, go_sem, *]) rfl ⟨rfl, ?_⟩
      show Acc w _
      (repeat' (first | (with_reducible first | assumption | exact Acc.refl _ | refine Acc.drew ?_ | refine Acc.drewN ?_ _ | refine Acc.alloc ?_ _ | refine Acc.setCell ?_ ?_ _) | (refine leB ?_; omega)))
    | true =>
      have e : compareF n1 n2 n3 m1 m2 m3 = o := Eq.trans (by simp only [restF, Option.bind_some, some_of Cm.out Dm.out, some_of Cn.out Dn.out]) HE.out
      clear HE
      go_wp2_with fail
      have HC := Lib.hid fun w => specCompare_any n1 n2 n3 m1 m2 m3 w
      rw [e] at HC
      clear e
      cases o with
      | none =>
        refine (HC.out _).mono ?_
        rintro e W3 ⟨he, hb⟩
        have he' : e = .returned (.tuple #[.int .i64 0, .bool false]) := he
        subst he'
        clear he
        obtain ⟨Ba, Bm⟩ : Blk W3 (w.heap.size) [.int .i64 a1, .int .i64 a2, .int .i64 a3, .int .i64 b1, .int .i64 b2, .int .i64 b3, .int .i64 c1, .int .i64 c2, .int .i64 c3, .int .i64 d1, .int .i64 d2, .int .i64 d3] ∧ Blk W3 (W1.heap.size) [.int .i64 m1, .int .i64 m2, .int .i64 m3] := by
          refine ⟨?_, ?_⟩ <;> refine Blk.keep hb ?_ <;> (repeat' (first | (with_reducible first | assumption | refine Blk.drew ?_ | refine Blk.drewN ?_ _ | apply Blk.set | (refine Blk.new ?_; focus (first | rfl | (simp; done))) | refine Blk.alloc ?_ _ | refine Blk.other ?_ ?_ _) | exact eqL rfl | (refine neB ?_; omega)))
        have ca := Ba.cell
        have fa := Ba.free
        have la_W3 := Ba.lt
        have cm := Bm.cell
        have fm := Bm.free
        have lm_W3 := Bm.lt
        have kaW3 : Acc w W3 := by
          refine Acc.call ?_ hb
          (repeat' (first | (with_reducible first | assumption | exact Acc.refl _ | refine Acc.drew ?_ | refine Acc.drewN ?_ _ | refine Acc.alloc ?_ _ | refine Acc.setCell ?_ ?_ _) | (refine leB ?_; omega)))
        clear hb
        go_wp2_with fail
        refine bodyPost_ret (v := .tuple #[.int .i64 0, .bool false]) (by simp [results, Tryz.results16, go_sem, *]) rfl ⟨rfl, ?_⟩
        show Acc w _
        (repeat' (first | (with_reducible first | assumption | exact Acc.refl _ | refine Acc.drew ?_ | refine Acc.drewN ?_ _ | refine Acc.alloc ?_ _ | refine Acc.setCell ?_ ?_ _) | (refine leB ?_; omega)))
      | some n =>
        refine (HC.out _).mono ?_
        rintro e W3 ⟨he, hb⟩
        have he' : e = .returned (.tuple #[.int .i64 n, .bool true]) := he
        subst he'
        clear he
        obtain ⟨Ba, Bm⟩ : Blk W3 (w.heap.size) [.int .i64 a1, .int .i64 a2, .int .i64 a3, .int .i64 b1, .int .i64 b2, .int .i64 b3, .int .i64 c1, .int .i64 c2, .int .i64 c3, .int .i64 d1, .int .i64 d2, .int .i64 d3] ∧ Blk W3 (W1.heap.size) [.int .i64 m1, .int .i64 m2, .int .i64 m3] := by
          refine ⟨?_, ?_⟩ <;> refine Blk.keep hb ?_ <;> (repeat' (first | (with_reducible first | assumption | refine Blk.drew ?_ | refine Blk.drewN ?_ _ | apply Blk.set | (refine Blk.new ?_; focus (first | rfl | (simp; done))) | refine Blk.alloc ?_ _ | refine Blk.other ?_ ?_ _) | exact eqL rfl | (refine neB ?_; omega)))
        have ca := Ba.cell
        have fa := Ba.free
        have la_W3 := Ba.lt
        have cm := Bm.cell
        have fm := Bm.free
        have lm_W3 := Bm.lt
        have kaW3 : Acc w W3 := by
          refine Acc.call ?_ hb
          (repeat' (first | (with_reducible first | assumption | exact Acc.refl _ | refine Acc.drew ?_ | refine Acc.drewN ?_ _ | refine Acc.alloc ?_ _ | refine Acc.setCell ?_ ?_ _) | (refine leB ?_; omega)))
        clear hb
        go_wp2_with fail
        refine bodyPost_ret (v := .tuple #[.int .i64 n, .bool true]) (by simp [results, Tryz.results16, go_sem, *]) rfl ⟨rfl, ?_⟩
        show Acc w _
        (repeat' (first | (with_reducible first | assumption | exact Acc.refl _ | refine Acc.drew ?_ | refine Acc.drewN ?_ _ | refine Acc.alloc ?_ _ | refine Acc.setCell ?_ ?_ _) | (refine leB ?_; omega)))
set_option maxHeartbeats 4000000 in
theorem specPure_any (a1 a2 a3 b1 b2 b3 c1 c2 c3 d1 d2 d3 : Int) (w : World) : Calls Tryz.prog 6 #[.agg #[.int .i64 a1, .int .i64 a2, .int .i64 a3, .int .i64 b1, .int .i64 b2, .int .i64 b3, .int .i64 c1, .int .i64 c2, .int .i64 c3, .int .i64 d1, .int .i64 d2, .int .i64 d3]] w fun e w' => e = .returned (.bool (pureF a1 a2 a3 b1 b2 b3 c1 c2 c3 d1 d2 d3)) ∧ Below w.heap.size w w' := by
  unfold pureF
  have HC := Lib.hid fun w => specRest_any a1 a2 a3 b1 b2 b3 c1 c2 c3 d1 d2 d3 w
  obtain ⟨o, E⟩ : ∃ o, restF a1 a2 a3 b1 b2 b3 c1 c2 c3 d1 d2 d3 = o := ⟨_, rfl⟩
  rw [E] at HC ⊢
  clear E
  cases o with
  | none =>
    go_enter Tryz.func6, Tryz.ntmps6
    go_wp2_with fail
    refine (HC.out _).mono ?_
    rintro e W1 ⟨he, hb⟩
    have Ba : Blk W1 (w.heap.size) [.int .i64 a1, .int .i64 a2, .int .i64 a3, .int .i64 b1, .int .i64 b2, .int .i64 b3, .int .i64 c1, .int .i64 c2, .int .i64 c3, .int .i64 d1, .int .i64 d2, .int .i64 d3] := Blk.keep hb (by repeat' (first | (with_reducible first | assumption | refine Blk.drew ?_ | refine Blk.drewN ?_ _ | apply Blk.set | (refine Blk.new ?_; focus (first | rfl | (simp; done))) | refine Blk.alloc ?_ _ | refine Blk.other ?_ ?_ _) | exact eqL rfl | (refine neB ?_; omega)))
    have ca := Ba.cell
    have fa := Ba.free
    have la_W1 := Ba.lt
    have kaW1 : Acc w W1 := by
      refine Acc.call ?_ hb
      (repeat' (first | (with_reducible first | assumption | exact Acc.refl _ | refine Acc.drew ?_ | refine Acc.drewN ?_ _ | refine Acc.alloc ?_ _ | refine Acc.setCell ?_ ?_ _) | (refine leB ?_; omega)))
    clear hb
    have he' : e = .returned (.tuple #[.int .i64 0, .bool false]) := he
    subst he'
    clear he
    go_wp2_with fail
    all_goals
      go_ret
      refine ⟨by first | rfl | (simp [*]; done) | (simp [go_sem, *]; done), ?_⟩
      show Acc w _
      (repeat' (first | (with_reducible first | assumption | exact Acc.refl _ | refine Acc.drew ?_ | refine Acc.drewN ?_ _ | refine Acc.alloc ?_ _ | refine Acc.setCell ?_ ?_ _) | (refine leB ?_; omega)))
  | some n =>
    by_cases hn : n = 0
    · skip
      subst hn
      go_enter Tryz.func6, Tryz.ntmps6
      go_wp2_with fail
      refine (HC.out _).mono ?_
      rintro e W1 ⟨he, hb⟩
      have Ba : Blk W1 (w.heap.size) [.int .i64 a1, .int .i64 a2, .int .i64 a3, .int .i64 b1, .int .i64 b2, .int .i64 b3, .int .i64 c1, .int .i64 c2, .int .i64 c3, .int .i64 d1, .int .i64 d2, .int .i64 d3] := Blk.keep hb (by repeat' (first | (with_reducible first | assumption | refine Blk.drew ?_ | refine Blk.drewN ?_ _ | apply Blk.set | (refine Blk.new ?_; focus (first | rfl | (simp; done))) | refine Blk.alloc ?_ _ | refine Blk.other ?_ ?_ _) | exact eqL rfl | (refine neB ?_; omega)))
      have ca := Ba.cell
      have fa := Ba.free
      have la_W1 := Ba.lt
      have kaW1 : Acc w W1 := by
        refine Acc.call ?_ hb
        (repeat' (first | (with_reducible first | assumption | exact Acc.refl _ | refine Acc.drew ?_ | refine Acc.drewN ?_ _ | refine Acc.alloc ?_ _ | refine Acc.setCell ?_ ?_ _) | (refine leB ?_; omega)))
      clear hb
      have he' : e = .returned (.tuple #[.int .i64 0, .bool true]) := he
      subst he'
      clear he
      go_wp2_with fail
      all_goals
        go_ret
        refine ⟨by first | rfl | (simp [*]; done) | (simp [go_sem, *]; done) | (simp [*]; intro h9; omega), ?_⟩
        show Acc w _
        (repeat' (first | (with_reducible first | assumption | exact Acc.refl _ | refine Acc.drew ?_ | refine Acc.drewN ?_ _ | refine Acc.alloc ?_ _ | refine Acc.setCell ?_ ?_ _) | (refine leB ?_; omega)))
    · skip
      go_enter Tryz.func6, Tryz.ntmps6
      go_wp2_with fail
      refine (HC.out _).mono ?_
      rintro e W1 ⟨he, hb⟩
      have Ba : Blk W1 (w.heap.size) [.int .i64 a1, .int .i64 a2, .int .i64 a3, .int .i64 b1, .int .i64 b2, .int .i64 b3, .int .i64 c1, .int .i64 c2, .int .i64 c3, .int .i64 d1, .int .i64 d2, .int .i64 d3] := Blk.keep hb (by repeat' (first | (with_reducible first | assumption | refine Blk.drew ?_ | refine Blk.drewN ?_ _ | apply Blk.set | (refine Blk.new ?_; focus (first | rfl | (simp; done))) | refine Blk.alloc ?_ _ | refine Blk.other ?_ ?_ _) | exact eqL rfl | (refine neB ?_; omega)))
      have ca := Ba.cell
      have fa := Ba.free
      have la_W1 := Ba.lt
      have kaW1 : Acc w W1 := by
        refine Acc.call ?_ hb
        (repeat' (first | (with_reducible first | assumption | exact Acc.refl _ | refine Acc.drew ?_ | refine Acc.drewN ?_ _ | refine Acc.alloc ?_ _ | refine Acc.setCell ?_ ?_ _) | (refine leB ?_; omega)))
      clear hb
      have he' : e = .returned (.tuple #[.int .i64 n, .bool true]) := he
      subst he'
      clear he
      go_wp2_with fail
      all_goals
        go_ret
        refine ⟨by first | rfl | (simp [*]; done) | (simp [go_sem, *]; done) | (simp [*]; intro h9; omega), ?_⟩
        show Acc w _
        (repeat' (first | (with_reducible first | assumption | exact Acc.refl _ | refine Acc.drew ?_ | refine Acc.drewN ?_ _ | refine Acc.alloc ?_ _ | refine Acc.setCell ?_ ?_ _) | (refine leB ?_; omega)))
end Go.Proofs.YtchdcncnlfgjfaaGreatDoor
