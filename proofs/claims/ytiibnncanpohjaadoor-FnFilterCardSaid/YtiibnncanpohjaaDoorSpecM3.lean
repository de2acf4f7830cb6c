/-
  The model: matrices: diagonals, dark, lossless.
-/
import Derived.Test.YtiibnncanpohjaaDoorSpecM1
import Derived.Test.YtiibnncanpohjaaDoorBLet
import Derived.Deep.RegionHeld3
import Derived.Deep.QuietTactic
import Derived.BigQuiet
namespace Go.Proofs.YtiibnncanpohjaaDoor
open Go.ChangeShapes Go.WideShapes Go.ChangeAt Go.RowKit
set_option linter.unusedVariables false

set_option maxHeartbeats 8000000 in
theorem specOne_any (a1 a2 a3 b1 b2 b3 : Int) (w : World) :
    Calls Tryd.prog 52 #[.agg #[.int .i64 a1, .int .i64 a2, .int .i64 a3], .agg #[.int .i64 b1, .int .i64 b2, .int .i64 b3]] w fun e w' => e = .returned (.agg #[.int .i64 a1, .int .i64 a2, .int .i64 a3, .int .i64 0, .int .i64 0, .int .i64 1, .int .i64 0, .int .i64 0, .int .i64 1, .int .i64 b1, .int .i64 b2, .int .i64 b3]) ∧ Below w.heap.size w w' := by
  go_enter Tryd.func52, Tryd.ntmps52
  go_wp2_with fail
  refine bodyPost_ret (v := .agg #[.int .i64 a1, .int .i64 a2, .int .i64 a3, .int .i64 0, .int .i64 0, .int .i64 1, .int .i64 0, .int .i64 0, .int .i64 1, .int .i64 b1, .int .i64 b2, .int .i64 b3]) (by simp [results, Tryd.results52, go_sem, *]) rfl ⟨rfl, ?_⟩
  show Acc w _
  (repeat' (first | (with_reducible first | assumption | exact Acc.refl _ | refine Acc.drew ?_ | refine Acc.drewN ?_ _ | refine Acc.alloc ?_ _ | refine Acc.setCell ?_ ?_ _) | (refine leB ?_; omega)))
set_option maxHeartbeats 16000000 in
theorem specDark_any (a1 a2 a3 b1 b2 b3 c1 c2 c3 d1 d2 d3 : Int) (w : World) :
    Calls Tryd.prog 57 #[.agg #[.int .i64 a1, .int .i64 a2, .int .i64 a3, .int .i64 b1, .int .i64 b2, .int .i64 b3, .int .i64 c1, .int .i64 c2, .int .i64 c3, .int .i64 d1, .int .i64 d2, .int .i64 d3]] w fun e w' => e = .returned (.bool (darkM ((a1, a2, a3), (b1, b2, b3), (c1, c2, c3), (d1, d2, d3)))) ∧ Below w.heap.size w w' := by
  obtain ⟨o, E⟩ : ∃ o, darkM ((a1, a2, a3), (b1, b2, b3), (c1, c2, c3), (d1, d2, d3)) = o := ⟨_, rfl⟩
  rw [E]
  have HE := Lib.hid E
  clear E
  go_enter Tryd.func57, Tryd.ntmps57
  go_wp2_with fail
  refine wp_loop_rounds 5 ?_
  rw [rounds_succ]
  by_cases h00 : a1 = 0
  · skip
    by_cases h01 : a2 = 0
    · skip
      go_wp2_with fail
      rw [rounds_succ]
      by_cases h10 : b1 = 0
      · skip
        by_cases h11 : b2 = 0
        · skip
          go_wp2_with fail
          rw [rounds_succ]
          by_cases h20 : c1 = 0
          · skip
            by_cases h21 : c2 = 0
            · skip
              go_wp2_with fail
              rw [rounds_succ]
              by_cases h30 : d1 = 0
              · skip
                by_cases h31 : d2 = 0
                · skip
                  go_wp2_with fail
                  rw [rounds_succ]
                  obtain rfl : o = true := HE.out.symm.trans (by simp [darkM, h00, h01, h10, h11, h20, h21, h30, h31])
                  go_wp2_with fail
                  go_ret
                  refine ⟨rfl, ?_⟩
                  show Acc w _
                  (repeat' (first | (with_reducible first | assumption | exact Acc.refl _ | refine Acc.drew ?_ | refine Acc.drewN ?_ _ | refine Acc.alloc ?_ _ | refine Acc.setCell ?_ ?_ _) | (refine leB ?_; omega)))
                · skip
                  obtain rfl : o = false := HE.out.symm.trans (by simp [darkM, h31])
                  go_wp2_with fail
                  go_ret
                  refine ⟨rfl, ?_⟩
                  show Acc w _
                  (repeat' (first | (with_reducible first | assumption | exact Acc.refl _ | refine Acc.drew ?_ | refine Acc.drewN ?_ _ | refine Acc.alloc ?_ _ | refine Acc.setCell ?_ ?_ _) | (refine leB ?_; omega)))
              · skip
                obtain rfl : o = false := HE.out.symm.trans (by simp [darkM, h30])
                go_wp2_with fail
                go_ret
                refine ⟨rfl, ?_⟩
                show Acc w _
                (repeat' (first | (with_reducible first | assumption | exact Acc.refl _ | refine Acc.drew ?_ | refine Acc.drewN ?_ _ | refine Acc.alloc ?_ _ | refine Acc.setCell ?_ ?_ _) | (refine leB ?_; omega)))
            · skip
              obtain rfl : o = false := HE.out.symm.trans (by simp [darkM, h21])
              go_wp2_with fail
              go_ret
              refine ⟨rfl, ?_⟩
              show Acc w _
              (repeat' (first | (with_reducible first | assumption | exact Acc.refl _ | refine Acc.drew ?_ | refine Acc.drewN ?_ _ | refine Acc.alloc ?_ _ | refine Acc.setCell ?_ ?_ _) | (refine leB ?_; omega)))
          · skip
            obtain rfl : o = false := HE.out.symm.trans (by simp [darkM, h20])
            go_wp2_with fail
            go_ret
            refine ⟨rfl, ?_⟩
            show Acc w _
            (repeat' (first | (with_reducible first | assumption | exact Acc.refl _ | refine Acc.drew ?_ | refine Acc.drewN ?_ _ | refine Acc.alloc ?_ _ | refine Acc.setCell ?_ ?_ _) | (refine leB ?_; omega)))
        · skip
          obtain rfl : o = false := HE.out.symm.trans (by simp [darkM, h11])
          go_wp2_with fail
          go_ret
          refine ⟨rfl, ?_⟩
          show Acc w _
          (repeat' (first | (with_reducible first | assumption | exact Acc.refl _ | refine Acc.drew ?_ | refine Acc.drewN ?_ _ | refine Acc.alloc ?_ _ | refine Acc.setCell ?_ ?_ _) | (refine leB ?_; omega)))
      · skip
        obtain rfl : o = false := HE.out.symm.trans (by simp [darkM, h10])
        go_wp2_with fail
        go_ret
        refine ⟨rfl, ?_⟩
        show Acc w _
        (repeat' (first | (with_reducible first | assumption | exact Acc.refl _ | refine Acc.drew ?_ | refine Acc.drewN ?_ _ | refine Acc.alloc ?_ _ | refine Acc.setCell ?_ ?_ _) | (refine leB ?_; omega)))
    · skip
      obtain rfl : o = false := HE.out.symm.trans (by simp [darkM, h01])
      go_wp2_with fail
      go_ret
      refine ⟨rfl, ?_⟩
      show Acc w _
      (repeat' (first | (with_reducible first | assumption | exact Acc.refl _ | refine Acc.drew ?_ | refine Acc.drewN ?_ _ | refine Acc.alloc ?_ _ | refine Acc.setCell ?_ ?_ _) | (refine leB ?_; omega)))
  · skip
    obtain rfl : o = false := HE.out.symm.trans (by simp [darkM, h00])
    go_wp2_with fail
    go_ret
    refine ⟨rfl, ?_⟩
    show Acc w _
    (repeat' (first | (with_reducible first | assumption | exact Acc.refl _ | refine Acc.drew ?_ | refine Acc.drewN ?_ _ | refine Acc.alloc ?_ _ | refine Acc.setCell ?_ ?_ _) | (refine leB ?_; omega)))
/-- A told matrix, its letters open. -/
theorem gaveM_open (o : Option F4) : ∃ a b c d : F3, ∃ k : Bool, (k = true → o = some (a, b, c, d)) ∧ (k = false → o = none) ∧ ∀ P f ar w, Calls P f ar w (Gave12 o w) → Calls P f ar w fun e w' => e = .returned (.tuple #[.agg #[.int .i64 a.1, .int .i64 a.2.1, .int .i64 a.2.2, .int .i64 b.1, .int .i64 b.2.1, .int .i64 b.2.2, .int .i64 c.1, .int .i64 c.2.1, .int .i64 c.2.2, .int .i64 d.1, .int .i64 d.2.1, .int .i64 d.2.2], .bool k]) ∧ Below w.heap.size w w' := by
  cases o with
  | none => exact ⟨(0, 0, 0), (0, 0, 0), (0, 0, 0), (0, 0, 0), false, (fun h => by cases h), fun _ => rfl, fun P f ar w c => c.mono fun e w' h => ⟨h.2.1 rfl, h.2.2⟩⟩
  | some v =>
    obtain ⟨a, b, c, d⟩ := v
    exact ⟨a, b, c, d, true, fun _ => rfl, (fun h => by cases h), fun P f ar w k => k.mono fun e w' h => ⟨h.1 _ _ _ _ _ _ _ _ _ _ _ _ rfl, h.2.2⟩⟩
set_option maxHeartbeats 16000000 in
theorem specLos_any (a1 a2 a3 b1 b2 b3 c1 c2 c3 d1 d2 d3 : Int) (w : World) :
    Calls Tryd.prog 18 #[.agg #[.int .i64 a1, .int .i64 a2, .int .i64 a3, .int .i64 b1, .int .i64 b2, .int .i64 b3, .int .i64 c1, .int .i64 c2, .int .i64 c3, .int .i64 d1, .int .i64 d2, .int .i64 d3]] w fun e w' => e = .returned (.bool (losM ((a1, a2, a3), (b1, b2, b3), (c1, c2, c3), (d1, d2, d3)))) ∧ Below w.heap.size w w' := by
  obtain ⟨⟨m0, m1, m2⟩, ⟨m3, m4, m5⟩, ⟨m6, m7, m8⟩, ⟨m9, m10, m11⟩, km, hs, hn, hg⟩ := gaveM_open (adjM ((a1, a2, a3), (b1, b2, b3), (c1, c2, c3), (d1, d2, d3)))
  have Sm := Lib.hid hs
  have Nm := Lib.hid hn
  have Gm := Lib.hid hg
  clear hs hn hg
  obtain ⟨⟨n0, n1, n2⟩, ⟨n3, n4, n5⟩, ⟨n6, n7, n8⟩, ⟨n9, n10, n11⟩, kn, hs, hn, hg⟩ := gaveM_open (mulM ((a1, a2, a3), (b1, b2, b3), (c1, c2, c3), (d1, d2, d3)) ((m0, m1, m2), (m3, m4, m5), (m6, m7, m8), (m9, m10, m11)))
  have Sn := Lib.hid hs
  have Nn := Lib.hid hn
  have Gn := Lib.hid hg
  clear hs hn hg
  obtain ⟨o, E⟩ : ∃ o, losM ((a1, a2, a3), (b1, b2, b3), (c1, c2, c3), (d1, d2, d3)) = o := ⟨_, rfl⟩
  rw [E]
  have HE := Lib.hid E
  clear E
  have Q := Lib.hid fun w => eqMat n0 n1 n2 n3 n4 n5 n6 n7 n8 n9 n10 n11 1 0 1 0 0 1 0 0 1 1 0 1 w
  obtain ⟨z, hz⟩ : ∃ z, eqM4 ((n0, n1, n2), (n3, n4, n5), (n6, n7, n8), (n9, n10, n11)) oneM = z := ⟨_, rfl⟩
  have HZ := Lib.hid hz
  have q : ∀ w, (Op.equalIn 10000 27 (.agg #[.int .i64 n0, .int .i64 n1, .int .i64 n2, .int .i64 n3, .int .i64 n4, .int .i64 n5, .int .i64 n6, .int .i64 n7, .int .i64 n8, .int .i64 n9, .int .i64 n10, .int .i64 n11]) (.agg #[.int .i64 1, .int .i64 0, .int .i64 1, .int .i64 0, .int .i64 0, .int .i64 1, .int .i64 0, .int .i64 0, .int .i64 1, .int .i64 1, .int .i64 0, .int .i64 1])).run Tryd.prog w = .ok z w := fun w => (Q.out w).trans (by rw [← HZ.out]; rfl)
  clear hz Q
  go_enter Tryd.func18, Tryd.ntmps18
  go_wp2_with fail
  refine (Gm.out _ _ _ _ (specMAdj_any a1 a2 a3 b1 b2 b3 c1 c2 c3 d1 d2 d3 _)).mono ?_
  rintro e W1 ⟨rfl, hb⟩
  have Ba : Blk W1 (w.heap.size) [.int .i64 a1, .int .i64 a2, .int .i64 a3, .int .i64 b1, .int .i64 b2, .int .i64 b3, .int .i64 c1, .int .i64 c2, .int .i64 c3, .int .i64 d1, .int .i64 d2, .int .i64 d3] := Blk.keep hb (by repeat' (first | (with_reducible first | assumption | refine Blk.drew ?_ | refine Blk.drewN ?_ _ | apply Blk.set | (refine Blk.new ?_; focus (first | rfl | (simp; done))) | refine Blk.alloc ?_ _ | refine Blk.other ?_ ?_ _) | exact eqL rfl | (refine neB ?_; omega)))
  have ca := Ba.cell
  have fa := Ba.free
  have la_W1 := Ba.lt
  have kaW1 : Acc w W1 := by
    refine Acc.call ?_ hb
    (repeat' (first | (with_reducible first | assumption | exact Acc.refl _ | refine Acc.drew ?_ | refine Acc.drewN ?_ _ | refine Acc.alloc ?_ _ | refine Acc.setCell ?_ ?_ _) | (refine leB ?_; omega)))
  clear hb
  cases km with
  | false =>
    obtain rfl : o = false := HE.out.symm.trans (by unfold losM; rw [Nm.out (by simp)]; rfl)
    go_wp2_with fail
    go_ret
    refine ⟨rfl, ?_⟩
    show Acc w _
    (repeat' (first | (with_reducible first | assumption | exact Acc.refl _ | refine Acc.drew ?_ | refine Acc.drewN ?_ _ | refine Acc.alloc ?_ _ | refine Acc.setCell ?_ ?_ _) | (refine leB ?_; omega)))
  | true =>
    go_wp2_with fail
    refine (Gn.out _ _ _ _ (specMTimes_any a1 a2 a3 b1 b2 b3 c1 c2 c3 d1 d2 d3 m0 m1 m2 m3 m4 m5 m6 m7 m8 m9 m10 m11 _)).mono ?_
    rintro e W2 ⟨rfl, hb⟩
    obtain ⟨Ba, Bm⟩ : Blk W2 (w.heap.size) [.int .i64 a1, .int .i64 a2, .int .i64 a3, .int .i64 b1, .int .i64 b2, .int .i64 b3, .int .i64 c1, .int .i64 c2, .int .i64 c3, .int .i64 d1, .int .i64 d2, .int .i64 d3] ∧ Blk W2 (W1.heap.size) [.int .i64 m0, .int .i64 m1, .int .i64 m2, .int .i64 m3, .int .i64 m4, .int .i64 m5, .int .i64 m6, .int .i64 m7, .int .i64 m8, .int .i64 m9, .int .i64 m10, .int .i64 m11] := by
      refine ⟨?_, ?_⟩ <;> refine Blk.keep hb ?_ <;> (repeat' (first | (with_reducible first | assumption | refine Blk.drew ?_ | refine Blk.drewN ?_ _ | apply Blk.set | (refine Blk.new ?_; focus (first | rfl | (simp; done))) | refine Blk.alloc ?_ _ | refine Blk.other ?_ ?_ _) | exact eqL rfl | (refine neB ?_; omega)))
    have ca := Ba.cell
    have fa := Ba.free
    have la_W2 := Ba.lt
    have cm := Bm.cell
    have fm := Bm.free
    have lm_W2 := Bm.lt
    have kaW2 : Acc w W2 := by
      refine Acc.call ?_ hb
      (repeat' (first | (with_reducible first | assumption | exact Acc.refl _ | refine Acc.drew ?_ | refine Acc.drewN ?_ _ | refine Acc.alloc ?_ _ | refine Acc.setCell ?_ ?_ _) | (refine leB ?_; omega)))
    clear hb
    cases kn with
    | false =>
      obtain rfl : o = false := HE.out.symm.trans (by unfold losM; rw [Sm.out (by simp)]; simp [Nn.out (by simp)])
      go_wp2_with fail
      go_quiet (fail)
      all_goals
        go_wp2_with fail
        go_ret
        refine ⟨rfl, ?_⟩
        show Acc w _
        (repeat' (first | (with_reducible first | assumption | exact Acc.refl _ | refine Acc.drew ?_ | refine Acc.drewN ?_ _ | refine Acc.alloc ?_ _ | refine Acc.setCell ?_ ?_ _) | (refine leB ?_; omega)))
    | true =>
      obtain rfl : o = z := HE.out.symm.trans ((by unfold losM; rw [Sm.out (by simp)]; simp [Sn.out (by simp), eqM4] : losM ((a1, a2, a3), (b1, b2, b3), (c1, c2, c3), (d1, d2, d3)) = eqM4 ((n0, n1, n2), (n3, n4, n5), (n6, n7, n8), (n9, n10, n11)) oneM).trans HZ.out)
      go_upto_region 6 with fail
      go_region_held3 (fun w' => (∀ k, w'.cell? ⟨W2.heap.size, k, none⟩ = [.int .i64 n0, .int .i64 n1, .int .i64 n2, .int .i64 n3, .int .i64 n4, .int .i64 n5, .int .i64 n6, .int .i64 n7, .int .i64 n8, .int .i64 n9, .int .i64 n10, .int .i64 n11][k]?) ∧ (∀ k, w'.cell? ⟨W2.heap.size + 1, k, none⟩ = [.int .i64 1, .int .i64 0, .int .i64 1][k]?))
        (((try dsimp only); (refine ⟨Blk.cell ?_, Blk.cell ?_⟩ <;> (repeat' (first | (with_reducible first | assumption | refine Blk.drew ?_ | refine Blk.drewN ?_ _ | apply Blk.set | (refine Blk.new ?_; focus (first | rfl | (simp; done))) | refine Blk.alloc ?_ _ | refine Blk.other ?_ ?_ _) | exact eqL rfl | (refine neB ?_; omega))))))
        (first
          | (go_at_call 52; refine (specOne_any 1 0 1 1 0 1 _).mono ?_; rintro e W7 ⟨rfl, hb⟩; have Ba : Blk W7 (w.heap.size) [.int .i64 a1, .int .i64 a2, .int .i64 a3, .int .i64 b1, .int .i64 b2, .int .i64 b3, .int .i64 c1, .int .i64 c2, .int .i64 c3, .int .i64 d1, .int .i64 d2, .int .i64 d3] := Blk.keep hb (by repeat' (first | (with_reducible first | assumption | refine Blk.drew ?_ | refine Blk.drewN ?_ _ | apply Blk.set | (refine Blk.new ?_; focus (first | rfl | (simp; done))) | refine Blk.alloc ?_ _ | refine Blk.other ?_ ?_ _) | exact eqL rfl | (refine neB ?_; omega))); have Bm : Blk W7 (W1.heap.size) [.int .i64 m0, .int .i64 m1, .int .i64 m2, .int .i64 m3, .int .i64 m4, .int .i64 m5, .int .i64 m6, .int .i64 m7, .int .i64 m8, .int .i64 m9, .int .i64 m10, .int .i64 m11] := Blk.keep hb (by repeat' (first | (with_reducible first | assumption | refine Blk.drew ?_ | refine Blk.drewN ?_ _ | apply Blk.set | (refine Blk.new ?_; focus (first | rfl | (simp; done))) | refine Blk.alloc ?_ _ | refine Blk.other ?_ ?_ _) | exact eqL rfl | (refine neB ?_; omega))); have Bn : Blk W7 (W2.heap.size) [.int .i64 n0, .int .i64 n1, .int .i64 n2, .int .i64 n3, .int .i64 n4, .int .i64 n5, .int .i64 n6, .int .i64 n7, .int .i64 n8, .int .i64 n9, .int .i64 n10, .int .i64 n11] := Blk.keep hb (by repeat' (first | (with_reducible first | assumption | refine Blk.drew ?_ | refine Blk.drewN ?_ _ | apply Blk.set | (refine Blk.new ?_; focus (first | rfl | (simp; done))) | refine Blk.alloc ?_ _ | refine Blk.other ?_ ?_ _) | exact eqL rfl | (refine neB ?_; omega))); have Bone : Blk W7 (W2.heap.size + 1) [.int .i64 1, .int .i64 0, .int .i64 1] := Blk.keep hb (by repeat' (first | (with_reducible first | assumption | refine Blk.drew ?_ | refine Blk.drewN ?_ _ | apply Blk.set | (refine Blk.new ?_; focus (first | rfl | (simp; done))) | refine Blk.alloc ?_ _ | refine Blk.other ?_ ?_ _) | exact eqL rfl | (refine neB ?_; omega))); have ca := Ba.cell; have fa := Ba.free; have la_W7 := Ba.lt; have cm := Bm.cell; have fm := Bm.free; have lm_W7 := Bm.lt; have cn := Bn.cell; have fn := Bn.free; have ln_W7 := Bn.lt; have cone := Bone.cell; have fone := Bone.free; have lone_W7 := Bone.lt; have kaW7 : Acc w W7 := (by refine Acc.call ?_ hb; (repeat' (first | (with_reducible first | assumption | exact Acc.refl _ | refine Acc.drew ?_ | refine Acc.drewN ?_ _ | refine Acc.alloc ?_ _ | refine Acc.setCell ?_ ?_ _) | (refine leB ?_; omega)))); clear hb))
      all_goals
        go_wp2_with fail
        go_ret
        refine ⟨rfl, ?_⟩
        show Acc w _
        (repeat' (first | (with_reducible first | assumption | exact Acc.refl _ | refine Acc.drew ?_ | refine Acc.drewN ?_ _ | refine Acc.alloc ?_ _ | refine Acc.setCell ?_ ?_ _) | (refine leB ?_; omega)))
end Go.Proofs.YtiibnncanpohjaaDoor
