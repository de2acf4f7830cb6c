/-
  The model: films compared.
-/
import Derived.Test.YtdagcjohpmolpaaDoorSpecF2
import Derived.Test.YtdagcjohpmolpaaDoorSpecM4
namespace Go.Proofs.YtdagcjohpmolpaaDoor
open Go.ChangeShapes Go.WideShapes Go.ChangeAt Go.RowKit
set_option linter.unusedVariables false

set_option linter.unusedSimpArgs false
theorem samM_1 {a b : List L4} (h : flmM a = none) : samM a b = false := by unfold samM; rw [h]
theorem samM_2 {a b : List L4} (h : flmM b = none) : samM a b = false := by unfold samM; rw [h]; cases flmM a <;> rfl
theorem samM_3 {a b : List L4} {m n : F4} (h : flmM a = some m) (k : flmM b = some n) : samM a b = alkM m n := by unfold samM; rw [h, k]
set_option maxRecDepth 100000 in
set_option maxHeartbeats 16000000 in
theorem specFlSame_any (a b : Option Addr) (ls ms : List L4) (cap cap' : Nat) (w : World) (h : Lys w a ls) (h' : Lys w b ms) (hn : ls.length ≤ 1048576) (hm : ms.length ≤ 1048576) : Calls Tryd.prog 19 #[.slice a ls.length cap, .slice b ms.length cap'] w fun e w' => e = .returned (.bool (samM ls ms)) ∧ Below w.heap.size w w' := by
  obtain ⟨a1, a2, a3, a4, a5, a6, a7, a8, a9, a10, a11, a12, km, m1', m2', mv⟩ := gave12_at (flmM ls)
  have TM := Lib.hid fun (W : World) (ka : Acc w W) => mv _ _ _ W (specFlMat_any a ls cap W (h.keep ka) hn)
  have M1 := Lib.hid m1'
  have M2 := Lib.hid m2'
  clear h m1' m2' mv
  obtain ⟨b1, b2, b3, b4, b5, b6, b7, b8, b9, b10, b11, b12, kn, m1', m2', mv⟩ := gave12_at (flmM ms)
  have TN := Lib.hid fun (W : World) (ka : Acc w W) => mv _ _ _ W (specFlMat_any b ms cap' W (h'.keep ka) hm)
  have N1 := Lib.hid m1'
  have N2 := Lib.hid m2'
  clear h' m1' m2' mv
  obtain ⟨o, E⟩ : ∃ o, samM ls ms = o := ⟨_, rfl⟩
  rw [E]
  have HE := Lib.hid E
  clear E
  go_enter Tryd.func19, Tryd.ntmps19
  go_wp2_with fail
  refine (TM.out _ (by repeat' (first | (with_reducible first | assumption | exact Acc.refl _ | refine Acc.drew ?_ | refine Acc.drewN ?_ _ | refine Acc.alloc ?_ _ | refine Acc.setCell ?_ ?_ _) | (refine leB ?_; omega)))).mono ?_
  rintro e W1 ⟨rfl, hb⟩
  have kaW1 : Acc w W1 := by
    refine Acc.call ?_ hb
    (repeat' (first | (with_reducible first | assumption | exact Acc.refl _ | refine Acc.drew ?_ | refine Acc.drewN ?_ _ | refine Acc.alloc ?_ _ | refine Acc.setCell ?_ ?_ _) | (refine leB ?_; omega)))
  clear hb
  go_wp2_with fail
  refine (TN.out _ (by repeat' (first | (with_reducible first | assumption | exact Acc.refl _ | refine Acc.drew ?_ | refine Acc.drewN ?_ _ | refine Acc.alloc ?_ _ | refine Acc.setCell ?_ ?_ _) | (refine leB ?_; omega)))).mono ?_
  rintro e W2 ⟨rfl, hb⟩
  have Bm : Blk W2 (W1.heap.size) [.int .i64 a1, .int .i64 a2, .int .i64 a3, .int .i64 a4, .int .i64 a5, .int .i64 a6, .int .i64 a7, .int .i64 a8, .int .i64 a9, .int .i64 a10, .int .i64 a11, .int .i64 a12] := Blk.keep hb (by repeat' (first | (with_reducible first | assumption | refine Blk.drew ?_ | refine Blk.drewN ?_ _ | apply Blk.set | (refine Blk.new ?_; focus (first | rfl | (simp; done))) | refine Blk.alloc ?_ _ | refine Blk.other ?_ ?_ _) | exact eqL rfl | (refine neB ?_; omega)))
  have cm := Bm.cell
  have fm := Bm.free
  have lm_W2 := Bm.lt
  have kaW2 : Acc w W2 := by
    refine Acc.call ?_ hb
    (repeat' (first | (with_reducible first | assumption | exact Acc.refl _ | refine Acc.drew ?_ | refine Acc.drewN ?_ _ | refine Acc.alloc ?_ _ | refine Acc.setCell ?_ ?_ _) | (refine leB ?_; omega)))
  clear hb
  cases km with
  | false =>
    obtain rfl : o = false := HE.out.symm.trans (samM_1 (M2.out rfl))
    go_wp2_with fail
    go_ret
    refine ⟨rfl, ?_⟩
    show Acc w _
    (repeat' (first | (with_reducible first | assumption | exact Acc.refl _ | refine Acc.drew ?_ | refine Acc.drewN ?_ _ | refine Acc.alloc ?_ _ | refine Acc.setCell ?_ ?_ _) | (refine leB ?_; omega)))
  | true =>
    cases kn with
    | false =>
      obtain rfl : o = false := HE.out.symm.trans (samM_2 (N2.out rfl))
      go_wp2_with fail
      go_ret
      refine ⟨rfl, ?_⟩
      show Acc w _
      (repeat' (first | (with_reducible first | assumption | exact Acc.refl _ | refine Acc.drew ?_ | refine Acc.drewN ?_ _ | refine Acc.alloc ?_ _ | refine Acc.setCell ?_ ?_ _) | (refine leB ?_; omega)))
    | true =>
      obtain rfl : alkM ((a1, a2, a3), (a4, a5, a6), (a7, a8, a9), (a10, a11, a12)) ((b1, b2, b3), (b4, b5, b6), (b7, b8, b9), (b10, b11, b12)) = o := (samM_3 (M1.out rfl) (N1.out rfl)).symm.trans HE.out
      clear HE
      go_wp2_with fail
      refine (specMAlike_any a1 a2 a3 a4 a5 a6 a7 a8 a9 a10 a11 a12 b1 b2 b3 b4 b5 b6 b7 b8 b9 b10 b11 b12 _).mono ?_
      rintro e W3 ⟨rfl, hb⟩
      obtain ⟨Bm, Bn⟩ : Blk W3 (W1.heap.size) [.int .i64 a1, .int .i64 a2, .int .i64 a3, .int .i64 a4, .int .i64 a5, .int .i64 a6, .int .i64 a7, .int .i64 a8, .int .i64 a9, .int .i64 a10, .int .i64 a11, .int .i64 a12] ∧ Blk W3 (W2.heap.size) [.int .i64 b1, .int .i64 b2, .int .i64 b3, .int .i64 b4, .int .i64 b5, .int .i64 b6, .int .i64 b7, .int .i64 b8, .int .i64 b9, .int .i64 b10, .int .i64 b11, .int .i64 b12] := by
        refine ⟨?_, ?_⟩ <;> refine Blk.keep hb ?_ <;> (repeat' (first | (with_reducible first | assumption | refine Blk.drew ?_ | refine Blk.drewN ?_ _ | apply Blk.set | (refine Blk.new ?_; focus (first | rfl | (simp; done))) | refine Blk.alloc ?_ _ | refine Blk.other ?_ ?_ _) | exact eqL rfl | (refine neB ?_; omega)))
      have cm := Bm.cell
      have fm := Bm.free
      have lm_W3 := Bm.lt
      have cn := Bn.cell
      have fn := Bn.free
      have ln_W3 := Bn.lt
      have kaW3 : Acc w W3 := by
        refine Acc.call ?_ hb
        (repeat' (first | (with_reducible first | assumption | exact Acc.refl _ | refine Acc.drew ?_ | refine Acc.drewN ?_ _ | refine Acc.alloc ?_ _ | refine Acc.setCell ?_ ?_ _) | (refine leB ?_; omega)))
      clear hb
      go_wp2_with fail
      go_ret
      refine ⟨rfl, ?_⟩
      show Acc w _
      (repeat' (first | (with_reducible first | assumption | exact Acc.refl _ | refine Acc.drew ?_ | refine Acc.drewN ?_ _ | refine Acc.alloc ?_ _ | refine Acc.setCell ?_ ?_ _) | (refine leB ?_; omega)))
end Go.Proofs.YtdagcjohpmolpaaDoor
