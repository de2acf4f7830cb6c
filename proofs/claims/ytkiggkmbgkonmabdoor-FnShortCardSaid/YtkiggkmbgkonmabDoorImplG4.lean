/-
  The program's fibres: a section's matrix behind another.
-/
import Derived.Test.YtkiggkmbgkonmabDoorImplG2
import Derived.Test.YtkiggkmbgkonmabDoorImplM2
import Derived.Test.YtkiggkmbgkonmabDoorBFib
import Derived.Test.YtkiggkmbgkonmabDoorBMath
namespace Go.Proofs.YtkiggkmbgkonmabDoor
open Go.ChangeShapes Go.WideShapes Go.ChangeAt Go.RowKit
set_option linter.unusedVariables false

set_option linter.unusedSimpArgs false
theorem i64N_of {A : F4} (h : okM A = true) : i64B A.1.1 ∧ i64B A.1.2.1 ∧ i64B A.1.2.2 ∧ i64B A.2.1.1 ∧ i64B A.2.1.2.1 ∧ i64B A.2.1.2.2 ∧ i64B A.2.2.1.1 ∧ i64B A.2.2.1.2.1 ∧ i64B A.2.2.1.2.2 ∧ i64B A.2.2.2.1 ∧ i64B A.2.2.2.2.1 ∧ i64B A.2.2.2.2.2 := by
  obtain ⟨a, b, c, d⟩ := A
  obtain ⟨h1, h2, h3, h4⟩ := okM_of h
  obtain ⟨a1, a2, a3⟩ := okF_i64 h1
  obtain ⟨b1, b2, b3⟩ := okF_i64 h2
  obtain ⟨c1, c2, c3⟩ := okF_i64 h3
  obtain ⟨d1, d2, d3⟩ := okF_i64 h4
  exact ⟨a1, a2, a3, b1, b2, b3, c1, c2, c3, d1, d2, d3⟩
theorem mxT_any (a1 a2 a3 a4 a5 a6 a7 a8 a9 a10 a11 a12 b1 b2 b3 b4 b5 b6 b7 b8 b9 b10 b11 b12 : Int) (hA : okM ((a1, a2, a3), (a4, a5, a6), (a7, a8, a9), (a10, a11, a12)) = true) (hB : okM ((b1, b2, b3), (b4, b5, b6), (b7, b8, b9), (b10, b11, b12)) = true) (w : World) : Calls Tryd.prog 68 #[.agg #[.int .i64 a1, .int .i64 a2, .int .i64 a3, .int .i64 a4, .int .i64 a5, .int .i64 a6, .int .i64 a7, .int .i64 a8, .int .i64 a9, .int .i64 a10, .int .i64 a11, .int .i64 a12], .agg #[.int .i64 b1, .int .i64 b2, .int .i64 b3, .int .i64 b4, .int .i64 b5, .int .i64 b6, .int .i64 b7, .int .i64 b8, .int .i64 b9, .int .i64 b10, .int .i64 b11, .int .i64 b12]] w (Erred12 (mulM ((a1, a2, a3), (a4, a5, a6), (a7, a8, a9), (a10, a11, a12)) ((b1, b2, b3), (b4, b5, b6), (b7, b8, b9), (b10, b11, b12))) w) := by
  obtain ⟨ha1, ha2, ha3, ha4, ha5, ha6, ha7, ha8, ha9, ha10, ha11, ha12⟩ := i64N_of hA
  obtain ⟨hb1, hb2, hb3, hb4, hb5, hb6, hb7, hb8, hb9, hb10, hb11, hb12⟩ := i64N_of hB
  exact mxtimes_any a1 a2 a3 a4 a5 a6 a7 a8 a9 a10 a11 a12 b1 b2 b3 b4 b5 b6 b7 b8 b9 b10 b11 b12 ha1 ha2 ha3 ha4 ha5 ha6 ha7 ha8 ha9 ha10 ha11 ha12 hb1 hb2 hb3 hb4 hb5 hb6 hb7 hb8 hb9 hb10 hb11 hb12 w
/-- A plate's element, its phase's block under a letter. -/
theorem plateE_any (k : Int) (w : World) : Calls Tryd.prog 67 #[.int .i64 k] w fun e w' => ∃ kb : Nat, w.heap.size ≤ kb ∧ e = .returned (.agg #[.func (.func 76) #[] #[.pointer (some ⟨kb, 0, none⟩)]]) ∧ Blk w' kb [.int .i64 k] ∧ Below w.heap.size w w' :=
  (plate_any k w).mono fun e w' h => ⟨w.heap.size, Nat.le_refl _, h.1, h.2.1, h.2.2⟩
set_option maxRecDepth 100000 in
set_option maxHeartbeats 16000000 in
theorem behind_any (n1 n2 n3 : Int) (t : Nat) (a1 a2 a3 a4 a5 a6 a7 a8 a9 a10 a11 a12 : Int) (hd : dirB n1 n2 = true) (ht : (t : Int) ≤ 50) (hA : okM ((a1, a2, a3), (a4, a5, a6), (a7, a8, a9), (a10, a11, a12)) = true) (w : World) : Calls Tryd.prog 54 #[.agg #[.int .i64 n1, .int .i64 n2, .int .i64 n3, .int .i64 (t : Int)], .agg #[.int .i64 a1, .int .i64 a2, .int .i64 a3, .int .i64 a4, .int .i64 a5, .int .i64 a6, .int .i64 a7, .int .i64 a8, .int .i64 a9, .int .i64 a10, .int .i64 a11, .int .i64 a12]] w (Erred12 (secM ((n1, n2, n3), (t : Int)) ((a1, a2, a3), (a4, a5, a6), (a7, a8, a9), (a10, a11, a12))) w) := by
  have T := Lib.hid fun kb (W : World) (B : Blk W kb [.int .i64 n3]) => turnP_any kb n1 n2 n3 hd W B
  clear hd
  have HA := Lib.hid hA
  clear hA
  obtain ⟨o, E⟩ : ∃ o, secM ((n1, n2, n3), (t : Int)) ((a1, a2, a3), (a4, a5, a6), (a7, a8, a9), (a10, a11, a12)) = o := ⟨_, rfl⟩
  rw [E]
  have HE := Lib.hid E
  clear E
  cases hp : plaM n1 n2 n3 with
  | none =>
    have D := Lib.hid fun kb W B => (T.out kb W B).mono fun e w' h => And.intro (h.2.1 hp) h.2.2
    have HP := Lib.hid hp
    clear hp T
    obtain rfl : o = none := HE.out.symm.trans (by unfold secM; rw [HP.out]; rfl)
    go_enter Tryd.func54, Tryd.ntmps54
    go_upto_region 1 with fail
    go_region_held3 (fun w' => (∀ k, w'.cell? ⟨w.heap.size, k, none⟩ = [.int .i64 n1, .int .i64 n2, .int .i64 n3, .int .i64 (t : Int)][k]?))
      (((try dsimp only); (refine Blk.cell ?_ <;> (repeat' (first | (with_reducible first | assumption | refine Blk.drew ?_ | refine Blk.drewN ?_ _ | apply Blk.set | (refine Blk.new ?_; focus (first | rfl | (simp; done))) | refine Blk.alloc ?_ _ | refine Blk.other ?_ ?_ _) | exact eqL rfl | (refine neB ?_; omega))))))
      (first
        | (go_at_call 67; refine (plateE_any n3 _).mono ?_; rintro e W8 ⟨kb, hkb, rfl, Bk, hb⟩; (try (refine with_fact (A := Blk W8 (w.heap.size + 1 + 1 + 1) [.int .i64 0, .int .i64 0, .int .i64 0, .int .i64 0, .int .i64 0, .int .i64 0, .int .i64 0, .int .i64 0, .int .i64 0, .int .i64 0, .int .i64 0, .int .i64 0]) ?_ ?_; (focus (refine Blk.keep hb ?_; (repeat' (first | (with_reducible first | assumption | refine Blk.drew ?_ | refine Blk.drewN ?_ _ | apply Blk.set | (refine Blk.new ?_; focus (first | rfl | (simp; done))) | refine Blk.alloc ?_ _ | refine Blk.other ?_ ?_ _) | exact eqL rfl | (refine neB ?_; omega))); done)); intro Bz1; have cz1 := Bz1.cell; have fz1 := Bz1.free; have lz1 := Bz1.lt)); have Bs : Blk W8 (w.heap.size) [.int .i64 n1, .int .i64 n2, .int .i64 n3, .int .i64 (t : Int)] := Blk.keep hb (by repeat' (first | (with_reducible first | assumption | refine Blk.drew ?_ | refine Blk.drewN ?_ _ | apply Blk.set | (refine Blk.new ?_; focus (first | rfl | (simp; done))) | refine Blk.alloc ?_ _ | refine Blk.other ?_ ?_ _) | exact eqL rfl | (refine neB ?_; omega))); have Bo : Blk W8 (w.heap.size + 1) [.int .i64 a1, .int .i64 a2, .int .i64 a3, .int .i64 a4, .int .i64 a5, .int .i64 a6, .int .i64 a7, .int .i64 a8, .int .i64 a9, .int .i64 a10, .int .i64 a11, .int .i64 a12] := Blk.keep hb (by repeat' (first | (with_reducible first | assumption | refine Blk.drew ?_ | refine Blk.drewN ?_ _ | apply Blk.set | (refine Blk.new ?_; focus (first | rfl | (simp; done))) | refine Blk.alloc ?_ _ | refine Blk.other ?_ ?_ _) | exact eqL rfl | (refine neB ?_; omega))); have Br : Blk W8 (w.heap.size + 1 + 1) [.int .i64 0, .int .i64 0, .int .i64 0, .int .i64 0, .int .i64 0, .int .i64 0, .int .i64 0, .int .i64 0, .int .i64 0, .int .i64 0, .int .i64 0, .int .i64 0] := Blk.keep hb (by repeat' (first | (with_reducible first | assumption | refine Blk.drew ?_ | refine Blk.drewN ?_ _ | apply Blk.set | (refine Blk.new ?_; focus (first | rfl | (simp; done))) | refine Blk.alloc ?_ _ | refine Blk.other ?_ ?_ _) | exact eqL rfl | (refine neB ?_; omega))); have cs := Bs.cell; have fs := Bs.free; have ls_W8 := Bs.lt; have co := Bo.cell; have fo := Bo.free; have lo_W8 := Bo.lt; have cr := Br.cell; have fr := Br.free; have lr_W8 := Br.lt; have kaW8 : Acc w W8 := (by refine Acc.call ?_ hb; (repeat' (first | (with_reducible first | assumption | exact Acc.refl _ | refine Acc.drew ?_ | refine Acc.drewN ?_ _ | refine Acc.alloc ?_ _ | refine Acc.setCell ?_ ?_ _) | (refine leB ?_; omega)))); clear hb)
        | (go_at_call 41; refine (D.out _ _ (by repeat' (first | (with_reducible first | assumption | refine Blk.drew ?_ | refine Blk.drewN ?_ _ | apply Blk.set | (refine Blk.new ?_; focus (first | rfl | (simp; done))) | refine Blk.alloc ?_ _ | refine Blk.other ?_ ?_ _) | exact eqL rfl | (refine neB ?_; omega)))).mono ?_; rintro e W9 ⟨⟨s, rfl⟩, hb⟩; (try (refine with_fact (A := Blk W9 (w.heap.size + 1 + 1 + 1) [.int .i64 0, .int .i64 0, .int .i64 0, .int .i64 0, .int .i64 0, .int .i64 0, .int .i64 0, .int .i64 0, .int .i64 0, .int .i64 0, .int .i64 0, .int .i64 0]) ?_ ?_; (focus (refine Blk.keep hb ?_; (repeat' (first | (with_reducible first | assumption | refine Blk.drew ?_ | refine Blk.drewN ?_ _ | apply Blk.set | (refine Blk.new ?_; focus (first | rfl | (simp; done))) | refine Blk.alloc ?_ _ | refine Blk.other ?_ ?_ _) | exact eqL rfl | (refine neB ?_; omega))); done)); intro Bz2; have cz2 := Bz2.cell; have fz2 := Bz2.free; have lz2 := Bz2.lt)); (try (refine with_fact (A := Blk W9 (W8.heap.size) [.int .i64 0, .int .i64 0, .int .i64 0, .int .i64 0, .int .i64 0, .int .i64 0, .int .i64 0, .int .i64 0, .int .i64 0, .int .i64 0, .int .i64 0, .int .i64 0]) ?_ ?_; (focus (refine Blk.keep hb ?_; (repeat' (first | (with_reducible first | assumption | refine Blk.drew ?_ | refine Blk.drewN ?_ _ | apply Blk.set | (refine Blk.new ?_; focus (first | rfl | (simp; done))) | refine Blk.alloc ?_ _ | refine Blk.other ?_ ?_ _) | exact eqL rfl | (refine neB ?_; omega))); done)); intro Bz3; have cz3 := Bz3.cell; have fz3 := Bz3.free; have lz3 := Bz3.lt)); have Bs : Blk W9 (w.heap.size) [.int .i64 n1, .int .i64 n2, .int .i64 n3, .int .i64 (t : Int)] := Blk.keep hb (by repeat' (first | (with_reducible first | assumption | refine Blk.drew ?_ | refine Blk.drewN ?_ _ | apply Blk.set | (refine Blk.new ?_; focus (first | rfl | (simp; done))) | refine Blk.alloc ?_ _ | refine Blk.other ?_ ?_ _) | exact eqL rfl | (refine neB ?_; omega))); have Bo : Blk W9 (w.heap.size + 1) [.int .i64 a1, .int .i64 a2, .int .i64 a3, .int .i64 a4, .int .i64 a5, .int .i64 a6, .int .i64 a7, .int .i64 a8, .int .i64 a9, .int .i64 a10, .int .i64 a11, .int .i64 a12] := Blk.keep hb (by repeat' (first | (with_reducible first | assumption | refine Blk.drew ?_ | refine Blk.drewN ?_ _ | apply Blk.set | (refine Blk.new ?_; focus (first | rfl | (simp; done))) | refine Blk.alloc ?_ _ | refine Blk.other ?_ ?_ _) | exact eqL rfl | (refine neB ?_; omega))); have Br : Blk W9 (w.heap.size + 1 + 1) [.int .i64 0, .int .i64 0, .int .i64 0, .int .i64 0, .int .i64 0, .int .i64 0, .int .i64 0, .int .i64 0, .int .i64 0, .int .i64 0, .int .i64 0, .int .i64 0] := Blk.keep hb (by repeat' (first | (with_reducible first | assumption | refine Blk.drew ?_ | refine Blk.drewN ?_ _ | apply Blk.set | (refine Blk.new ?_; focus (first | rfl | (simp; done))) | refine Blk.alloc ?_ _ | refine Blk.other ?_ ?_ _) | exact eqL rfl | (refine neB ?_; omega))); have cs := Bs.cell; have fs := Bs.free; have ls_W9 := Bs.lt; have co := Bo.cell; have fo := Bo.free; have lo_W9 := Bo.lt; have cr := Br.cell; have fr := Br.free; have lr_W9 := Br.lt; have kaW9 : Acc w W9 := (by refine Acc.call ?_ hb; (repeat' (first | (with_reducible first | assumption | exact Acc.refl _ | refine Acc.drew ?_ | refine Acc.drewN ?_ _ | refine Acc.alloc ?_ _ | refine Acc.setCell ?_ ?_ _) | (refine leB ?_; omega)))); clear hb))
    all_goals
      go_wp2_with fail
      refine bodyPost_ret (v := .tuple #[.agg #[.int .i64 0, .int .i64 0, .int .i64 0, .int .i64 0, .int .i64 0, .int .i64 0, .int .i64 0, .int .i64 0, .int .i64 0, .int .i64 0, .int .i64 0, .int .i64 0], .iface 83 (.agg #[.string s])]) (by simp [results, Tryd.results54, go_sem, *]) rfl ⟨fun _ _ _ _ _ _ _ _ _ _ _ _ h => (by cases h), fun _ => ⟨_, rfl⟩, ?_⟩
      show Acc w _
      (repeat' (first | (with_reducible first | assumption | exact Acc.refl _ | refine Acc.drew ?_ | refine Acc.drewN ?_ _ | refine Acc.alloc ?_ _ | refine Acc.setCell ?_ ?_ _) | (refine leB ?_; omega)))
  | some v =>
    obtain ⟨⟨p1, p2, p3⟩, ⟨p4, p5, p6⟩, ⟨p7, p8, p9⟩, p10, p11, p12⟩ := v
    have D := Lib.hid fun kb W B => (T.out kb W B).mono fun e w' h => And.intro (h.1 _ _ _ _ _ _ _ _ _ _ _ _ hp) h.2.2
    have HP := Lib.hid hp
    clear hp T
    have HF : RowKit.Hid (pwM ((p1, p2, p3), (p4, p5, p6), (p7, p8, p9), (p10, p11, p12)) t ((a1, a2, a3), (a4, a5, a6), (a7, a8, a9), (a10, a11, a12)) = o) := Lib.hid (HE.out.symm.trans (by unfold secM; rw [HP.out]; rfl)).symm
    have OP := Lib.hid (pla_some HP.out).2.2
    clear HE HP
    go_enter Tryd.func54, Tryd.ntmps54
    go_upto_region 1 with fail
    go_cut [6, 7] (fun s6 s7 wx => ∃ pm1x : Nat, s6 = .pointer (some ⟨pm1x, 0, none⟩) ∧ s7 = .nilIface ∧ Blk wx (pm1x) [.int .i64 p1, .int .i64 p2, .int .i64 p3, .int .i64 p4, .int .i64 p5, .int .i64 p6, .int .i64 p7, .int .i64 p8, .int .i64 p9, .int .i64 p10, .int .i64 p11, .int .i64 p12] ∧ Blk wx (w.heap.size) [.int .i64 n1, .int .i64 n2, .int .i64 n3, .int .i64 (t : Int)] ∧ Blk wx (w.heap.size + 1) [.int .i64 a1, .int .i64 a2, .int .i64 a3, .int .i64 a4, .int .i64 a5, .int .i64 a6, .int .i64 a7, .int .i64 a8, .int .i64 a9, .int .i64 a10, .int .i64 a11, .int .i64 a12] ∧ Blk wx (w.heap.size + 1 + 1) [.int .i64 0, .int .i64 0, .int .i64 0, .int .i64 0, .int .i64 0, .int .i64 0, .int .i64 0, .int .i64 0, .int .i64 0, .int .i64 0, .int .i64 0, .int .i64 0] ∧ w.heap.size < pm1x ∧ w.heap.size + 1 < pm1x ∧ w.heap.size + 1 + 1 < pm1x ∧ Acc w wx)
    case first =>
      go_region_held3 (fun w' => (∀ k, w'.cell? ⟨w.heap.size, k, none⟩ = [.int .i64 n1, .int .i64 n2, .int .i64 n3, .int .i64 (t : Int)][k]?))
        (((try dsimp only); (refine Blk.cell ?_ <;> (repeat' (first | (with_reducible first | assumption | refine Blk.drew ?_ | refine Blk.drewN ?_ _ | apply Blk.set | (refine Blk.new ?_; focus (first | rfl | (simp; done))) | refine Blk.alloc ?_ _ | refine Blk.other ?_ ?_ _) | exact eqL rfl | (refine neB ?_; omega))))))
        (first
          | (go_at_call 67; refine (plateE_any n3 _).mono ?_; rintro e W8 ⟨kb, hkb, rfl, Bk, hb⟩; (try (refine with_fact (A := Blk W8 (w.heap.size + 1 + 1 + 1) [.int .i64 0, .int .i64 0, .int .i64 0, .int .i64 0, .int .i64 0, .int .i64 0, .int .i64 0, .int .i64 0, .int .i64 0, .int .i64 0, .int .i64 0, .int .i64 0]) ?_ ?_; (focus (refine Blk.keep hb ?_; (repeat' (first | (with_reducible first | assumption | refine Blk.drew ?_ | refine Blk.drewN ?_ _ | apply Blk.set | (refine Blk.new ?_; focus (first | rfl | (simp; done))) | refine Blk.alloc ?_ _ | refine Blk.other ?_ ?_ _) | exact eqL rfl | (refine neB ?_; omega))); done)); intro Bz1; have cz1 := Bz1.cell; have fz1 := Bz1.free; have lz1 := Bz1.lt)); have Bs : Blk W8 (w.heap.size) [.int .i64 n1, .int .i64 n2, .int .i64 n3, .int .i64 (t : Int)] := Blk.keep hb (by repeat' (first | (with_reducible first | assumption | refine Blk.drew ?_ | refine Blk.drewN ?_ _ | apply Blk.set | (refine Blk.new ?_; focus (first | rfl | (simp; done))) | refine Blk.alloc ?_ _ | refine Blk.other ?_ ?_ _) | exact eqL rfl | (refine neB ?_; omega))); have Bo : Blk W8 (w.heap.size + 1) [.int .i64 a1, .int .i64 a2, .int .i64 a3, .int .i64 a4, .int .i64 a5, .int .i64 a6, .int .i64 a7, .int .i64 a8, .int .i64 a9, .int .i64 a10, .int .i64 a11, .int .i64 a12] := Blk.keep hb (by repeat' (first | (with_reducible first | assumption | refine Blk.drew ?_ | refine Blk.drewN ?_ _ | apply Blk.set | (refine Blk.new ?_; focus (first | rfl | (simp; done))) | refine Blk.alloc ?_ _ | refine Blk.other ?_ ?_ _) | exact eqL rfl | (refine neB ?_; omega))); have Br : Blk W8 (w.heap.size + 1 + 1) [.int .i64 0, .int .i64 0, .int .i64 0, .int .i64 0, .int .i64 0, .int .i64 0, .int .i64 0, .int .i64 0, .int .i64 0, .int .i64 0, .int .i64 0, .int .i64 0] := Blk.keep hb (by repeat' (first | (with_reducible first | assumption | refine Blk.drew ?_ | refine Blk.drewN ?_ _ | apply Blk.set | (refine Blk.new ?_; focus (first | rfl | (simp; done))) | refine Blk.alloc ?_ _ | refine Blk.other ?_ ?_ _) | exact eqL rfl | (refine neB ?_; omega))); have cs := Bs.cell; have fs := Bs.free; have ls_W8 := Bs.lt; have co := Bo.cell; have fo := Bo.free; have lo_W8 := Bo.lt; have cr := Br.cell; have fr := Br.free; have lr_W8 := Br.lt; have kaW8 : Acc w W8 := (by refine Acc.call ?_ hb; (repeat' (first | (with_reducible first | assumption | exact Acc.refl _ | refine Acc.drew ?_ | refine Acc.drewN ?_ _ | refine Acc.alloc ?_ _ | refine Acc.setCell ?_ ?_ _) | (refine leB ?_; omega)))); clear hb)
          | (go_at_call 41; refine (D.out _ _ (by repeat' (first | (with_reducible first | assumption | refine Blk.drew ?_ | refine Blk.drewN ?_ _ | apply Blk.set | (refine Blk.new ?_; focus (first | rfl | (simp; done))) | refine Blk.alloc ?_ _ | refine Blk.other ?_ ?_ _) | exact eqL rfl | (refine neB ?_; omega)))).mono ?_; rintro e W9 ⟨rfl, hb⟩; (try (refine with_fact (A := Blk W9 (w.heap.size + 1 + 1 + 1) [.int .i64 0, .int .i64 0, .int .i64 0, .int .i64 0, .int .i64 0, .int .i64 0, .int .i64 0, .int .i64 0, .int .i64 0, .int .i64 0, .int .i64 0, .int .i64 0]) ?_ ?_; (focus (refine Blk.keep hb ?_; (repeat' (first | (with_reducible first | assumption | refine Blk.drew ?_ | refine Blk.drewN ?_ _ | apply Blk.set | (refine Blk.new ?_; focus (first | rfl | (simp; done))) | refine Blk.alloc ?_ _ | refine Blk.other ?_ ?_ _) | exact eqL rfl | (refine neB ?_; omega))); done)); intro Bz2; have cz2 := Bz2.cell; have fz2 := Bz2.free; have lz2 := Bz2.lt)); (try (refine with_fact (A := Blk W9 (W8.heap.size) [.int .i64 0, .int .i64 0, .int .i64 0, .int .i64 0, .int .i64 0, .int .i64 0, .int .i64 0, .int .i64 0, .int .i64 0, .int .i64 0, .int .i64 0, .int .i64 0]) ?_ ?_; (focus (refine Blk.keep hb ?_; (repeat' (first | (with_reducible first | assumption | refine Blk.drew ?_ | refine Blk.drewN ?_ _ | apply Blk.set | (refine Blk.new ?_; focus (first | rfl | (simp; done))) | refine Blk.alloc ?_ _ | refine Blk.other ?_ ?_ _) | exact eqL rfl | (refine neB ?_; omega))); done)); intro Bz3; have cz3 := Bz3.cell; have fz3 := Bz3.free; have lz3 := Bz3.lt)); have Bs : Blk W9 (w.heap.size) [.int .i64 n1, .int .i64 n2, .int .i64 n3, .int .i64 (t : Int)] := Blk.keep hb (by repeat' (first | (with_reducible first | assumption | refine Blk.drew ?_ | refine Blk.drewN ?_ _ | apply Blk.set | (refine Blk.new ?_; focus (first | rfl | (simp; done))) | refine Blk.alloc ?_ _ | refine Blk.other ?_ ?_ _) | exact eqL rfl | (refine neB ?_; omega))); have Bo : Blk W9 (w.heap.size + 1) [.int .i64 a1, .int .i64 a2, .int .i64 a3, .int .i64 a4, .int .i64 a5, .int .i64 a6, .int .i64 a7, .int .i64 a8, .int .i64 a9, .int .i64 a10, .int .i64 a11, .int .i64 a12] := Blk.keep hb (by repeat' (first | (with_reducible first | assumption | refine Blk.drew ?_ | refine Blk.drewN ?_ _ | apply Blk.set | (refine Blk.new ?_; focus (first | rfl | (simp; done))) | refine Blk.alloc ?_ _ | refine Blk.other ?_ ?_ _) | exact eqL rfl | (refine neB ?_; omega))); have Br : Blk W9 (w.heap.size + 1 + 1) [.int .i64 0, .int .i64 0, .int .i64 0, .int .i64 0, .int .i64 0, .int .i64 0, .int .i64 0, .int .i64 0, .int .i64 0, .int .i64 0, .int .i64 0, .int .i64 0] := Blk.keep hb (by repeat' (first | (with_reducible first | assumption | refine Blk.drew ?_ | refine Blk.drewN ?_ _ | apply Blk.set | (refine Blk.new ?_; focus (first | rfl | (simp; done))) | refine Blk.alloc ?_ _ | refine Blk.other ?_ ?_ _) | exact eqL rfl | (refine neB ?_; omega))); have cs := Bs.cell; have fs := Bs.free; have ls_W9 := Bs.lt; have co := Bo.cell; have fo := Bo.free; have lo_W9 := Bo.lt; have cr := Br.cell; have fr := Br.free; have lr_W9 := Br.lt; have kaW9 : Acc w W9 := (by refine Acc.call ?_ hb; (repeat' (first | (with_reducible first | assumption | exact Acc.refl _ | refine Acc.drew ?_ | refine Acc.drewN ?_ _ | refine Acc.alloc ?_ _ | refine Acc.setCell ?_ ?_ _) | (refine leB ?_; omega)))); clear hb))
      all_goals
        go_wp2_with fail
      all_goals
        go_meet
        refine ⟨_, rfl, rfl, ?_⟩
        and_intros
        all_goals
          first
            | ((repeat' (first | (with_reducible first | assumption | refine Blk.drew ?_ | refine Blk.drewN ?_ _ | apply Blk.set | (refine Blk.new ?_; focus (first | rfl | (simp; done))) | refine Blk.alloc ?_ _ | refine Blk.other ?_ ?_ _) | exact eqL rfl | (refine neB ?_; omega))); done)
            | ((show Acc w _); (repeat' (first | (with_reducible first | assumption | exact Acc.refl _ | refine Acc.drew ?_ | refine Acc.drewN ?_ _ | refine Acc.alloc ?_ _ | refine Acc.setCell ?_ ?_ _) | (refine leB ?_; omega))); done)
            | (refine leB ?_; omega)
    case rest =>
      obtain ⟨pm1x, rfl, rfl, Bm, Bs, Bo, Br, low3_0, low3_1, low3_2, kawc⟩ := hcut
      have cm := Bm.cell
      have fm := Bm.free
      have lm_wc := Bm.lt
      have cs := Bs.cell
      have fs := Bs.free
      have ls_wc := Bs.lt
      have co := Bo.cell
      have fo := Bo.free
      have lo_wc := Bo.lt
      have cr := Br.cell
      have fr := Br.free
      have lr_wc := Br.lt
      go_wp2_with fail
      go_loopw [25] (fun i wr => ∃ (j : Nat) (B : F4), i = .int .i64 j ∧ j ≤ t ∧ Acc w wr ∧ Blk wr (w.heap.size) [.int .i64 n1, .int .i64 n2, .int .i64 n3, .int .i64 (t : Int)] ∧ Blk wr (w.heap.size + 1) [.int .i64 B.1.1, .int .i64 B.1.2.1, .int .i64 B.1.2.2, .int .i64 B.2.1.1, .int .i64 B.2.1.2.1, .int .i64 B.2.1.2.2, .int .i64 B.2.2.1.1, .int .i64 B.2.2.1.2.1, .int .i64 B.2.2.1.2.2, .int .i64 B.2.2.2.1, .int .i64 B.2.2.2.2.1, .int .i64 B.2.2.2.2.2] ∧ Blk wr (w.heap.size + 1 + 1) [.int .i64 0, .int .i64 0, .int .i64 0, .int .i64 0, .int .i64 0, .int .i64 0, .int .i64 0, .int .i64 0, .int .i64 0, .int .i64 0, .int .i64 0, .int .i64 0] ∧ Blk wr pm1x [.int .i64 p1, .int .i64 p2, .int .i64 p3, .int .i64 p4, .int .i64 p5, .int .i64 p6, .int .i64 p7, .int .i64 p8, .int .i64 p9, .int .i64 p10, .int .i64 p11, .int .i64 p12] ∧ okM B = true ∧ pwM ((p1, p2, p3), (p4, p5, p6), (p7, p8, p9), (p10, p11, p12)) j ((a1, a2, a3), (a4, a5, a6), (a7, a8, a9), (a10, a11, a12)) = some B) (fun i _ => t - (intOf i).toNat)
      case atStart => exact ⟨0, ((a1, a2, a3), (a4, a5, a6), (a7, a8, a9), (a10, a11, a12)), rfl, Nat.zero_le _, ‹Acc w _›, ‹Blk _ (w.heap.size) _›, ‹Blk _ (w.heap.size + 1) _›, ‹Blk _ (w.heap.size + 1 + 1) _›, ‹Blk _ pm1x _›, HA.out, rfl⟩
      case round =>
        clear Bs cs fs Bo co fo Br cr fr Bm cm fm
        obtain ⟨j, B, rfl, hj, ka, Bs, Bo, Br, Bm, hB, hm⟩ := hrel
        obtain ⟨⟨b1, b2, b3⟩, ⟨b4, b5, b6⟩, ⟨b7, b8, b9⟩, b10, b11, b12⟩ := B
        dsimp only at Bo
        have HB := Lib.hid hB
        have HX := Lib.hid hm
        clear hm hB
        have cs := Bs.cell
        have fs := Bs.free
        have ls_wr := Bs.lt
        have co := Bo.cell
        have fo := Bo.free
        have lo_wr := Bo.lt
        have cr := Br.cell
        have fr := Br.free
        have lr_wr := Br.lt
        have cm := Bm.cell
        have fm := Bm.free
        have lm_wr := Bm.lt
        have T := Lib.hid fun w => mxT_any p1 p2 p3 p4 p5 p6 p7 p8 p9 p10 p11 p12 b1 b2 b3 b4 b5 b6 b7 b8 b9 b10 b11 b12 OP.out HB.out w
        have HY : RowKit.Hid (pwM ((p1, p2, p3), (p4, p5, p6), (p7, p8, p9), (p10, p11, p12)) (j + 1) ((a1, a2, a3), (a4, a5, a6), (a7, a8, a9), (a10, a11, a12)) = mulM ((p1, p2, p3), (p4, p5, p6), (p7, p8, p9), (p10, p11, p12)) ((b1, b2, b3), (b4, b5, b6), (b7, b8, b9), (b10, b11, b12))) := Lib.hid (pwM_succ HX.out)
        have hj0 : (0 : Int) ≤ (j : Int) := by omega
        by_cases hlt : j < t
        ·
          have hj1 : j + 1 ≤ t := hlt
          have hj2 : (j : Int) < (t : Int) := by omega
          go_wp2_with fail
          refine (T.out _).mono ?_
          rintro e W1 ⟨h1, h2, hb⟩
          have Bs : Blk W1 (w.heap.size) [.int .i64 n1, .int .i64 n2, .int .i64 n3, .int .i64 (t : Int)] := Blk.keep hb (by repeat' (first | (with_reducible first | assumption | refine Blk.drew ?_ | refine Blk.drewN ?_ _ | apply Blk.set | (refine Blk.new ?_; focus (first | rfl | (simp; done))) | refine Blk.alloc ?_ _ | refine Blk.other ?_ ?_ _) | exact eqL rfl | (refine neB ?_; omega)))
          have Bo : Blk W1 (w.heap.size + 1) [.int .i64 b1, .int .i64 b2, .int .i64 b3, .int .i64 b4, .int .i64 b5, .int .i64 b6, .int .i64 b7, .int .i64 b8, .int .i64 b9, .int .i64 b10, .int .i64 b11, .int .i64 b12] := Blk.keep hb (by repeat' (first | (with_reducible first | assumption | refine Blk.drew ?_ | refine Blk.drewN ?_ _ | apply Blk.set | (refine Blk.new ?_; focus (first | rfl | (simp; done))) | refine Blk.alloc ?_ _ | refine Blk.other ?_ ?_ _) | exact eqL rfl | (refine neB ?_; omega)))
          have Br : Blk W1 (w.heap.size + 1 + 1) [.int .i64 0, .int .i64 0, .int .i64 0, .int .i64 0, .int .i64 0, .int .i64 0, .int .i64 0, .int .i64 0, .int .i64 0, .int .i64 0, .int .i64 0, .int .i64 0] := Blk.keep hb (by repeat' (first | (with_reducible first | assumption | refine Blk.drew ?_ | refine Blk.drewN ?_ _ | apply Blk.set | (refine Blk.new ?_; focus (first | rfl | (simp; done))) | refine Blk.alloc ?_ _ | refine Blk.other ?_ ?_ _) | exact eqL rfl | (refine neB ?_; omega)))
          have Bm : Blk W1 (pm1x) [.int .i64 p1, .int .i64 p2, .int .i64 p3, .int .i64 p4, .int .i64 p5, .int .i64 p6, .int .i64 p7, .int .i64 p8, .int .i64 p9, .int .i64 p10, .int .i64 p11, .int .i64 p12] := Blk.keep hb (by repeat' (first | (with_reducible first | assumption | refine Blk.drew ?_ | refine Blk.drewN ?_ _ | apply Blk.set | (refine Blk.new ?_; focus (first | rfl | (simp; done))) | refine Blk.alloc ?_ _ | refine Blk.other ?_ ?_ _) | exact eqL rfl | (refine neB ?_; omega)))
          have cs := Bs.cell
          have fs := Bs.free
          have ls_W1 := Bs.lt
          have co := Bo.cell
          have fo := Bo.free
          have lo_W1 := Bo.lt
          have cr := Br.cell
          have fr := Br.free
          have lr_W1 := Br.lt
          have cm := Bm.cell
          have fm := Bm.free
          have lm_W1 := Bm.lt
          have kaW1 : Acc w W1 := by
            refine Acc.call ?_ hb
            (repeat' (first | (with_reducible first | assumption | exact Acc.refl _ | refine Acc.drew ?_ | refine Acc.drewN ?_ _ | refine Acc.alloc ?_ _ | refine Acc.setCell ?_ ?_ _) | (refine leB ?_; omega)))
          clear hb
          cases ho : mulM ((p1, p2, p3), (p4, p5, p6), (p7, p8, p9), (p10, p11, p12)) ((b1, b2, b3), (b4, b5, b6), (b7, b8, b9), (b10, b11, b12)) with
          | none =>
            obtain ⟨s, rfl⟩ := h2 ho
            have HO := Lib.hid ho
            clear h1 h2 ho
            obtain rfl : o = none := HF.out.symm.trans (pwM_none' (HY.out.trans HO.out) hj1)
            go_wp2_with fail
            refine bodyPost_ret (v := .tuple #[.agg #[.int .i64 0, .int .i64 0, .int .i64 0, .int .i64 0, .int .i64 0, .int .i64 0, .int .i64 0, .int .i64 0, .int .i64 0, .int .i64 0, .int .i64 0, .int .i64 0], .iface 83 (.agg #[.string s])]) (by simp [results, Tryd.results54, go_sem, *]) rfl ⟨fun _ _ _ _ _ _ _ _ _ _ _ _ h => (by cases h), fun _ => ⟨_, rfl⟩, ?_⟩
            show Acc w _
            (repeat' (first | (with_reducible first | assumption | exact Acc.refl _ | refine Acc.drew ?_ | refine Acc.drewN ?_ _ | refine Acc.alloc ?_ _ | refine Acc.setCell ?_ ?_ _) | (refine leB ?_; omega)))
          | some v =>
            obtain ⟨⟨r1, r2, r3⟩, ⟨r4, r5, r6⟩, ⟨r7, r8, r9⟩, r10, r11, r12⟩ := v
            obtain rfl := h1 _ _ _ _ _ _ _ _ _ _ _ _ ho
            have HO := Lib.hid ho
            clear h1 h2 ho
            go_wp2_with fail
            go_roundw
            case rel => exact ⟨j + 1, ((r1, r2, r3), (r4, r5, r6), (r7, r8, r9), (r10, r11, r12)), by go_num, hj1, (by show Acc w _; repeat' (first | (with_reducible first | assumption | exact Acc.refl _ | refine Acc.drew ?_ | refine Acc.drewN ?_ _ | refine Acc.alloc ?_ _ | refine Acc.setCell ?_ ?_ _) | (refine leB ?_; omega))), (by repeat' (first | (with_reducible first | assumption | refine Blk.drew ?_ | refine Blk.drewN ?_ _ | apply Blk.set | (refine Blk.new ?_; focus (first | rfl | (simp; done))) | refine Blk.alloc ?_ _ | refine Blk.other ?_ ?_ _) | exact eqL rfl | (refine neB ?_; omega))), (by repeat' (first | (with_reducible first | assumption | refine Blk.drew ?_ | refine Blk.drewN ?_ _ | apply Blk.set | (refine Blk.new ?_; focus (first | rfl | (simp; done))) | refine Blk.alloc ?_ _ | refine Blk.other ?_ ?_ _) | exact eqL rfl | (refine neB ?_; omega))), (by repeat' (first | (with_reducible first | assumption | refine Blk.drew ?_ | refine Blk.drewN ?_ _ | apply Blk.set | (refine Blk.new ?_; focus (first | rfl | (simp; done))) | refine Blk.alloc ?_ _ | refine Blk.other ?_ ?_ _) | exact eqL rfl | (refine neB ?_; omega))), (by repeat' (first | (with_reducible first | assumption | refine Blk.drew ?_ | refine Blk.drewN ?_ _ | apply Blk.set | (refine Blk.new ?_; focus (first | rfl | (simp; done))) | refine Blk.alloc ?_ _ | refine Blk.other ?_ ?_ _) | exact eqL rfl | (refine neB ?_; omega))), (mulM_ok HO.out).2.2, HY.out.trans HO.out⟩
            case measure => simp [intOf]; omega
        · obtain rfl : j = t := by omega
          obtain rfl : o = some ((b1, b2, b3), (b4, b5, b6), (b7, b8, b9), (b10, b11, b12)) := HF.out.symm.trans HX.out
          have hj2 : ¬ (j : Int) < (j : Int) := by omega
          go_wp2_with fail
          refine bodyPost_ret (v := .tuple #[.agg #[.int .i64 b1, .int .i64 b2, .int .i64 b3, .int .i64 b4, .int .i64 b5, .int .i64 b6, .int .i64 b7, .int .i64 b8, .int .i64 b9, .int .i64 b10, .int .i64 b11, .int .i64 b12], .nilIface]) (by simp [results, Tryd.results54, go_sem, *]) rfl ⟨fun _ _ _ _ _ _ _ _ _ _ _ _ h => (by cases h; rfl), fun h => (by cases h), ?_⟩
          show Acc w _
          (repeat' (first | (with_reducible first | assumption | exact Acc.refl _ | refine Acc.drew ?_ | refine Acc.drewN ?_ _ | refine Acc.alloc ?_ _ | refine Acc.setCell ?_ ?_ _) | (refine leB ?_; omega)))
end Go.Proofs.YtkiggkmbgkonmabDoor
