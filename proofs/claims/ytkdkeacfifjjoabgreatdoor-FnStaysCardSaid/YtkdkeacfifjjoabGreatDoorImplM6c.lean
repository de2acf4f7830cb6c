/-
  The program's elements: filters, plates.
-/
import Derived.Test.YtkdkeacfifjjoabGreatDoorImplM2
import Derived.Test.YtkdkeacfifjjoabGreatDoorImplM6b
import Derived.Deep.RegionHeld3
import Derived.Deep.RegionWith
import Derived.Deep.QuietTactic
import Derived.BigQuiet
namespace Go.Proofs.YtkdkeacfifjjoabGreatDoor
open Go.ChangeShapes Go.WideShapes Go.ChangeAt Go.RowKit
set_option linter.unusedVariables false

set_option maxHeartbeats 32000000 in
theorem plaClo_any (kb : Nat) (k c1 c2 c3 s1 s3 f1 f2 f3 : Int) (hc1 : i64B c1) (hc2 : i64B c2) (hc3 : i64B c3) (hs1 : -2000000000 ≤ s1 ∧ s1 ≤ 2000000000) (hs3 : i64B s3) (hok : okM ((c1, c2, c3), ((-s1), 0, s3), (s1, 0, s3), (c1, c2, c3)) = true) (hf : phaT k = (f1, f2, f3)) (w : World) (Bk : Blk w kb [.int .i64 k]) :
    Calls Tryz.prog 137 #[.agg #[.int .i64 c1, .int .i64 c2, .int .i64 c3], .agg #[.int .i64 s1, .int .i64 0, .int .i64 s3], .pointer (some ⟨kb, 0, none⟩)] w (Erred12 ((adjM ((c1, c2, c3), ((-s1), 0, s3), (s1, 0, s3), (c1, c2, c3))).bind fun B => (if inB k 0 3 = true then some (f1, f2, f3) else none).bind fun (f : F3) => (mulM ((c1, c2, c3), ((-s1), 0, s3), (s1, 0, s3), (c1, c2, c3)) ((1, 0, 1), (0, 0, 1), (0, 0, 1), f)).bind fun X => mulM X B) w) := by
  have i0 : i64B 0 := by unfold i64B; omega
  have i1 : i64B 1 := by unfold i64B; omega
  have is1 : i64B s1 := by unfold i64B; omega
  have in1 : i64B (-s1) := by unfold i64B; omega
  obtain ⟨hf1, hf2, hf3⟩ := okF_i64 (show okF f1 f2 f3 = true by have := (pha_ok k).1; rw [hf] at this; exact this)
  have HR := Lib.hid fun w => rotClo_any c1 c2 c3 s1 s3 hs1 w
  have HM := Lib.hid fun w => rotator_any w
  have HP := Lib.hid fun w => powerOfI_any k f1 f2 f3 hf w
  have HX := Lib.hid fun w => mxtimes_any c1 c2 c3 (-s1) 0 s3 s1 0 s3 c1 c2 c3 1 0 1 0 0 1 0 0 1 f1 f2 f3 hc1 hc2 hc3 in1 i0 hs3 is1 i0 hs3 hc1 hc2 hc3 i1 i0 i1 i0 i0 i1 i0 i0 i1 hf1 hf2 hf3 w
  have HA := Lib.hid fun w => mxadj_any c1 c2 c3 (-s1) 0 s3 s1 0 s3 c1 c2 c3 hc1 hc2 hc3 in1 i0 hs3 is1 i0 hs3 hc1 hc2 hc3 w
  obtain ⟨⟨m1, m2, m3⟩, ⟨m4, m5, m6⟩, ⟨m7, m8, m9⟩, ⟨m10, m11, m12⟩, hB⟩ : ∃ a b c d : F3, adjM ((c1, c2, c3), ((-s1), 0, s3), (s1, 0, s3), (c1, c2, c3)) = some (a, b, c, d) := ⟨_, _, _, _, adjM_of hok⟩
  obtain ⟨g1, g2, g3, g4⟩ := okM_of (adjM_ok hB).2
  obtain ⟨hm1, hm2, hm3⟩ := okF_i64 g1
  obtain ⟨hm4, hm5, hm6⟩ := okF_i64 g2
  obtain ⟨hm7, hm8, hm9⟩ := okF_i64 g3
  obtain ⟨hm10, hm11, hm12⟩ := okF_i64 g4
  rw [hB] at HA
  rw [hB, Option.bind_some]
  clear hf hok hB g1 g2 g3 g4
  have HY := Lib.hid fun x1 x2 x3 x4 x5 x6 x7 x8 x9 x10 x11 x12 (h : mulM ((c1, c2, c3), ((-s1), 0, s3), (s1, 0, s3), (c1, c2, c3)) ((1, 0, 1), (0, 0, 1), (0, 0, 1), (f1, f2, f3)) = some ((x1, x2, x3), (x4, x5, x6), (x7, x8, x9), (x10, x11, x12))) w => by
    obtain ⟨g1, g2, g3, g4⟩ := okM_of (mulM_ok h).2.2
    obtain ⟨hx1, hx2, hx3⟩ := okF_i64 g1
    obtain ⟨hx4, hx5, hx6⟩ := okF_i64 g2
    obtain ⟨hx7, hx8, hx9⟩ := okF_i64 g3
    obtain ⟨hx10, hx11, hx12⟩ := okF_i64 g4
    exact mxtimes_any x1 x2 x3 x4 x5 x6 x7 x8 x9 x10 x11 x12 m1 m2 m3 m4 m5 m6 m7 m8 m9 m10 m11 m12 hx1 hx2 hx3 hx4 hx5 hx6 hx7 hx8 hx9 hx10 hx11 hx12 hm1 hm2 hm3 hm4 hm5 hm6 hm7 hm8 hm9 hm10 hm11 hm12 w
  obtain ⟨rr, E⟩ : ∃ r : Option F4, ((if inB k 0 3 = true then some (f1, f2, f3) else none).bind fun (f : F3) => (mulM ((c1, c2, c3), ((-s1), 0, s3), (s1, 0, s3), (c1, c2, c3)) ((1, 0, 1), (0, 0, 1), (0, 0, 1), f)).bind fun X => mulM X ((m1, m2, m3), (m4, m5, m6), (m7, m8, m9), (m10, m11, m12))) = r := ⟨_, rfl⟩
  rw [E]
  have HE := Lib.hid E
  obtain ⟨kk, hkk⟩ : ∃ b, inB k 0 3 = b := ⟨_, rfl⟩
  rw [hkk] at HP
  have KK := Lib.hid hkk
  clear E hkk hm1 hm2 hm3 hm4 hm5 hm6 hm7 hm8 hm9 hm10 hm11 hm12 hc1 hc2 hc3 hs1 hs3 i0 i1 is1 in1 hf1 hf2 hf3
  have hfd : ∀ w, (Instr.field 155 (.agg #[.func (.func 153) #[] #[]]) 0).run Tryz.prog w = .ok (.func (.func 153) #[] #[]) w := by
    intro w
    kernel_rfl
  have ck := Bk.cell
  have fk := Bk.free
  have lk_w := Bk.lt
  go_enter Tryz.func137, Tryz.ntmps137
  go_upto_region 1 with fail
  go_cut [7, 8] (fun s7 s8 wx => ∃ p : Nat, s7 = .pointer (some ⟨p, 0, none⟩) ∧ s8 = .nilIface ∧ Blk wx (p) [.int .i64 c1, .int .i64 c2, .int .i64 c3, .int .i64 (-s1), .int .i64 0, .int .i64 s3, .int .i64 s1, .int .i64 0, .int .i64 s3, .int .i64 c1, .int .i64 c2, .int .i64 c3] ∧ Blk wx (kb) [.int .i64 k] ∧ Blk wx (w.heap.size) [.int .i64 c1, .int .i64 c2, .int .i64 c3] ∧ Blk wx (w.heap.size + 1) [.int .i64 s1, .int .i64 0, .int .i64 s3] ∧ Blk wx (w.heap.size + 1 + 1) [.int .i64 0, .int .i64 0, .int .i64 0, .int .i64 0, .int .i64 0, .int .i64 0, .int .i64 0, .int .i64 0, .int .i64 0, .int .i64 0, .int .i64 0, .int .i64 0] ∧ Acc w wx)
  case first =>
    go_region_held3 (fun w' => (∀ k, w'.cell? ⟨w.heap.size, k, none⟩ = [.int .i64 c1, .int .i64 c2, .int .i64 c3][k]?) ∧ (∀ k, w'.cell? ⟨w.heap.size + 1, k, none⟩ = [.int .i64 s1, .int .i64 0, .int .i64 s3][k]?))
      (((try dsimp only); (refine ⟨Blk.cell ?_, Blk.cell ?_⟩ <;> (repeat' (first | (with_reducible first | assumption | refine Blk.drew ?_ | refine Blk.drewN ?_ _ | apply Blk.set | (refine Blk.new ?_; focus (first | rfl | (simp; done))) | refine Blk.alloc ?_ _ | refine Blk.other ?_ ?_ _) | exact eqL rfl | (refine neB ?_; omega))))))
      (first
        | (go_at_call 138; refine (HM.out _).mono ?_; rintro e W1 ⟨rfl, hb⟩; (try (refine with_fact (A := Blk W1 (w.heap.size + 1 + 1 + 1) [.int .i64 0, .int .i64 0, .int .i64 0, .int .i64 0, .int .i64 0, .int .i64 0, .int .i64 0, .int .i64 0, .int .i64 0, .int .i64 0, .int .i64 0, .int .i64 0]) ?_ ?_; (focus (refine Blk.keep hb ?_; (repeat' (first | (with_reducible first | assumption | refine Blk.drew ?_ | refine Blk.drewN ?_ _ | apply Blk.set | (refine Blk.new ?_; focus (first | rfl | (simp; done))) | refine Blk.alloc ?_ _ | refine Blk.other ?_ ?_ _) | exact eqL rfl | (refine neB ?_; omega))); done)); intro Bz1; have cz1 := Bz1.cell; have fz1 := Bz1.free; have lz1 := Bz1.lt)); have Bk : Blk W1 (kb) [.int .i64 k] := Blk.keep hb (by repeat' (first | (with_reducible first | assumption | refine Blk.drew ?_ | refine Blk.drewN ?_ _ | apply Blk.set | (refine Blk.new ?_; focus (first | rfl | (simp; done))) | refine Blk.alloc ?_ _ | refine Blk.other ?_ ?_ _) | exact eqL rfl | (refine neB ?_; omega))); have Ba : Blk W1 (w.heap.size) [.int .i64 c1, .int .i64 c2, .int .i64 c3] := Blk.keep hb (by repeat' (first | (with_reducible first | assumption | refine Blk.drew ?_ | refine Blk.drewN ?_ _ | apply Blk.set | (refine Blk.new ?_; focus (first | rfl | (simp; done))) | refine Blk.alloc ?_ _ | refine Blk.other ?_ ?_ _) | exact eqL rfl | (refine neB ?_; omega))); have Bb : Blk W1 (w.heap.size + 1) [.int .i64 s1, .int .i64 0, .int .i64 s3] := Blk.keep hb (by repeat' (first | (with_reducible first | assumption | refine Blk.drew ?_ | refine Blk.drewN ?_ _ | apply Blk.set | (refine Blk.new ?_; focus (first | rfl | (simp; done))) | refine Blk.alloc ?_ _ | refine Blk.other ?_ ?_ _) | exact eqL rfl | (refine neB ?_; omega))); have Bz : Blk W1 (w.heap.size + 1 + 1) [.int .i64 0, .int .i64 0, .int .i64 0, .int .i64 0, .int .i64 0, .int .i64 0, .int .i64 0, .int .i64 0, .int .i64 0, .int .i64 0, .int .i64 0, .int .i64 0] := Blk.keep hb (by repeat' (first | (with_reducible first | assumption | refine Blk.drew ?_ | refine Blk.drewN ?_ _ | apply Blk.set | (refine Blk.new ?_; focus (first | rfl | (simp; done))) | refine Blk.alloc ?_ _ | refine Blk.other ?_ ?_ _) | exact eqL rfl | (refine neB ?_; omega))); have ck := Bk.cell; have fk := Bk.free; have lk_W1 := Bk.lt; have ca := Ba.cell; have fa := Ba.free; have la_W1 := Ba.lt; have cb := Bb.cell; have fb := Bb.free; have lb_W1 := Bb.lt; have cz := Bz.cell; have fz := Bz.free; have lz_W1 := Bz.lt; have kaW1 : Acc w W1 := (by refine Acc.call ?_ hb; (repeat' (first | (with_reducible first | assumption | exact Acc.refl _ | refine Acc.drew ?_ | refine Acc.drewN ?_ _ | refine Acc.alloc ?_ _ | refine Acc.setCell ?_ ?_ _) | (refine leB ?_; omega)))); clear hb)
        | (go_at_call 153; refine (HR.out _).mono ?_; rintro e W2 ⟨h, -, hb⟩; obtain rfl := h _ _ _ _ _ _ _ _ _ _ _ _ rfl; clear h; (try (refine with_fact (A := Blk W2 (w.heap.size + 1 + 1 + 1) [.int .i64 0, .int .i64 0, .int .i64 0, .int .i64 0, .int .i64 0, .int .i64 0, .int .i64 0, .int .i64 0, .int .i64 0, .int .i64 0, .int .i64 0, .int .i64 0]) ?_ ?_; (focus (refine Blk.keep hb ?_; (repeat' (first | (with_reducible first | assumption | refine Blk.drew ?_ | refine Blk.drewN ?_ _ | apply Blk.set | (refine Blk.new ?_; focus (first | rfl | (simp; done))) | refine Blk.alloc ?_ _ | refine Blk.other ?_ ?_ _) | exact eqL rfl | (refine neB ?_; omega))); done)); intro Bz1; have cz1 := Bz1.cell; have fz1 := Bz1.free; have lz1 := Bz1.lt)); (try (refine with_fact (A := Blk W2 (W1.heap.size) [.int .i64 0, .int .i64 0, .int .i64 0, .int .i64 0, .int .i64 0, .int .i64 0, .int .i64 0, .int .i64 0, .int .i64 0, .int .i64 0, .int .i64 0, .int .i64 0]) ?_ ?_; (focus (refine Blk.keep hb ?_; (repeat' (first | (with_reducible first | assumption | refine Blk.drew ?_ | refine Blk.drewN ?_ _ | apply Blk.set | (refine Blk.new ?_; focus (first | rfl | (simp; done))) | refine Blk.alloc ?_ _ | refine Blk.other ?_ ?_ _) | exact eqL rfl | (refine neB ?_; omega))); done)); intro Bz2; have cz2 := Bz2.cell; have fz2 := Bz2.free; have lz2 := Bz2.lt)); have Bk : Blk W2 (kb) [.int .i64 k] := Blk.keep hb (by repeat' (first | (with_reducible first | assumption | refine Blk.drew ?_ | refine Blk.drewN ?_ _ | apply Blk.set | (refine Blk.new ?_; focus (first | rfl | (simp; done))) | refine Blk.alloc ?_ _ | refine Blk.other ?_ ?_ _) | exact eqL rfl | (refine neB ?_; omega))); have Ba : Blk W2 (w.heap.size) [.int .i64 c1, .int .i64 c2, .int .i64 c3] := Blk.keep hb (by repeat' (first | (with_reducible first | assumption | refine Blk.drew ?_ | refine Blk.drewN ?_ _ | apply Blk.set | (refine Blk.new ?_; focus (first | rfl | (simp; done))) | refine Blk.alloc ?_ _ | refine Blk.other ?_ ?_ _) | exact eqL rfl | (refine neB ?_; omega))); have Bb : Blk W2 (w.heap.size + 1) [.int .i64 s1, .int .i64 0, .int .i64 s3] := Blk.keep hb (by repeat' (first | (with_reducible first | assumption | refine Blk.drew ?_ | refine Blk.drewN ?_ _ | apply Blk.set | (refine Blk.new ?_; focus (first | rfl | (simp; done))) | refine Blk.alloc ?_ _ | refine Blk.other ?_ ?_ _) | exact eqL rfl | (refine neB ?_; omega))); have Bz : Blk W2 (w.heap.size + 1 + 1) [.int .i64 0, .int .i64 0, .int .i64 0, .int .i64 0, .int .i64 0, .int .i64 0, .int .i64 0, .int .i64 0, .int .i64 0, .int .i64 0, .int .i64 0, .int .i64 0] := Blk.keep hb (by repeat' (first | (with_reducible first | assumption | refine Blk.drew ?_ | refine Blk.drewN ?_ _ | apply Blk.set | (refine Blk.new ?_; focus (first | rfl | (simp; done))) | refine Blk.alloc ?_ _ | refine Blk.other ?_ ?_ _) | exact eqL rfl | (refine neB ?_; omega))); have ck := Bk.cell; have fk := Bk.free; have lk_W2 := Bk.lt; have ca := Ba.cell; have fa := Ba.free; have la_W2 := Ba.lt; have cb := Bb.cell; have fb := Bb.free; have lb_W2 := Bb.lt; have cz := Bz.cell; have fz := Bz.free; have lz_W2 := Bz.lt; have kaW2 : Acc w W2 := (by refine Acc.call ?_ hb; (repeat' (first | (with_reducible first | assumption | exact Acc.refl _ | refine Acc.drew ?_ | refine Acc.drewN ?_ _ | refine Acc.alloc ?_ _ | refine Acc.setCell ?_ ?_ _) | (refine leB ?_; omega)))); clear hb))
    all_goals
      go_wp2_with fail
      go_meet
      refine ⟨_, rfl, rfl, ?_⟩
      and_intros
      all_goals
        first
          | ((repeat' (first | (with_reducible first | assumption | refine Blk.drew ?_ | refine Blk.drewN ?_ _ | apply Blk.set | (refine Blk.new ?_; focus (first | rfl | (simp; done))) | refine Blk.alloc ?_ _ | refine Blk.other ?_ ?_ _) | exact eqL rfl | (refine neB ?_; omega))); done)
          | ((show Acc w _); (repeat' (first | (with_reducible first | assumption | exact Acc.refl _ | refine Acc.drew ?_ | refine Acc.drewN ?_ _ | refine Acc.alloc ?_ _ | refine Acc.setCell ?_ ?_ _) | (refine leB ?_; omega))); done)
  case rest =>
    obtain ⟨pr, rfl, rfl, Br, Bk, Ba, Bb, Bz, kawc⟩ := hcut
    have ck := Bk.cell
    have fk := Bk.free
    have lk_wc := Bk.lt
    have ca := Ba.cell
    have fa := Ba.free
    have la_wc := Ba.lt
    have cb := Bb.cell
    have fb := Bb.free
    have lb_wc := Bb.lt
    have cz := Bz.cell
    have fz := Bz.free
    have lz_wc := Bz.lt
    have cr := Br.cell
    have fr := Br.free
    have lr_wc := Br.lt
    go_wp2_with fail
    refine (HA.out _).mono ?_
    rintro e W1 ⟨h, -, hb⟩
    obtain rfl := h _ _ _ _ _ _ _ _ _ _ _ _ rfl
    clear h
    obtain ⟨Bk, Bz, Br⟩ : Blk W1 (kb) [.int .i64 k] ∧ Blk W1 (w.heap.size + 1 + 1) [.int .i64 0, .int .i64 0, .int .i64 0, .int .i64 0, .int .i64 0, .int .i64 0, .int .i64 0, .int .i64 0, .int .i64 0, .int .i64 0, .int .i64 0, .int .i64 0] ∧ Blk W1 (pr) [.int .i64 c1, .int .i64 c2, .int .i64 c3, .int .i64 (-s1), .int .i64 0, .int .i64 s3, .int .i64 s1, .int .i64 0, .int .i64 s3, .int .i64 c1, .int .i64 c2, .int .i64 c3] := by
      refine ⟨?_, ?_, ?_⟩ <;> refine Blk.keep hb ?_ <;> (repeat' (first | (with_reducible first | assumption | refine Blk.drew ?_ | refine Blk.drewN ?_ _ | apply Blk.set | (refine Blk.new ?_; focus (first | rfl | (simp; done))) | refine Blk.alloc ?_ _ | refine Blk.other ?_ ?_ _) | exact eqL rfl | (refine neB ?_; omega)))
    have ck := Bk.cell
    have fk := Bk.free
    have lk_W1 := Bk.lt
    have cz := Bz.cell
    have fz := Bz.free
    have lz_W1 := Bz.lt
    have cr := Br.cell
    have fr := Br.free
    have lr_W1 := Br.lt
    have kaW1 : Acc w W1 := by
      refine Acc.call ?_ hb
      (repeat' (first | (with_reducible first | assumption | exact Acc.refl _ | refine Acc.drew ?_ | refine Acc.drewN ?_ _ | refine Acc.alloc ?_ _ | refine Acc.setCell ?_ ?_ _) | (refine leB ?_; omega)))
    clear hb
    go_wp2_with fail
    cases kk with
    | false =>
      rw [show (if (false : Bool) = true then some (f1, f2, f3) else none) = (none : Option F3) from rfl] at HP
      obtain rfl : rr = none := HE.out.symm.trans (by rw [KK.out]; rfl)
      refine (HP.out _).mono ?_
      rintro e W2 ⟨-, h, hb⟩
      obtain ⟨s, rfl⟩ := h rfl
      clear h
      obtain ⟨Bk, Bz, Br, Bm⟩ : Blk W2 (kb) [.int .i64 k] ∧ Blk W2 (w.heap.size + 1 + 1) [.int .i64 0, .int .i64 0, .int .i64 0, .int .i64 0, .int .i64 0, .int .i64 0, .int .i64 0, .int .i64 0, .int .i64 0, .int .i64 0, .int .i64 0, .int .i64 0] ∧ Blk W2 (pr) [.int .i64 c1, .int .i64 c2, .int .i64 c3, .int .i64 (-s1), .int .i64 0, .int .i64 s3, .int .i64 s1, .int .i64 0, .int .i64 s3, .int .i64 c1, .int .i64 c2, .int .i64 c3] ∧ Blk W2 (W1.heap.size) [.int .i64 m1, .int .i64 m2, .int .i64 m3, .int .i64 m4, .int .i64 m5, .int .i64 m6, .int .i64 m7, .int .i64 m8, .int .i64 m9, .int .i64 m10, .int .i64 m11, .int .i64 m12] := by
        refine ⟨?_, ?_, ?_, ?_⟩ <;> refine Blk.keep hb ?_ <;> (repeat' (first | (with_reducible first | assumption | refine Blk.drew ?_ | refine Blk.drewN ?_ _ | apply Blk.set | (refine Blk.new ?_; focus (first | rfl | (simp; done))) | refine Blk.alloc ?_ _ | refine Blk.other ?_ ?_ _) | exact eqL rfl | (refine neB ?_; omega)))
      have ck := Bk.cell
      have fk := Bk.free
      have lk_W2 := Bk.lt
      have cz := Bz.cell
      have fz := Bz.free
      have lz_W2 := Bz.lt
      have cr := Br.cell
      have fr := Br.free
      have lr_W2 := Br.lt
      have cm := Bm.cell
      have fm := Bm.free
      have lm_W2 := Bm.lt
      have kaW2 : Acc w W2 := by
        refine Acc.call ?_ hb
        (repeat' (first | (with_reducible first | assumption | exact Acc.refl _ | refine Acc.drew ?_ | refine Acc.drewN ?_ _ | refine Acc.alloc ?_ _ | refine Acc.setCell ?_ ?_ _) | (refine leB ?_; omega)))
      clear hb
      go_wp2_with fail
      refine bodyPost_ret (v := .tuple #[.agg #[.int .i64 0, .int .i64 0, .int .i64 0, .int .i64 0, .int .i64 0, .int .i64 0, .int .i64 0, .int .i64 0, .int .i64 0, .int .i64 0, .int .i64 0, .int .i64 0], .iface 142 (.agg #[.string s])]) (by simp [results, Tryz.results137, go_sem, *]) rfl ⟨fun _ _ _ _ _ _ _ _ _ _ _ _ h => (by cases h), fun _ => ⟨_, rfl⟩, ?_⟩
      show Acc w _
      (repeat' (first | (with_reducible first | assumption | exact Acc.refl _ | refine Acc.drew ?_ | refine Acc.drewN ?_ _ | refine Acc.alloc ?_ _ | refine Acc.setCell ?_ ?_ _) | (refine leB ?_; omega)))
    | true =>
      rw [show (if (true : Bool) = true then some (f1, f2, f3) else none) = (some (f1, f2, f3) : Option F3) from rfl] at HP
      refine (HP.out _).mono ?_
      rintro e W2 ⟨h, -, hb⟩
      obtain rfl := h _ _ _ rfl
      clear h
      obtain ⟨Bk, Bz, Br, Bm⟩ : Blk W2 (kb) [.int .i64 k] ∧ Blk W2 (w.heap.size + 1 + 1) [.int .i64 0, .int .i64 0, .int .i64 0, .int .i64 0, .int .i64 0, .int .i64 0, .int .i64 0, .int .i64 0, .int .i64 0, .int .i64 0, .int .i64 0, .int .i64 0] ∧ Blk W2 (pr) [.int .i64 c1, .int .i64 c2, .int .i64 c3, .int .i64 (-s1), .int .i64 0, .int .i64 s3, .int .i64 s1, .int .i64 0, .int .i64 s3, .int .i64 c1, .int .i64 c2, .int .i64 c3] ∧ Blk W2 (W1.heap.size) [.int .i64 m1, .int .i64 m2, .int .i64 m3, .int .i64 m4, .int .i64 m5, .int .i64 m6, .int .i64 m7, .int .i64 m8, .int .i64 m9, .int .i64 m10, .int .i64 m11, .int .i64 m12] := by
        refine ⟨?_, ?_, ?_, ?_⟩ <;> refine Blk.keep hb ?_ <;> (repeat' (first | (with_reducible first | assumption | refine Blk.drew ?_ | refine Blk.drewN ?_ _ | apply Blk.set | (refine Blk.new ?_; focus (first | rfl | (simp; done))) | refine Blk.alloc ?_ _ | refine Blk.other ?_ ?_ _) | exact eqL rfl | (refine neB ?_; omega)))
      have ck := Bk.cell
      have fk := Bk.free
      have lk_W2 := Bk.lt
      have cz := Bz.cell
      have fz := Bz.free
      have lz_W2 := Bz.lt
      have cr := Br.cell
      have fr := Br.free
      have lr_W2 := Br.lt
      have cm := Bm.cell
      have fm := Bm.free
      have lm_W2 := Bm.lt
      have kaW2 : Acc w W2 := by
        refine Acc.call ?_ hb
        (repeat' (first | (with_reducible first | assumption | exact Acc.refl _ | refine Acc.drew ?_ | refine Acc.drewN ?_ _ | refine Acc.alloc ?_ _ | refine Acc.setCell ?_ ?_ _) | (refine leB ?_; omega)))
      clear hb
      go_wp2_with fail
      obtain ⟨oo, ho⟩ : ∃ o, mulM ((c1, c2, c3), ((-s1), 0, s3), (s1, 0, s3), (c1, c2, c3)) ((1, 0, 1), (0, 0, 1), (0, 0, 1), (f1, f2, f3)) = o := ⟨_, rfl⟩
      rw [ho] at HX HY
      have HO := Lib.hid ho
      clear ho
      cases oo with
      | none =>
        obtain rfl : rr = none := HE.out.symm.trans (by rw [KK.out, show (if (true : Bool) = true then some (f1, f2, f3) else none) = (some (f1, f2, f3) : Option F3) from rfl, Option.bind_some]; rw [HO.out]; rfl)
        go_region_held3 (fun w' => (∀ k, w'.cell? ⟨pr, k, none⟩ = [.int .i64 c1, .int .i64 c2, .int .i64 c3, .int .i64 (-s1), .int .i64 0, .int .i64 s3, .int .i64 s1, .int .i64 0, .int .i64 s3, .int .i64 c1, .int .i64 c2, .int .i64 c3][k]?) ∧ (∀ k, w'.cell? ⟨W2.heap.size, k, none⟩ = [.int .i64 f1, .int .i64 f2, .int .i64 f3][k]?))
          (((try dsimp only); (refine ⟨Blk.cell ?_, Blk.cell ?_⟩ <;> (repeat' (first | (with_reducible first | assumption | refine Blk.drew ?_ | refine Blk.drewN ?_ _ | apply Blk.set | (refine Blk.new ?_; focus (first | rfl | (simp; done))) | refine Blk.alloc ?_ _ | refine Blk.other ?_ ?_ _) | exact eqL rfl | (refine neB ?_; omega))))))
          (first
            | (go_at_call 102; refine (diagonal_any 1 0 1 f1 f2 f3 _).mono ?_; rintro e W11 ⟨rfl, hb⟩; (try (refine with_fact (A := Blk W11 (W2.heap.size + 1) [.int .i64 0, .int .i64 0, .int .i64 0, .int .i64 0, .int .i64 0, .int .i64 0, .int .i64 0, .int .i64 0, .int .i64 0, .int .i64 0, .int .i64 0, .int .i64 0]) ?_ ?_; (focus (refine Blk.keep hb ?_; (repeat' (first | (with_reducible first | assumption | refine Blk.drew ?_ | refine Blk.drewN ?_ _ | apply Blk.set | (refine Blk.new ?_; focus (first | rfl | (simp; done))) | refine Blk.alloc ?_ _ | refine Blk.other ?_ ?_ _) | exact eqL rfl | (refine neB ?_; omega))); done)); intro Bz3; have cz3 := Bz3.cell; have fz3 := Bz3.free; have lz3 := Bz3.lt)); have Bk : Blk W11 (kb) [.int .i64 k] := Blk.keep hb (by repeat' (first | (with_reducible first | assumption | refine Blk.drew ?_ | refine Blk.drewN ?_ _ | apply Blk.set | (refine Blk.new ?_; focus (first | rfl | (simp; done))) | refine Blk.alloc ?_ _ | refine Blk.other ?_ ?_ _) | exact eqL rfl | (refine neB ?_; omega))); have Bz : Blk W11 (w.heap.size + 1 + 1) [.int .i64 0, .int .i64 0, .int .i64 0, .int .i64 0, .int .i64 0, .int .i64 0, .int .i64 0, .int .i64 0, .int .i64 0, .int .i64 0, .int .i64 0, .int .i64 0] := Blk.keep hb (by repeat' (first | (with_reducible first | assumption | refine Blk.drew ?_ | refine Blk.drewN ?_ _ | apply Blk.set | (refine Blk.new ?_; focus (first | rfl | (simp; done))) | refine Blk.alloc ?_ _ | refine Blk.other ?_ ?_ _) | exact eqL rfl | (refine neB ?_; omega))); have Br : Blk W11 (pr) [.int .i64 c1, .int .i64 c2, .int .i64 c3, .int .i64 (-s1), .int .i64 0, .int .i64 s3, .int .i64 s1, .int .i64 0, .int .i64 s3, .int .i64 c1, .int .i64 c2, .int .i64 c3] := Blk.keep hb (by repeat' (first | (with_reducible first | assumption | refine Blk.drew ?_ | refine Blk.drewN ?_ _ | apply Blk.set | (refine Blk.new ?_; focus (first | rfl | (simp; done))) | refine Blk.alloc ?_ _ | refine Blk.other ?_ ?_ _) | exact eqL rfl | (refine neB ?_; omega))); have Bm : Blk W11 (W1.heap.size) [.int .i64 m1, .int .i64 m2, .int .i64 m3, .int .i64 m4, .int .i64 m5, .int .i64 m6, .int .i64 m7, .int .i64 m8, .int .i64 m9, .int .i64 m10, .int .i64 m11, .int .i64 m12] := Blk.keep hb (by repeat' (first | (with_reducible first | assumption | refine Blk.drew ?_ | refine Blk.drewN ?_ _ | apply Blk.set | (refine Blk.new ?_; focus (first | rfl | (simp; done))) | refine Blk.alloc ?_ _ | refine Blk.other ?_ ?_ _) | exact eqL rfl | (refine neB ?_; omega))); have Bf : Blk W11 (W2.heap.size) [.int .i64 f1, .int .i64 f2, .int .i64 f3] := Blk.keep hb (by repeat' (first | (with_reducible first | assumption | refine Blk.drew ?_ | refine Blk.drewN ?_ _ | apply Blk.set | (refine Blk.new ?_; focus (first | rfl | (simp; done))) | refine Blk.alloc ?_ _ | refine Blk.other ?_ ?_ _) | exact eqL rfl | (refine neB ?_; omega))); have ck := Bk.cell; have fk := Bk.free; have lk_W11 := Bk.lt; have cz := Bz.cell; have fz := Bz.free; have lz_W11 := Bz.lt; have cr := Br.cell; have fr := Br.free; have lr_W11 := Br.lt; have cm := Bm.cell; have fm := Bm.free; have lm_W11 := Bm.lt; have cf := Bf.cell; have ff := Bf.free; have lf_W11 := Bf.lt; have kaW11 : Acc w W11 := (by refine Acc.call ?_ hb; (repeat' (first | (with_reducible first | assumption | exact Acc.refl _ | refine Acc.drew ?_ | refine Acc.drewN ?_ _ | refine Acc.alloc ?_ _ | refine Acc.setCell ?_ ?_ _) | (refine leB ?_; omega)))); clear hb)
            | (go_at_call 64; refine (HX.out _).mono ?_; rintro e W12 ⟨-, h, hb⟩; obtain ⟨s, rfl⟩ := h rfl; clear h; (try (refine with_fact (A := Blk W12 (W2.heap.size + 1) [.int .i64 0, .int .i64 0, .int .i64 0, .int .i64 0, .int .i64 0, .int .i64 0, .int .i64 0, .int .i64 0, .int .i64 0, .int .i64 0, .int .i64 0, .int .i64 0]) ?_ ?_; (focus (refine Blk.keep hb ?_; (repeat' (first | (with_reducible first | assumption | refine Blk.drew ?_ | refine Blk.drewN ?_ _ | apply Blk.set | (refine Blk.new ?_; focus (first | rfl | (simp; done))) | refine Blk.alloc ?_ _ | refine Blk.other ?_ ?_ _) | exact eqL rfl | (refine neB ?_; omega))); done)); intro Bz1; have cz1 := Bz1.cell; have fz1 := Bz1.free; have lz1 := Bz1.lt)); (try (refine with_fact (A := Blk W12 (W11.heap.size) [.int .i64 0, .int .i64 0, .int .i64 0, .int .i64 0, .int .i64 0, .int .i64 0, .int .i64 0, .int .i64 0, .int .i64 0, .int .i64 0, .int .i64 0, .int .i64 0]) ?_ ?_; (focus (refine Blk.keep hb ?_; (repeat' (first | (with_reducible first | assumption | refine Blk.drew ?_ | refine Blk.drewN ?_ _ | apply Blk.set | (refine Blk.new ?_; focus (first | rfl | (simp; done))) | refine Blk.alloc ?_ _ | refine Blk.other ?_ ?_ _) | exact eqL rfl | (refine neB ?_; omega))); done)); intro Bz2; have cz2 := Bz2.cell; have fz2 := Bz2.free; have lz2 := Bz2.lt)); have Bk : Blk W12 (kb) [.int .i64 k] := Blk.keep hb (by repeat' (first | (with_reducible first | assumption | refine Blk.drew ?_ | refine Blk.drewN ?_ _ | apply Blk.set | (refine Blk.new ?_; focus (first | rfl | (simp; done))) | refine Blk.alloc ?_ _ | refine Blk.other ?_ ?_ _) | exact eqL rfl | (refine neB ?_; omega))); have Bz : Blk W12 (w.heap.size + 1 + 1) [.int .i64 0, .int .i64 0, .int .i64 0, .int .i64 0, .int .i64 0, .int .i64 0, .int .i64 0, .int .i64 0, .int .i64 0, .int .i64 0, .int .i64 0, .int .i64 0] := Blk.keep hb (by repeat' (first | (with_reducible first | assumption | refine Blk.drew ?_ | refine Blk.drewN ?_ _ | apply Blk.set | (refine Blk.new ?_; focus (first | rfl | (simp; done))) | refine Blk.alloc ?_ _ | refine Blk.other ?_ ?_ _) | exact eqL rfl | (refine neB ?_; omega))); have Br : Blk W12 (pr) [.int .i64 c1, .int .i64 c2, .int .i64 c3, .int .i64 (-s1), .int .i64 0, .int .i64 s3, .int .i64 s1, .int .i64 0, .int .i64 s3, .int .i64 c1, .int .i64 c2, .int .i64 c3] := Blk.keep hb (by repeat' (first | (with_reducible first | assumption | refine Blk.drew ?_ | refine Blk.drewN ?_ _ | apply Blk.set | (refine Blk.new ?_; focus (first | rfl | (simp; done))) | refine Blk.alloc ?_ _ | refine Blk.other ?_ ?_ _) | exact eqL rfl | (refine neB ?_; omega))); have Bm : Blk W12 (W1.heap.size) [.int .i64 m1, .int .i64 m2, .int .i64 m3, .int .i64 m4, .int .i64 m5, .int .i64 m6, .int .i64 m7, .int .i64 m8, .int .i64 m9, .int .i64 m10, .int .i64 m11, .int .i64 m12] := Blk.keep hb (by repeat' (first | (with_reducible first | assumption | refine Blk.drew ?_ | refine Blk.drewN ?_ _ | apply Blk.set | (refine Blk.new ?_; focus (first | rfl | (simp; done))) | refine Blk.alloc ?_ _ | refine Blk.other ?_ ?_ _) | exact eqL rfl | (refine neB ?_; omega))); have Bf : Blk W12 (W2.heap.size) [.int .i64 f1, .int .i64 f2, .int .i64 f3] := Blk.keep hb (by repeat' (first | (with_reducible first | assumption | refine Blk.drew ?_ | refine Blk.drewN ?_ _ | apply Blk.set | (refine Blk.new ?_; focus (first | rfl | (simp; done))) | refine Blk.alloc ?_ _ | refine Blk.other ?_ ?_ _) | exact eqL rfl | (refine neB ?_; omega))); have ck := Bk.cell; have fk := Bk.free; have lk_W12 := Bk.lt; have cz := Bz.cell; have fz := Bz.free; have lz_W12 := Bz.lt; have cr := Br.cell; have fr := Br.free; have lr_W12 := Br.lt; have cm := Bm.cell; have fm := Bm.free; have lm_W12 := Bm.lt; have cf := Bf.cell; have ff := Bf.free; have lf_W12 := Bf.lt; have kaW12 : Acc w W12 := (by refine Acc.call ?_ hb; (repeat' (first | (with_reducible first | assumption | exact Acc.refl _ | refine Acc.drew ?_ | refine Acc.drewN ?_ _ | refine Acc.alloc ?_ _ | refine Acc.setCell ?_ ?_ _) | (refine leB ?_; omega)))); clear hb))
        all_goals
          go_wp2_with fail
          refine bodyPost_ret (v := .tuple #[.agg #[.int .i64 0, .int .i64 0, .int .i64 0, .int .i64 0, .int .i64 0, .int .i64 0, .int .i64 0, .int .i64 0, .int .i64 0, .int .i64 0, .int .i64 0, .int .i64 0], .iface 142 (.agg #[.string s])]) (by simp [results, Tryz.results137, go_sem, *]) rfl ⟨fun _ _ _ _ _ _ _ _ _ _ _ _ h => (by cases h), fun _ => ⟨_, rfl⟩, ?_⟩
          show Acc w _
          (repeat' (first | (with_reducible first | assumption | exact Acc.refl _ | refine Acc.drew ?_ | refine Acc.drewN ?_ _ | refine Acc.alloc ?_ _ | refine Acc.setCell ?_ ?_ _) | (refine leB ?_; omega)))
      | some v =>
        obtain ⟨⟨x1, x2, x3⟩, ⟨x4, x5, x6⟩, ⟨x7, x8, x9⟩, x10, x11, x12⟩ := v
        have HZ := Lib.hid fun w => HY.out x1 x2 x3 x4 x5 x6 x7 x8 x9 x10 x11 x12 rfl w
        rw [show mulM ((x1, x2, x3), (x4, x5, x6), (x7, x8, x9), (x10, x11, x12)) ((m1, m2, m3), (m4, m5, m6), (m7, m8, m9), (m10, m11, m12)) = rr from Eq.trans (by rw [KK.out, show (if (true : Bool) = true then some (f1, f2, f3) else none) = (some (f1, f2, f3) : Option F3) from rfl, Option.bind_some]; rw [HO.out]; rfl) HE.out] at HZ
        clear HY HE
        go_cut [11, 8] (fun s11 s8 wx => ∃ p : Nat, s11 = .pointer (some ⟨p, 0, none⟩) ∧ s8 = .nilIface ∧ Blk wx (p) [.int .i64 x1, .int .i64 x2, .int .i64 x3, .int .i64 x4, .int .i64 x5, .int .i64 x6, .int .i64 x7, .int .i64 x8, .int .i64 x9, .int .i64 x10, .int .i64 x11, .int .i64 x12] ∧ Blk wx (kb) [.int .i64 k] ∧ Blk wx (w.heap.size + 1 + 1) [.int .i64 0, .int .i64 0, .int .i64 0, .int .i64 0, .int .i64 0, .int .i64 0, .int .i64 0, .int .i64 0, .int .i64 0, .int .i64 0, .int .i64 0, .int .i64 0] ∧ Blk wx (pr) [.int .i64 c1, .int .i64 c2, .int .i64 c3, .int .i64 (-s1), .int .i64 0, .int .i64 s3, .int .i64 s1, .int .i64 0, .int .i64 s3, .int .i64 c1, .int .i64 c2, .int .i64 c3] ∧ Blk wx (W1.heap.size) [.int .i64 m1, .int .i64 m2, .int .i64 m3, .int .i64 m4, .int .i64 m5, .int .i64 m6, .int .i64 m7, .int .i64 m8, .int .i64 m9, .int .i64 m10, .int .i64 m11, .int .i64 m12] ∧ Blk wx (W2.heap.size) [.int .i64 f1, .int .i64 f2, .int .i64 f3] ∧ Acc w wx)
        case first =>
          go_region_held3 (fun w' => (∀ k, w'.cell? ⟨pr, k, none⟩ = [.int .i64 c1, .int .i64 c2, .int .i64 c3, .int .i64 (-s1), .int .i64 0, .int .i64 s3, .int .i64 s1, .int .i64 0, .int .i64 s3, .int .i64 c1, .int .i64 c2, .int .i64 c3][k]?) ∧ (∀ k, w'.cell? ⟨W2.heap.size, k, none⟩ = [.int .i64 f1, .int .i64 f2, .int .i64 f3][k]?))
            (((try dsimp only); (refine ⟨Blk.cell ?_, Blk.cell ?_⟩ <;> (repeat' (first | (with_reducible first | assumption | refine Blk.drew ?_ | refine Blk.drewN ?_ _ | apply Blk.set | (refine Blk.new ?_; focus (first | rfl | (simp; done))) | refine Blk.alloc ?_ _ | refine Blk.other ?_ ?_ _) | exact eqL rfl | (refine neB ?_; omega))))))
            (first
              | (go_at_call 102; refine (diagonal_any 1 0 1 f1 f2 f3 _).mono ?_; rintro e W11 ⟨rfl, hb⟩; (try (refine with_fact (A := Blk W11 (W2.heap.size + 1) [.int .i64 0, .int .i64 0, .int .i64 0, .int .i64 0, .int .i64 0, .int .i64 0, .int .i64 0, .int .i64 0, .int .i64 0, .int .i64 0, .int .i64 0, .int .i64 0]) ?_ ?_; (focus (refine Blk.keep hb ?_; (repeat' (first | (with_reducible first | assumption | refine Blk.drew ?_ | refine Blk.drewN ?_ _ | apply Blk.set | (refine Blk.new ?_; focus (first | rfl | (simp; done))) | refine Blk.alloc ?_ _ | refine Blk.other ?_ ?_ _) | exact eqL rfl | (refine neB ?_; omega))); done)); intro Bz3; have cz3 := Bz3.cell; have fz3 := Bz3.free; have lz3 := Bz3.lt)); have Bk : Blk W11 (kb) [.int .i64 k] := Blk.keep hb (by repeat' (first | (with_reducible first | assumption | refine Blk.drew ?_ | refine Blk.drewN ?_ _ | apply Blk.set | (refine Blk.new ?_; focus (first | rfl | (simp; done))) | refine Blk.alloc ?_ _ | refine Blk.other ?_ ?_ _) | exact eqL rfl | (refine neB ?_; omega))); have Bz : Blk W11 (w.heap.size + 1 + 1) [.int .i64 0, .int .i64 0, .int .i64 0, .int .i64 0, .int .i64 0, .int .i64 0, .int .i64 0, .int .i64 0, .int .i64 0, .int .i64 0, .int .i64 0, .int .i64 0] := Blk.keep hb (by repeat' (first | (with_reducible first | assumption | refine Blk.drew ?_ | refine Blk.drewN ?_ _ | apply Blk.set | (refine Blk.new ?_; focus (first | rfl | (simp; done))) | refine Blk.alloc ?_ _ | refine Blk.other ?_ ?_ _) | exact eqL rfl | (refine neB ?_; omega))); have Br : Blk W11 (pr) [.int .i64 c1, .int .i64 c2, .int .i64 c3, .int .i64 (-s1), .int .i64 0, .int .i64 s3, .int .i64 s1, .int .i64 0, .int .i64 s3, .int .i64 c1, .int .i64 c2, .int .i64 c3] := Blk.keep hb (by repeat' (first | (with_reducible first | assumption | refine Blk.drew ?_ | refine Blk.drewN ?_ _ | apply Blk.set | (refine Blk.new ?_; focus (first | rfl | (simp; done))) | refine Blk.alloc ?_ _ | refine Blk.other ?_ ?_ _) | exact eqL rfl | (refine neB ?_; omega))); have Bm : Blk W11 (W1.heap.size) [.int .i64 m1, .int .i64 m2, .int .i64 m3, .int .i64 m4, .int .i64 m5, .int .i64 m6, .int .i64 m7, .int .i64 m8, .int .i64 m9, .int .i64 m10, .int .i64 m11, .int .i64 m12] := Blk.keep hb (by repeat' (first | (with_reducible first | assumption | refine Blk.drew ?_ | refine Blk.drewN ?_ _ | apply Blk.set | (refine Blk.new ?_; focus (first | rfl | (simp; done))) | refine Blk.alloc ?_ _ | refine Blk.other ?_ ?_ _) | exact eqL rfl | (refine neB ?_; omega))); have Bf : Blk W11 (W2.heap.size) [.int .i64 f1, .int .i64 f2, .int .i64 f3] := Blk.keep hb (by repeat' (first | (with_reducible first | assumption | refine Blk.drew ?_ | refine Blk.drewN ?_ _ | apply Blk.set | (refine Blk.new ?_; focus (first | rfl | (simp; done))) | refine Blk.alloc ?_ _ | refine Blk.other ?_ ?_ _) | exact eqL rfl | (refine neB ?_; omega))); have ck := Bk.cell; have fk := Bk.free; have lk_W11 := Bk.lt; have cz := Bz.cell; have fz := Bz.free; have lz_W11 := Bz.lt; have cr := Br.cell; have fr := Br.free; have lr_W11 := Br.lt; have cm := Bm.cell; have fm := Bm.free; have lm_W11 := Bm.lt; have cf := Bf.cell; have ff := Bf.free; have lf_W11 := Bf.lt; have kaW11 : Acc w W11 := (by refine Acc.call ?_ hb; (repeat' (first | (with_reducible first | assumption | exact Acc.refl _ | refine Acc.drew ?_ | refine Acc.drewN ?_ _ | refine Acc.alloc ?_ _ | refine Acc.setCell ?_ ?_ _) | (refine leB ?_; omega)))); clear hb)
              | (go_at_call 64; refine (HX.out _).mono ?_; rintro e W12 ⟨h, -, hb⟩; obtain rfl := h _ _ _ _ _ _ _ _ _ _ _ _ rfl; clear h; (try (refine with_fact (A := Blk W12 (W2.heap.size + 1) [.int .i64 0, .int .i64 0, .int .i64 0, .int .i64 0, .int .i64 0, .int .i64 0, .int .i64 0, .int .i64 0, .int .i64 0, .int .i64 0, .int .i64 0, .int .i64 0]) ?_ ?_; (focus (refine Blk.keep hb ?_; (repeat' (first | (with_reducible first | assumption | refine Blk.drew ?_ | refine Blk.drewN ?_ _ | apply Blk.set | (refine Blk.new ?_; focus (first | rfl | (simp; done))) | refine Blk.alloc ?_ _ | refine Blk.other ?_ ?_ _) | exact eqL rfl | (refine neB ?_; omega))); done)); intro Bz1; have cz1 := Bz1.cell; have fz1 := Bz1.free; have lz1 := Bz1.lt)); (try (refine with_fact (A := Blk W12 (W11.heap.size) [.int .i64 0, .int .i64 0, .int .i64 0, .int .i64 0, .int .i64 0, .int .i64 0, .int .i64 0, .int .i64 0, .int .i64 0, .int .i64 0, .int .i64 0, .int .i64 0]) ?_ ?_; (focus (refine Blk.keep hb ?_; (repeat' (first | (with_reducible first | assumption | refine Blk.drew ?_ | refine Blk.drewN ?_ _ | apply Blk.set | (refine Blk.new ?_; focus (first | rfl | (simp; done))) | refine Blk.alloc ?_ _ | refine Blk.other ?_ ?_ _) | exact eqL rfl | (refine neB ?_; omega))); done)); intro Bz2; have cz2 := Bz2.cell; have fz2 := Bz2.free; have lz2 := Bz2.lt)); have Bk : Blk W12 (kb) [.int .i64 k] := Blk.keep hb (by repeat' (first | (with_reducible first | assumption | refine Blk.drew ?_ | refine Blk.drewN ?_ _ | apply Blk.set | (refine Blk.new ?_; focus (first | rfl | (simp; done))) | refine Blk.alloc ?_ _ | refine Blk.other ?_ ?_ _) | exact eqL rfl | (refine neB ?_; omega))); have Bz : Blk W12 (w.heap.size + 1 + 1) [.int .i64 0, .int .i64 0, .int .i64 0, .int .i64 0, .int .i64 0, .int .i64 0, .int .i64 0, .int .i64 0, .int .i64 0, .int .i64 0, .int .i64 0, .int .i64 0] := Blk.keep hb (by repeat' (first | (with_reducible first | assumption | refine Blk.drew ?_ | refine Blk.drewN ?_ _ | apply Blk.set | (refine Blk.new ?_; focus (first | rfl | (simp; done))) | refine Blk.alloc ?_ _ | refine Blk.other ?_ ?_ _) | exact eqL rfl | (refine neB ?_; omega))); have Br : Blk W12 (pr) [.int .i64 c1, .int .i64 c2, .int .i64 c3, .int .i64 (-s1), .int .i64 0, .int .i64 s3, .int .i64 s1, .int .i64 0, .int .i64 s3, .int .i64 c1, .int .i64 c2, .int .i64 c3] := Blk.keep hb (by repeat' (first | (with_reducible first | assumption | refine Blk.drew ?_ | refine Blk.drewN ?_ _ | apply Blk.set | (refine Blk.new ?_; focus (first | rfl | (simp; done))) | refine Blk.alloc ?_ _ | refine Blk.other ?_ ?_ _) | exact eqL rfl | (refine neB ?_; omega))); have Bm : Blk W12 (W1.heap.size) [.int .i64 m1, .int .i64 m2, .int .i64 m3, .int .i64 m4, .int .i64 m5, .int .i64 m6, .int .i64 m7, .int .i64 m8, .int .i64 m9, .int .i64 m10, .int .i64 m11, .int .i64 m12] := Blk.keep hb (by repeat' (first | (with_reducible first | assumption | refine Blk.drew ?_ | refine Blk.drewN ?_ _ | apply Blk.set | (refine Blk.new ?_; focus (first | rfl | (simp; done))) | refine Blk.alloc ?_ _ | refine Blk.other ?_ ?_ _) | exact eqL rfl | (refine neB ?_; omega))); have Bf : Blk W12 (W2.heap.size) [.int .i64 f1, .int .i64 f2, .int .i64 f3] := Blk.keep hb (by repeat' (first | (with_reducible first | assumption | refine Blk.drew ?_ | refine Blk.drewN ?_ _ | apply Blk.set | (refine Blk.new ?_; focus (first | rfl | (simp; done))) | refine Blk.alloc ?_ _ | refine Blk.other ?_ ?_ _) | exact eqL rfl | (refine neB ?_; omega))); have ck := Bk.cell; have fk := Bk.free; have lk_W12 := Bk.lt; have cz := Bz.cell; have fz := Bz.free; have lz_W12 := Bz.lt; have cr := Br.cell; have fr := Br.free; have lr_W12 := Br.lt; have cm := Bm.cell; have fm := Bm.free; have lm_W12 := Bm.lt; have cf := Bf.cell; have ff := Bf.free; have lf_W12 := Bf.lt; have kaW12 : Acc w W12 := (by refine Acc.call ?_ hb; (repeat' (first | (with_reducible first | assumption | exact Acc.refl _ | refine Acc.drew ?_ | refine Acc.drewN ?_ _ | refine Acc.alloc ?_ _ | refine Acc.setCell ?_ ?_ _) | (refine leB ?_; omega)))); clear hb))
          all_goals
            go_wp2_with fail
            go_meet
            refine ⟨_, rfl, rfl, ?_⟩
            and_intros
            all_goals
              first
                | ((repeat' (first | (with_reducible first | assumption | refine Blk.drew ?_ | refine Blk.drewN ?_ _ | apply Blk.set | (refine Blk.new ?_; focus (first | rfl | (simp; done))) | refine Blk.alloc ?_ _ | refine Blk.other ?_ ?_ _) | exact eqL rfl | (refine neB ?_; omega))); done)
                | ((show Acc w _); (repeat' (first | (with_reducible first | assumption | exact Acc.refl _ | refine Acc.drew ?_ | refine Acc.drewN ?_ _ | refine Acc.alloc ?_ _ | refine Acc.setCell ?_ ?_ _) | (refine leB ?_; omega))); done)
        case rest =>
          obtain ⟨px, rfl, rfl, Bx, Bk, Bz, Br, Bm, Bf, kawc⟩ := hcut
          have ck := Bk.cell
          have fk := Bk.free
          have lk_wc := Bk.lt
          have cz := Bz.cell
          have fz := Bz.free
          have lz_wc := Bz.lt
          have cr := Br.cell
          have fr := Br.free
          have lr_wc := Br.lt
          have cm := Bm.cell
          have fm := Bm.free
          have lm_wc := Bm.lt
          have cf := Bf.cell
          have ff := Bf.free
          have lf_wc := Bf.lt
          have cx := Bx.cell
          have fx := Bx.free
          have lx_wc := Bx.lt
          go_wp2_with fail
          refine (HZ.out _).mono ?_
          rintro e W3 ⟨h1, h2, hb⟩
          obtain ⟨Bk, Bz, Br, Bm, Bf, Bx⟩ : Blk W3 (kb) [.int .i64 k] ∧ Blk W3 (w.heap.size + 1 + 1) [.int .i64 0, .int .i64 0, .int .i64 0, .int .i64 0, .int .i64 0, .int .i64 0, .int .i64 0, .int .i64 0, .int .i64 0, .int .i64 0, .int .i64 0, .int .i64 0] ∧ Blk W3 (pr) [.int .i64 c1, .int .i64 c2, .int .i64 c3, .int .i64 (-s1), .int .i64 0, .int .i64 s3, .int .i64 s1, .int .i64 0, .int .i64 s3, .int .i64 c1, .int .i64 c2, .int .i64 c3] ∧ Blk W3 (W1.heap.size) [.int .i64 m1, .int .i64 m2, .int .i64 m3, .int .i64 m4, .int .i64 m5, .int .i64 m6, .int .i64 m7, .int .i64 m8, .int .i64 m9, .int .i64 m10, .int .i64 m11, .int .i64 m12] ∧ Blk W3 (W2.heap.size) [.int .i64 f1, .int .i64 f2, .int .i64 f3] ∧ Blk W3 (px) [.int .i64 x1, .int .i64 x2, .int .i64 x3, .int .i64 x4, .int .i64 x5, .int .i64 x6, .int .i64 x7, .int .i64 x8, .int .i64 x9, .int .i64 x10, .int .i64 x11, .int .i64 x12] := by
            refine ⟨?_, ?_, ?_, ?_, ?_, ?_⟩ <;> refine Blk.keep hb ?_ <;> (repeat' (first | (with_reducible first | assumption | refine Blk.drew ?_ | refine Blk.drewN ?_ _ | apply Blk.set | (refine Blk.new ?_; focus (first | rfl | (simp; done))) | refine Blk.alloc ?_ _ | refine Blk.other ?_ ?_ _) | exact eqL rfl | (refine neB ?_; omega)))
          have ck := Bk.cell
          have fk := Bk.free
          have lk_W3 := Bk.lt
          have cz := Bz.cell
          have fz := Bz.free
          have lz_W3 := Bz.lt
          have cr := Br.cell
          have fr := Br.free
          have lr_W3 := Br.lt
          have cm := Bm.cell
          have fm := Bm.free
          have lm_W3 := Bm.lt
          have cf := Bf.cell
          have ff := Bf.free
          have lf_W3 := Bf.lt
          have cx := Bx.cell
          have fx := Bx.free
          have lx_W3 := Bx.lt
          have kaW3 : Acc w W3 := by
            refine Acc.call ?_ hb
            (repeat' (first | (with_reducible first | assumption | exact Acc.refl _ | refine Acc.drew ?_ | refine Acc.drewN ?_ _ | refine Acc.alloc ?_ _ | refine Acc.setCell ?_ ?_ _) | (refine leB ?_; omega)))
          clear hb
          cases rr with
          | none =>
            obtain ⟨s, rfl⟩ := h2 rfl
            clear h1 h2
            go_wp2_with fail
            refine bodyPost_ret (v := .tuple #[.agg #[.int .i64 0, .int .i64 0, .int .i64 0, .int .i64 0, .int .i64 0, .int .i64 0, .int .i64 0, .int .i64 0, .int .i64 0, .int .i64 0, .int .i64 0, .int .i64 0], .iface 142 (.agg #[.string s])]) (by simp [results, Tryz.results137, go_sem, *]) rfl ⟨fun _ _ _ _ _ _ _ _ _ _ _ _ h => (by cases h), fun _ => ⟨_, rfl⟩, ?_⟩
            show Acc w _
            (repeat' (first | (with_reducible first | assumption | exact Acc.refl _ | refine Acc.drew ?_ | refine Acc.drewN ?_ _ | refine Acc.alloc ?_ _ | refine Acc.setCell ?_ ?_ _) | (refine leB ?_; omega)))
          | some v =>
            obtain ⟨⟨y1, y2, y3⟩, ⟨y4, y5, y6⟩, ⟨y7, y8, y9⟩, y10, y11, y12⟩ := v
            obtain rfl := h1 _ _ _ _ _ _ _ _ _ _ _ _ rfl
            clear h1 h2
            go_wp2_with fail
            refine bodyPost_ret (v := .tuple #[.agg #[.int .i64 y1, .int .i64 y2, .int .i64 y3, .int .i64 y4, .int .i64 y5, .int .i64 y6, .int .i64 y7, .int .i64 y8, .int .i64 y9, .int .i64 y10, .int .i64 y11, .int .i64 y12], .nilIface]) (by simp [results, Tryz.results137, go_sem, *]) rfl ⟨fun _ _ _ _ _ _ _ _ _ _ _ _ h => (by cases h; rfl), fun h => (by cases h), ?_⟩
            show Acc w _
            (repeat' (first | (with_reducible first | assumption | exact Acc.refl _ | refine Acc.drew ?_ | refine Acc.drewN ?_ _ | refine Acc.alloc ?_ _ | refine Acc.setCell ?_ ?_ _) | (refine leB ?_; omega)))
end Go.Proofs.YtkdkeacfifjjoabGreatDoor
