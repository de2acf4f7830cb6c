/-
  The model: films: a times B, and C.
-/
import Derived.Test.YtpgklllgmfaekaaGreatDoorSpecF2
import Derived.Test.YtpgklllgmfaekaaGreatDoorSpecM2
import Derived.Deep.RegionHeld3
import Derived.Test.YtpgklllgmfaekaaGreatDoorFlag
import Derived.Test.YtpgklllgmfaekaaGreatDoorRow
namespace Go.Proofs.YtpgklllgmfaekaaGreatDoor
open Go.ChangeShapes Go.WideShapes Go.ChangeAt Go.RowKit
set_option linter.unusedVariables false

set_option linter.unusedSimpArgs false
/-- A told vector, its letters open. -/
theorem gave6_at (o : Option (F3 × F3)) : ∃ r1 r2 r3 r4 r5 r6 : Int, ∃ k : Bool, (k = true → o = some ((r1, r2, r3), (r4, r5, r6))) ∧ (k = false → o = none) ∧ ∀ P f ar w, Calls P f ar w (Gave6 o w) → Calls P f ar w fun e w' => e = .returned (.tuple #[.agg #[.int .i64 r1, .int .i64 r2, .int .i64 r3, .int .i64 r4, .int .i64 r5, .int .i64 r6], .bool k]) ∧ Below w.heap.size w w' := by
  cases o with
  | none => exact ⟨0, 0, 0, 0, 0, 0, false, (fun h => by cases h), (fun _ => rfl), fun P f ar w c => c.mono fun e w' h => ⟨h.2.1 rfl, h.2.2⟩⟩
  | some v =>
    obtain ⟨⟨u1, u2, u3⟩, u4, u5, u6⟩ := v
    exact ⟨u1, u2, u3, u4, u5, u6, true, (fun _ => rfl), (fun h => by cases h), fun P f ar w c => c.mono fun e w' h => ⟨h.1 _ _ _ _ _ _ rfl, h.2.2⟩⟩
/-- a times B, C, and whether both are told. -/
def EndsOut (o : Option (F3 × F3)) (w : World) (e : Ending) (w' : World) : Prop :=
  ∃ (t1 t2 t3 c1 c2 c3 : Int) (k : Bool), e = .returned (.tuple #[.agg #[.int .i64 t1, .int .i64 t2, .int .i64 t3], .agg #[.int .i64 c1, .int .i64 c2, .int .i64 c3], .bool k]) ∧ (k = true → o = some ((t1, t2, t3), (c1, c2, c3))) ∧ (k = false → o = none) ∧ Below w.heap.size w w'
theorem bb_of (a b : Int) : (a == b) = true ∨ (a == b) = false := by cases a == b <;> simp
theorem okX_z {n1 n2 n3 : Int} (h : ((n1 == 0) && (n2 == 0)) = true) : okX (n1, n2, n3) = false := by
  unfold okX
  show (okT (n1, n2, n3) && !((n1 == 0) && (n2 == 0))) = false
  rw [h]
  simp
theorem okX_y {n1 n2 n3 : Int} (h : okF n1 n2 n3 = true) (k : ((n1 == 0) && (n2 == 0)) = false) : okX (n1, n2, n3) = true := by
  unfold okX okT
  show (okF n1 n2 n3 && !((n1 == 0) && (n2 == 0))) = true
  rw [h, k]
  rfl
theorem okX_n {n1 n2 n3 : Int} (h : okF n1 n2 n3 = false) : okX (n1, n2, n3) = false := by
  unfold okX okT
  show (okF n1 n2 n3 && _) = false
  rw [h]
  rfl
set_option maxRecDepth 100000 in
set_option maxHeartbeats 32000000 in
theorem specEnds_any (a : Option Addr) (ls : List L4) (cap : Nat) (x1 x2 x3 y1 y2 y3 : Int) (w : World) (h : Lys w a ls) (hn : ls.length ≤ 1048576) : Calls Tryz.prog 29 #[.slice a ls.length cap, .agg #[.int .i64 x1, .int .i64 x2, .int .i64 x3], .agg #[.int .i64 y1, .int .i64 y2, .int .i64 y3]] w (EndsOut (sidM ls (x1, x2, x3) (y1, y2, y3)) w) := by
  have H := Lib.hid h
  obtain ⟨m1, m2, m3, m4, m5, m6, m7, m8, m9, m10, m11, m12, km, m1', m2', mv⟩ := gave12_at (flmM ls)
  have TM := Lib.hid fun (W : World) (ka : Acc w W) => mv _ _ _ W (specFlMat_any a ls cap W (h.keep ka) hn)
  have M1 := Lib.hid m1'
  have M2 := Lib.hid m2'
  clear h m1' m2' mv
  obtain ⟨v1, v2, v3, v4, v5, v6, kv, v1', v2', vv⟩ := gave6_at (appM ((m1, m2, m3), (m4, m5, m6), (m7, m8, m9), (m10, m11, m12)) ((1, 0, 1), (y1, y2, y3)))
  have TV := Lib.hid fun W => vv _ _ _ W (specMApply_any m1 m2 m3 m4 m5 m6 m7 m8 m9 m10 m11 m12 1 0 1 y1 y2 y3 W)
  have V1 := Lib.hid v1'
  have V2 := Lib.hid v2'
  clear v1' v2' vv
  obtain ⟨⟨t1, t2, t3⟩, hv⟩ : ∃ o, partsR (timesF x1 x2 x3 v1 v2 v3) = o := ⟨_, rfl⟩
  obtain ⟨kt, hk⟩ : ∃ k, okR (timesF x1 x2 x3 v1 v2 v3) = k := ⟨_, rfl⟩
  have Ct := Lib.hid hv
  have Dt := Lib.hid hk
  clear hv hk
  obtain ⟨va, hv⟩ : ∃ v, okF x1 x2 x3 = v := ⟨_, rfl⟩
  have VA := Lib.hid hv
  clear hv
  obtain ⟨vb, hv⟩ : ∃ v, okF y1 y2 y3 = v := ⟨_, rfl⟩
  have VB := Lib.hid hv
  clear hv
  obtain ⟨zz, hz⟩ : ∃ z, (((x1 == 0) && (x2 == 0)) || ((y1 == 0) && (y2 == 0))) = z := ⟨_, rfl⟩
  have ZZ := Lib.hid hz
  clear hz
  obtain ⟨o, E⟩ : ∃ o, sidM ls (x1, x2, x3) (y1, y2, y3) = o := ⟨_, rfl⟩
  rw [E]
  have HE := Lib.hid E
  clear E
  go_enter Tryz.func29, Tryz.ntmps29
  go_wp2_with fail
  refine (TM.out _ (by repeat' (first | (with_reducible first | assumption | exact Acc.refl _ | refine Acc.drew ?_ | refine Acc.drewN ?_ _ | refine Acc.alloc ?_ _ | refine Acc.setCell ?_ ?_ _) | (refine leB ?_; omega)))).mono ?_
  rintro e W1 ⟨rfl, hb⟩
  have Ba : Blk W1 (w.heap.size) [.int .i64 x1, .int .i64 x2, .int .i64 x3] := Blk.keep hb (by repeat' (first | (with_reducible first | assumption | refine Blk.drew ?_ | refine Blk.drewN ?_ _ | apply Blk.set | (refine Blk.new ?_; focus (first | rfl | (simp; done))) | refine Blk.alloc ?_ _ | refine Blk.other ?_ ?_ _) | exact eqL rfl | (refine neB ?_; omega)))
  have Bb : Blk W1 (w.heap.size + 1) [.int .i64 y1, .int .i64 y2, .int .i64 y3] := Blk.keep hb (by repeat' (first | (with_reducible first | assumption | refine Blk.drew ?_ | refine Blk.drewN ?_ _ | apply Blk.set | (refine Blk.new ?_; focus (first | rfl | (simp; done))) | refine Blk.alloc ?_ _ | refine Blk.other ?_ ?_ _) | exact eqL rfl | (refine neB ?_; omega)))
  have Br : Blk W1 (w.heap.size + 1 + 1) [.int .i64 0, .int .i64 0, .int .i64 0] := Blk.keep hb (by repeat' (first | (with_reducible first | assumption | refine Blk.drew ?_ | refine Blk.drewN ?_ _ | apply Blk.set | (refine Blk.new ?_; focus (first | rfl | (simp; done))) | refine Blk.alloc ?_ _ | refine Blk.other ?_ ?_ _) | exact eqL rfl | (refine neB ?_; omega)))
  have Bs : Blk W1 (w.heap.size + 1 + 1 + 1) [.int .i64 0, .int .i64 0, .int .i64 0] := Blk.keep hb (by repeat' (first | (with_reducible first | assumption | refine Blk.drew ?_ | refine Blk.drewN ?_ _ | apply Blk.set | (refine Blk.new ?_; focus (first | rfl | (simp; done))) | refine Blk.alloc ?_ _ | refine Blk.other ?_ ?_ _) | exact eqL rfl | (refine neB ?_; omega)))
  have ca := Ba.cell
  have fa := Ba.free
  have la_W1 := Ba.lt
  have cb := Bb.cell
  have fb := Bb.free
  have lb_W1 := Bb.lt
  have cr := Br.cell
  have fr := Br.free
  have lr_W1 := Br.lt
  have cs := Bs.cell
  have fs := Bs.free
  have ls_W1 := Bs.lt
  have kaW1 : Acc w W1 := by
    refine Acc.call ?_ hb
    (repeat' (first | (with_reducible first | assumption | exact Acc.refl _ | refine Acc.drew ?_ | refine Acc.drewN ?_ _ | refine Acc.alloc ?_ _ | refine Acc.setCell ?_ ?_ _) | (refine leB ?_; omega)))
  clear hb
  go_upto_region 2 with fail
  go_cut [11] (fun s11 wx => s11 = .bool zz ∧ Blk wx (w.heap.size) [.int .i64 x1, .int .i64 x2, .int .i64 x3] ∧ Blk wx (w.heap.size + 1) [.int .i64 y1, .int .i64 y2, .int .i64 y3] ∧ Blk wx (w.heap.size + 1 + 1) [.int .i64 0, .int .i64 0, .int .i64 0] ∧ Blk wx (w.heap.size + 1 + 1 + 1) [.int .i64 0, .int .i64 0, .int .i64 0] ∧ Blk wx (W1.heap.size) [.int .i64 m1, .int .i64 m2, .int .i64 m3, .int .i64 m4, .int .i64 m5, .int .i64 m6, .int .i64 m7, .int .i64 m8, .int .i64 m9, .int .i64 m10, .int .i64 m11, .int .i64 m12] ∧ Acc w wx)
  case first =>
    rcases bb_of x1 0 with z1 | z1
    · rcases bb_of x2 0 with z2 | z2
      ·
        obtain rfl : zz = true := ZZ.out.symm.trans (by rw [z1, z2]; rfl)
        go_wp2_with fail
        go_meet
        refine ⟨rfl, ?_⟩
        and_intros
        all_goals
          first
            | ((repeat' (first | (with_reducible first | assumption | refine Blk.drew ?_ | refine Blk.drewN ?_ _ | apply Blk.set | (refine Blk.new ?_; focus (first | rfl | (simp; done))) | refine Blk.alloc ?_ _ | refine Blk.other ?_ ?_ _) | exact eqL rfl | (refine neB ?_; omega))); done)
            | ((show Acc w _); (repeat' (first | (with_reducible first | assumption | exact Acc.refl _ | refine Acc.drew ?_ | refine Acc.drewN ?_ _ | refine Acc.alloc ?_ _ | refine Acc.setCell ?_ ?_ _) | (refine leB ?_; omega))); done)
      ·
        rcases bb_of y1 0 with z3 | z3
        · rcases bb_of y2 0 with z4 | z4
          ·
            obtain rfl : zz = true := ZZ.out.symm.trans (by rw [z1, z2, z3, z4]; rfl)
            go_wp2_with fail
            go_meet
            refine ⟨rfl, ?_⟩
            and_intros
            all_goals
              first
                | ((repeat' (first | (with_reducible first | assumption | refine Blk.drew ?_ | refine Blk.drewN ?_ _ | apply Blk.set | (refine Blk.new ?_; focus (first | rfl | (simp; done))) | refine Blk.alloc ?_ _ | refine Blk.other ?_ ?_ _) | exact eqL rfl | (refine neB ?_; omega))); done)
                | ((show Acc w _); (repeat' (first | (with_reducible first | assumption | exact Acc.refl _ | refine Acc.drew ?_ | refine Acc.drewN ?_ _ | refine Acc.alloc ?_ _ | refine Acc.setCell ?_ ?_ _) | (refine leB ?_; omega))); done)
          ·
            obtain rfl : zz = false := ZZ.out.symm.trans (by rw [z1, z2, z3, z4]; rfl)
            go_wp2_with fail
            go_meet
            refine ⟨rfl, ?_⟩
            and_intros
            all_goals
              first
                | ((repeat' (first | (with_reducible first | assumption | refine Blk.drew ?_ | refine Blk.drewN ?_ _ | apply Blk.set | (refine Blk.new ?_; focus (first | rfl | (simp; done))) | refine Blk.alloc ?_ _ | refine Blk.other ?_ ?_ _) | exact eqL rfl | (refine neB ?_; omega))); done)
                | ((show Acc w _); (repeat' (first | (with_reducible first | assumption | exact Acc.refl _ | refine Acc.drew ?_ | refine Acc.drewN ?_ _ | refine Acc.alloc ?_ _ | refine Acc.setCell ?_ ?_ _) | (refine leB ?_; omega))); done)
        ·
          obtain rfl : zz = false := ZZ.out.symm.trans (by rw [z1, z2, z3]; rfl)
          go_wp2_with fail
          go_meet
          refine ⟨rfl, ?_⟩
          and_intros
          all_goals
            first
              | ((repeat' (first | (with_reducible first | assumption | refine Blk.drew ?_ | refine Blk.drewN ?_ _ | apply Blk.set | (refine Blk.new ?_; focus (first | rfl | (simp; done))) | refine Blk.alloc ?_ _ | refine Blk.other ?_ ?_ _) | exact eqL rfl | (refine neB ?_; omega))); done)
              | ((show Acc w _); (repeat' (first | (with_reducible first | assumption | exact Acc.refl _ | refine Acc.drew ?_ | refine Acc.drewN ?_ _ | refine Acc.alloc ?_ _ | refine Acc.setCell ?_ ?_ _) | (refine leB ?_; omega))); done)
    ·
      rcases bb_of y1 0 with z3 | z3
      · rcases bb_of y2 0 with z4 | z4
        ·
          obtain rfl : zz = true := ZZ.out.symm.trans (by rw [z1, z3, z4]; rfl)
          go_wp2_with fail
          go_meet
          refine ⟨rfl, ?_⟩
          and_intros
          all_goals
            first
              | ((repeat' (first | (with_reducible first | assumption | refine Blk.drew ?_ | refine Blk.drewN ?_ _ | apply Blk.set | (refine Blk.new ?_; focus (first | rfl | (simp; done))) | refine Blk.alloc ?_ _ | refine Blk.other ?_ ?_ _) | exact eqL rfl | (refine neB ?_; omega))); done)
              | ((show Acc w _); (repeat' (first | (with_reducible first | assumption | exact Acc.refl _ | refine Acc.drew ?_ | refine Acc.drewN ?_ _ | refine Acc.alloc ?_ _ | refine Acc.setCell ?_ ?_ _) | (refine leB ?_; omega))); done)
        ·
          obtain rfl : zz = false := ZZ.out.symm.trans (by rw [z1, z3, z4]; rfl)
          go_wp2_with fail
          go_meet
          refine ⟨rfl, ?_⟩
          and_intros
          all_goals
            first
              | ((repeat' (first | (with_reducible first | assumption | refine Blk.drew ?_ | refine Blk.drewN ?_ _ | apply Blk.set | (refine Blk.new ?_; focus (first | rfl | (simp; done))) | refine Blk.alloc ?_ _ | refine Blk.other ?_ ?_ _) | exact eqL rfl | (refine neB ?_; omega))); done)
              | ((show Acc w _); (repeat' (first | (with_reducible first | assumption | exact Acc.refl _ | refine Acc.drew ?_ | refine Acc.drewN ?_ _ | refine Acc.alloc ?_ _ | refine Acc.setCell ?_ ?_ _) | (refine leB ?_; omega))); done)
      ·
        obtain rfl : zz = false := ZZ.out.symm.trans (by rw [z1, z3]; rfl)
        go_wp2_with fail
        go_meet
        refine ⟨rfl, ?_⟩
        and_intros
        all_goals
          first
            | ((repeat' (first | (with_reducible first | assumption | refine Blk.drew ?_ | refine Blk.drewN ?_ _ | apply Blk.set | (refine Blk.new ?_; focus (first | rfl | (simp; done))) | refine Blk.alloc ?_ _ | refine Blk.other ?_ ?_ _) | exact eqL rfl | (refine neB ?_; omega))); done)
            | ((show Acc w _); (repeat' (first | (with_reducible first | assumption | exact Acc.refl _ | refine Acc.drew ?_ | refine Acc.drewN ?_ _ | refine Acc.alloc ?_ _ | refine Acc.setCell ?_ ?_ _) | (refine leB ?_; omega))); done)
  case rest =>
    obtain ⟨rfl, Ba, Bb, Br, Bs, Bm, kawc⟩ := hcut
    have ca := Ba.cell
    have fa := Ba.free
    have la_wc := Ba.lt
    have cb := Bb.cell
    have fb := Bb.free
    have lb_wc := Bb.lt
    have cr := Br.cell
    have fr := Br.free
    have lr_wc := Br.lt
    have cs := Bs.cell
    have fs := Bs.free
    have ls_wc := Bs.lt
    have cm := Bm.cell
    have fm := Bm.free
    have lm_wc := Bm.lt
    cases km with
    | false =>
      go_wp2_with fail
      obtain rfl : o = none := HE.out.symm.trans (by unfold sidM; rw [M2.out (by first | rfl | trivial)]; split <;> rfl)
      refine bodyPost_ret (v := .tuple #[.agg #[.int .i64 0, .int .i64 0, .int .i64 0], .agg #[.int .i64 0, .int .i64 0, .int .i64 0], .bool false]) (by simp [results, Tryz.results29, go_sem, *]) rfl ⟨0, 0, 0, 0, 0, 0, false, rfl, (fun h => by cases h), (fun _ => rfl), ?_⟩
      show Acc w _
      (repeat' (first | (with_reducible first | assumption | exact Acc.refl _ | refine Acc.drew ?_ | refine Acc.drewN ?_ _ | refine Acc.alloc ?_ _ | refine Acc.setCell ?_ ?_ _) | (refine leB ?_; omega)))
    | true =>
      go_wp2_with fail
      refine (valid_at VA.out (specValid_any x1 x2 x3 _)).mono ?_
      rintro e W2 ⟨rfl, hb⟩
      have Ba : Blk W2 (w.heap.size) [.int .i64 x1, .int .i64 x2, .int .i64 x3] := Blk.keep hb (by repeat' (first | (with_reducible first | assumption | refine Blk.drew ?_ | refine Blk.drewN ?_ _ | apply Blk.set | (refine Blk.new ?_; focus (first | rfl | (simp; done))) | refine Blk.alloc ?_ _ | refine Blk.other ?_ ?_ _) | exact eqL rfl | (refine neB ?_; omega)))
      have Bb : Blk W2 (w.heap.size + 1) [.int .i64 y1, .int .i64 y2, .int .i64 y3] := Blk.keep hb (by repeat' (first | (with_reducible first | assumption | refine Blk.drew ?_ | refine Blk.drewN ?_ _ | apply Blk.set | (refine Blk.new ?_; focus (first | rfl | (simp; done))) | refine Blk.alloc ?_ _ | refine Blk.other ?_ ?_ _) | exact eqL rfl | (refine neB ?_; omega)))
      have Br : Blk W2 (w.heap.size + 1 + 1) [.int .i64 0, .int .i64 0, .int .i64 0] := Blk.keep hb (by repeat' (first | (with_reducible first | assumption | refine Blk.drew ?_ | refine Blk.drewN ?_ _ | apply Blk.set | (refine Blk.new ?_; focus (first | rfl | (simp; done))) | refine Blk.alloc ?_ _ | refine Blk.other ?_ ?_ _) | exact eqL rfl | (refine neB ?_; omega)))
      have Bs : Blk W2 (w.heap.size + 1 + 1 + 1) [.int .i64 0, .int .i64 0, .int .i64 0] := Blk.keep hb (by repeat' (first | (with_reducible first | assumption | refine Blk.drew ?_ | refine Blk.drewN ?_ _ | apply Blk.set | (refine Blk.new ?_; focus (first | rfl | (simp; done))) | refine Blk.alloc ?_ _ | refine Blk.other ?_ ?_ _) | exact eqL rfl | (refine neB ?_; omega)))
      have Bm : Blk W2 (W1.heap.size) [.int .i64 m1, .int .i64 m2, .int .i64 m3, .int .i64 m4, .int .i64 m5, .int .i64 m6, .int .i64 m7, .int .i64 m8, .int .i64 m9, .int .i64 m10, .int .i64 m11, .int .i64 m12] := Blk.keep hb (by repeat' (first | (with_reducible first | assumption | refine Blk.drew ?_ | refine Blk.drewN ?_ _ | apply Blk.set | (refine Blk.new ?_; focus (first | rfl | (simp; done))) | refine Blk.alloc ?_ _ | refine Blk.other ?_ ?_ _) | exact eqL rfl | (refine neB ?_; omega)))
      have ca := Ba.cell
      have fa := Ba.free
      have la_W2 := Ba.lt
      have cb := Bb.cell
      have fb := Bb.free
      have lb_W2 := Bb.lt
      have cr := Br.cell
      have fr := Br.free
      have lr_W2 := Br.lt
      have cs := Bs.cell
      have fs := Bs.free
      have ls_W2 := Bs.lt
      have cm := Bm.cell
      have fm := Bm.free
      have lm_W2 := Bm.lt
      have kaW2 : Acc w W2 := by
        refine Acc.call ?_ hb
        (repeat' (first | (with_reducible first | assumption | exact Acc.refl _ | refine Acc.drew ?_ | refine Acc.drewN ?_ _ | refine Acc.alloc ?_ _ | refine Acc.setCell ?_ ?_ _) | (refine leB ?_; omega)))
      clear hb
      cases va with
      | false =>
        go_wp2_with fail
        obtain rfl : o = none := HE.out.symm.trans (by unfold sidM; rw [okX_n VA.out, Bool.false_and]; rfl)
        refine bodyPost_ret (v := .tuple #[.agg #[.int .i64 0, .int .i64 0, .int .i64 0], .agg #[.int .i64 0, .int .i64 0, .int .i64 0], .bool false]) (by simp [results, Tryz.results29, go_sem, *]) rfl ⟨0, 0, 0, 0, 0, 0, false, rfl, (fun h => by cases h), (fun _ => rfl), ?_⟩
        show Acc w _
        (repeat' (first | (with_reducible first | assumption | exact Acc.refl _ | refine Acc.drew ?_ | refine Acc.drewN ?_ _ | refine Acc.alloc ?_ _ | refine Acc.setCell ?_ ?_ _) | (refine leB ?_; omega)))
      | true =>
        go_wp2_with fail
        refine (valid_at VB.out (specValid_any y1 y2 y3 _)).mono ?_
        rintro e W3 ⟨rfl, hb⟩
        have Ba : Blk W3 (w.heap.size) [.int .i64 x1, .int .i64 x2, .int .i64 x3] := Blk.keep hb (by repeat' (first | (with_reducible first | assumption | refine Blk.drew ?_ | refine Blk.drewN ?_ _ | apply Blk.set | (refine Blk.new ?_; focus (first | rfl | (simp; done))) | refine Blk.alloc ?_ _ | refine Blk.other ?_ ?_ _) | exact eqL rfl | (refine neB ?_; omega)))
        have Bb : Blk W3 (w.heap.size + 1) [.int .i64 y1, .int .i64 y2, .int .i64 y3] := Blk.keep hb (by repeat' (first | (with_reducible first | assumption | refine Blk.drew ?_ | refine Blk.drewN ?_ _ | apply Blk.set | (refine Blk.new ?_; focus (first | rfl | (simp; done))) | refine Blk.alloc ?_ _ | refine Blk.other ?_ ?_ _) | exact eqL rfl | (refine neB ?_; omega)))
        have Br : Blk W3 (w.heap.size + 1 + 1) [.int .i64 0, .int .i64 0, .int .i64 0] := Blk.keep hb (by repeat' (first | (with_reducible first | assumption | refine Blk.drew ?_ | refine Blk.drewN ?_ _ | apply Blk.set | (refine Blk.new ?_; focus (first | rfl | (simp; done))) | refine Blk.alloc ?_ _ | refine Blk.other ?_ ?_ _) | exact eqL rfl | (refine neB ?_; omega)))
        have Bs : Blk W3 (w.heap.size + 1 + 1 + 1) [.int .i64 0, .int .i64 0, .int .i64 0] := Blk.keep hb (by repeat' (first | (with_reducible first | assumption | refine Blk.drew ?_ | refine Blk.drewN ?_ _ | apply Blk.set | (refine Blk.new ?_; focus (first | rfl | (simp; done))) | refine Blk.alloc ?_ _ | refine Blk.other ?_ ?_ _) | exact eqL rfl | (refine neB ?_; omega)))
        have Bm : Blk W3 (W1.heap.size) [.int .i64 m1, .int .i64 m2, .int .i64 m3, .int .i64 m4, .int .i64 m5, .int .i64 m6, .int .i64 m7, .int .i64 m8, .int .i64 m9, .int .i64 m10, .int .i64 m11, .int .i64 m12] := Blk.keep hb (by repeat' (first | (with_reducible first | assumption | refine Blk.drew ?_ | refine Blk.drewN ?_ _ | apply Blk.set | (refine Blk.new ?_; focus (first | rfl | (simp; done))) | refine Blk.alloc ?_ _ | refine Blk.other ?_ ?_ _) | exact eqL rfl | (refine neB ?_; omega)))
        have ca := Ba.cell
        have fa := Ba.free
        have la_W3 := Ba.lt
        have cb := Bb.cell
        have fb := Bb.free
        have lb_W3 := Bb.lt
        have cr := Br.cell
        have fr := Br.free
        have lr_W3 := Br.lt
        have cs := Bs.cell
        have fs := Bs.free
        have ls_W3 := Bs.lt
        have cm := Bm.cell
        have fm := Bm.free
        have lm_W3 := Bm.lt
        have kaW3 : Acc w W3 := by
          refine Acc.call ?_ hb
          (repeat' (first | (with_reducible first | assumption | exact Acc.refl _ | refine Acc.drew ?_ | refine Acc.drewN ?_ _ | refine Acc.alloc ?_ _ | refine Acc.setCell ?_ ?_ _) | (refine leB ?_; omega)))
        clear hb
        cases vb with
        | false =>
          go_wp2_with fail
          obtain rfl : o = none := HE.out.symm.trans (by unfold sidM; rw [okX_n VB.out, Bool.and_false]; rfl)
          refine bodyPost_ret (v := .tuple #[.agg #[.int .i64 0, .int .i64 0, .int .i64 0], .agg #[.int .i64 0, .int .i64 0, .int .i64 0], .bool false]) (by simp [results, Tryz.results29, go_sem, *]) rfl ⟨0, 0, 0, 0, 0, 0, false, rfl, (fun h => by cases h), (fun _ => rfl), ?_⟩
          show Acc w _
          (repeat' (first | (with_reducible first | assumption | exact Acc.refl _ | refine Acc.drew ?_ | refine Acc.drewN ?_ _ | refine Acc.alloc ?_ _ | refine Acc.setCell ?_ ?_ _) | (refine leB ?_; omega)))
        | true =>
          cases zz with
          | true =>
            go_wp2_with fail
            obtain rfl : o = none := HE.out.symm.trans (by unfold sidM; rcases Bool.or_eq_true_iff.1 ZZ.out with z | z; rw [okX_z z, Bool.false_and]; rfl; rw [okX_z z, Bool.and_false]; rfl)
            refine bodyPost_ret (v := .tuple #[.agg #[.int .i64 0, .int .i64 0, .int .i64 0], .agg #[.int .i64 0, .int .i64 0, .int .i64 0], .bool false]) (by simp [results, Tryz.results29, go_sem, *]) rfl ⟨0, 0, 0, 0, 0, 0, false, rfl, (fun h => by cases h), (fun _ => rfl), ?_⟩
            show Acc w _
            (repeat' (first | (with_reducible first | assumption | exact Acc.refl _ | refine Acc.drew ?_ | refine Acc.drewN ?_ _ | refine Acc.alloc ?_ _ | refine Acc.setCell ?_ ?_ _) | (refine leB ?_; omega)))
          | false =>
            have HG : RowKit.Hid (sidM ls (x1, x2, x3) (y1, y2, y3) = (appM ((m1, m2, m3), (m4, m5, m6), (m7, m8, m9), (m10, m11, m12)) ((1, 0, 1), (y1, y2, y3))).bind fun v => (tT (x1, x2, x3) v.1).bind fun x => some (x, v.2)) := Lib.hid (by
              obtain ⟨z1, z2⟩ := Bool.or_eq_false_iff.1 ZZ.out
              unfold sidM
              rw [okX_y VA.out z1, okX_y VB.out z2, M1.out (by first | rfl | trivial)]
              rfl)
            clear M1 M2 VA VB ZZ
            go_upto_region 5 with fail
            go_cut [12, 13] (fun s12 s13 wx => ∃ pv1x : Nat, s12 = .pointer (some ⟨pv1x, 0, none⟩) ∧ s13 = .bool kv ∧ Blk wx (pv1x) [.int .i64 v1, .int .i64 v2, .int .i64 v3, .int .i64 v4, .int .i64 v5, .int .i64 v6] ∧ Blk wx (w.heap.size) [.int .i64 x1, .int .i64 x2, .int .i64 x3] ∧ Blk wx (w.heap.size + 1) [.int .i64 y1, .int .i64 y2, .int .i64 y3] ∧ Blk wx (w.heap.size + 1 + 1) [.int .i64 0, .int .i64 0, .int .i64 0] ∧ Blk wx (w.heap.size + 1 + 1 + 1) [.int .i64 0, .int .i64 0, .int .i64 0] ∧ Blk wx (W1.heap.size) [.int .i64 m1, .int .i64 m2, .int .i64 m3, .int .i64 m4, .int .i64 m5, .int .i64 m6, .int .i64 m7, .int .i64 m8, .int .i64 m9, .int .i64 m10, .int .i64 m11, .int .i64 m12] ∧ w.heap.size < pv1x ∧ w.heap.size + 1 < pv1x ∧ w.heap.size + 1 + 1 < pv1x ∧ w.heap.size + 1 + 1 + 1 < pv1x ∧ W1.heap.size < pv1x ∧ Acc w wx)
            case first =>
              go_region_held3 (fun w' => (∀ k, w'.cell? ⟨w.heap.size + 1, k, none⟩ = [.int .i64 y1, .int .i64 y2, .int .i64 y3][k]?) ∧ (∀ k, w'.cell? ⟨W1.heap.size, k, none⟩ = [.int .i64 m1, .int .i64 m2, .int .i64 m3, .int .i64 m4, .int .i64 m5, .int .i64 m6, .int .i64 m7, .int .i64 m8, .int .i64 m9, .int .i64 m10, .int .i64 m11, .int .i64 m12][k]?))
                (((try dsimp only); (refine ⟨Blk.cell ?_, Blk.cell ?_⟩ <;> (repeat' (first | (with_reducible first | assumption | refine Blk.drew ?_ | refine Blk.drewN ?_ _ | apply Blk.set | (refine Blk.new ?_; focus (first | rfl | (simp; done))) | refine Blk.alloc ?_ _ | refine Blk.other ?_ ?_ _) | exact eqL rfl | (refine neB ?_; omega))))))
                (first
                  | (go_at_call 51; refine (specPhase_0 _).mono ?_; rintro e W9 ⟨rfl, hb⟩; (try (refine with_fact (A := Blk W9 (W3.heap.size) [.int .i64 0, .int .i64 0, .int .i64 0, .int .i64 0, .int .i64 0, .int .i64 0]) ?_ ?_; (focus (refine Blk.keep hb ?_; (repeat' (first | (with_reducible first | assumption | refine Blk.drew ?_ | refine Blk.drewN ?_ _ | apply Blk.set | (refine Blk.new ?_; focus (first | rfl | (simp; done))) | refine Blk.alloc ?_ _ | refine Blk.other ?_ ?_ _) | exact eqL rfl | (refine neB ?_; omega))); done)); intro Bz0; have cz0 := Bz0.cell; have fz0 := Bz0.free; have lz0 := Bz0.lt)); have Ba : Blk W9 (w.heap.size) [.int .i64 x1, .int .i64 x2, .int .i64 x3] := Blk.keep hb (by repeat' (first | (with_reducible first | assumption | refine Blk.drew ?_ | refine Blk.drewN ?_ _ | apply Blk.set | (refine Blk.new ?_; focus (first | rfl | (simp; done))) | refine Blk.alloc ?_ _ | refine Blk.other ?_ ?_ _) | exact eqL rfl | (refine neB ?_; omega))); have Bb : Blk W9 (w.heap.size + 1) [.int .i64 y1, .int .i64 y2, .int .i64 y3] := Blk.keep hb (by repeat' (first | (with_reducible first | assumption | refine Blk.drew ?_ | refine Blk.drewN ?_ _ | apply Blk.set | (refine Blk.new ?_; focus (first | rfl | (simp; done))) | refine Blk.alloc ?_ _ | refine Blk.other ?_ ?_ _) | exact eqL rfl | (refine neB ?_; omega))); have Br : Blk W9 (w.heap.size + 1 + 1) [.int .i64 0, .int .i64 0, .int .i64 0] := Blk.keep hb (by repeat' (first | (with_reducible first | assumption | refine Blk.drew ?_ | refine Blk.drewN ?_ _ | apply Blk.set | (refine Blk.new ?_; focus (first | rfl | (simp; done))) | refine Blk.alloc ?_ _ | refine Blk.other ?_ ?_ _) | exact eqL rfl | (refine neB ?_; omega))); have Bs : Blk W9 (w.heap.size + 1 + 1 + 1) [.int .i64 0, .int .i64 0, .int .i64 0] := Blk.keep hb (by repeat' (first | (with_reducible first | assumption | refine Blk.drew ?_ | refine Blk.drewN ?_ _ | apply Blk.set | (refine Blk.new ?_; focus (first | rfl | (simp; done))) | refine Blk.alloc ?_ _ | refine Blk.other ?_ ?_ _) | exact eqL rfl | (refine neB ?_; omega))); have Bm : Blk W9 (W1.heap.size) [.int .i64 m1, .int .i64 m2, .int .i64 m3, .int .i64 m4, .int .i64 m5, .int .i64 m6, .int .i64 m7, .int .i64 m8, .int .i64 m9, .int .i64 m10, .int .i64 m11, .int .i64 m12] := Blk.keep hb (by repeat' (first | (with_reducible first | assumption | refine Blk.drew ?_ | refine Blk.drewN ?_ _ | apply Blk.set | (refine Blk.new ?_; focus (first | rfl | (simp; done))) | refine Blk.alloc ?_ _ | refine Blk.other ?_ ?_ _) | exact eqL rfl | (refine neB ?_; omega))); have ca := Ba.cell; have fa := Ba.free; have la_W9 := Ba.lt; have cb := Bb.cell; have fb := Bb.free; have lb_W9 := Bb.lt; have cr := Br.cell; have fr := Br.free; have lr_W9 := Br.lt; have cs := Bs.cell; have fs := Bs.free; have ls_W9 := Bs.lt; have cm := Bm.cell; have fm := Bm.free; have lm_W9 := Bm.lt; have kaW9 : Acc w W9 := (by refine Acc.call ?_ hb; (repeat' (first | (with_reducible first | assumption | exact Acc.refl _ | refine Acc.drew ?_ | refine Acc.drewN ?_ _ | refine Acc.alloc ?_ _ | refine Acc.setCell ?_ ?_ _) | (refine leB ?_; omega)))); clear hb)
                  | (go_at_call 50; refine (TV.out _).mono ?_; rintro e W8 ⟨rfl, hb⟩; (try (refine with_fact (A := Blk W8 (W3.heap.size) [.int .i64 0, .int .i64 0, .int .i64 0, .int .i64 0, .int .i64 0, .int .i64 0]) ?_ ?_; (focus (refine Blk.keep hb ?_; (repeat' (first | (with_reducible first | assumption | refine Blk.drew ?_ | refine Blk.drewN ?_ _ | apply Blk.set | (refine Blk.new ?_; focus (first | rfl | (simp; done))) | refine Blk.alloc ?_ _ | refine Blk.other ?_ ?_ _) | exact eqL rfl | (refine neB ?_; omega))); done)); intro Bz0; have cz0 := Bz0.cell; have fz0 := Bz0.free; have lz0 := Bz0.lt)); (try (refine with_fact (A := Blk W8 (W9.heap.size) [.int .i64 0, .int .i64 0, .int .i64 0, .int .i64 0, .int .i64 0, .int .i64 0]) ?_ ?_; (focus (refine Blk.keep hb ?_; (repeat' (first | (with_reducible first | assumption | refine Blk.drew ?_ | refine Blk.drewN ?_ _ | apply Blk.set | (refine Blk.new ?_; focus (first | rfl | (simp; done))) | refine Blk.alloc ?_ _ | refine Blk.other ?_ ?_ _) | exact eqL rfl | (refine neB ?_; omega))); done)); intro Bz1; have cz1 := Bz1.cell; have fz1 := Bz1.free; have lz1 := Bz1.lt)); have Ba : Blk W8 (w.heap.size) [.int .i64 x1, .int .i64 x2, .int .i64 x3] := Blk.keep hb (by repeat' (first | (with_reducible first | assumption | refine Blk.drew ?_ | refine Blk.drewN ?_ _ | apply Blk.set | (refine Blk.new ?_; focus (first | rfl | (simp; done))) | refine Blk.alloc ?_ _ | refine Blk.other ?_ ?_ _) | exact eqL rfl | (refine neB ?_; omega))); have Bb : Blk W8 (w.heap.size + 1) [.int .i64 y1, .int .i64 y2, .int .i64 y3] := Blk.keep hb (by repeat' (first | (with_reducible first | assumption | refine Blk.drew ?_ | refine Blk.drewN ?_ _ | apply Blk.set | (refine Blk.new ?_; focus (first | rfl | (simp; done))) | refine Blk.alloc ?_ _ | refine Blk.other ?_ ?_ _) | exact eqL rfl | (refine neB ?_; omega))); have Br : Blk W8 (w.heap.size + 1 + 1) [.int .i64 0, .int .i64 0, .int .i64 0] := Blk.keep hb (by repeat' (first | (with_reducible first | assumption | refine Blk.drew ?_ | refine Blk.drewN ?_ _ | apply Blk.set | (refine Blk.new ?_; focus (first | rfl | (simp; done))) | refine Blk.alloc ?_ _ | refine Blk.other ?_ ?_ _) | exact eqL rfl | (refine neB ?_; omega))); have Bs : Blk W8 (w.heap.size + 1 + 1 + 1) [.int .i64 0, .int .i64 0, .int .i64 0] := Blk.keep hb (by repeat' (first | (with_reducible first | assumption | refine Blk.drew ?_ | refine Blk.drewN ?_ _ | apply Blk.set | (refine Blk.new ?_; focus (first | rfl | (simp; done))) | refine Blk.alloc ?_ _ | refine Blk.other ?_ ?_ _) | exact eqL rfl | (refine neB ?_; omega))); have Bm : Blk W8 (W1.heap.size) [.int .i64 m1, .int .i64 m2, .int .i64 m3, .int .i64 m4, .int .i64 m5, .int .i64 m6, .int .i64 m7, .int .i64 m8, .int .i64 m9, .int .i64 m10, .int .i64 m11, .int .i64 m12] := Blk.keep hb (by repeat' (first | (with_reducible first | assumption | refine Blk.drew ?_ | refine Blk.drewN ?_ _ | apply Blk.set | (refine Blk.new ?_; focus (first | rfl | (simp; done))) | refine Blk.alloc ?_ _ | refine Blk.other ?_ ?_ _) | exact eqL rfl | (refine neB ?_; omega))); have ca := Ba.cell; have fa := Ba.free; have la_W8 := Ba.lt; have cb := Bb.cell; have fb := Bb.free; have lb_W8 := Bb.lt; have cr := Br.cell; have fr := Br.free; have lr_W8 := Br.lt; have cs := Bs.cell; have fs := Bs.free; have ls_W8 := Bs.lt; have cm := Bm.cell; have fm := Bm.free; have lm_W8 := Bm.lt; have kaW8 : Acc w W8 := (by refine Acc.call ?_ hb; (repeat' (first | (with_reducible first | assumption | exact Acc.refl _ | refine Acc.drew ?_ | refine Acc.drewN ?_ _ | refine Acc.alloc ?_ _ | refine Acc.setCell ?_ ?_ _) | (refine leB ?_; omega)))); clear hb))
              all_goals
                go_wp2_with fail
              all_goals
                go_meet
                refine ⟨_, rfl, rfl, ?_⟩
                and_intros
                all_goals
                  first
                    | ((repeat' (first | (with_reducible first | assumption | refine Blk.drew ?_ | refine Blk.drewN ?_ _ | apply Blk.set | (refine Blk.new ?_; focus (first | rfl | (simp; done))) | refine Blk.alloc ?_ _ | refine Blk.other ?_ ?_ _) | exact eqL rfl | (refine neB ?_; omega))); done)
                    | ((show Acc w _); (repeat' (first | (with_reducible first | assumption | exact Acc.refl _ | refine Acc.drew ?_ | refine Acc.drewN ?_ _ | refine Acc.alloc ?_ _ | refine Acc.setCell ?_ ?_ _) | (refine leB ?_; omega))); done)
                    | (refine leB ?_; omega)
            case rest =>
              obtain ⟨pv1x, rfl, rfl, Bv, Ba, Bb, Br, Bs, Bm, low5_0, low5_1, low5_2, low5_3, low5_4, kawc⟩ := hcut
              have cv := Bv.cell
              have fv := Bv.free
              have lv_wc := Bv.lt
              have ca := Ba.cell
              have fa := Ba.free
              have la_wc := Ba.lt
              have cb := Bb.cell
              have fb := Bb.free
              have lb_wc := Bb.lt
              have cr := Br.cell
              have fr := Br.free
              have lr_wc := Br.lt
              have cs := Bs.cell
              have fs := Bs.free
              have ls_wc := Bs.lt
              have cm := Bm.cell
              have fm := Bm.free
              have lm_wc := Bm.lt
              go_wp2_with fail
              refine (gave_any Ct.out Dt.out (specTimes_any x1 x2 x3 v1 v2 v3 _)).mono ?_
              rintro e W4 ⟨rfl, hb⟩
              have Bv : Blk W4 (pv1x) [.int .i64 v1, .int .i64 v2, .int .i64 v3, .int .i64 v4, .int .i64 v5, .int .i64 v6] := Blk.keep hb (by repeat' (first | (with_reducible first | assumption | refine Blk.drew ?_ | refine Blk.drewN ?_ _ | apply Blk.set | (refine Blk.new ?_; focus (first | rfl | (simp; done))) | refine Blk.alloc ?_ _ | refine Blk.other ?_ ?_ _) | exact eqL rfl | (refine neB ?_; omega)))
              have Ba : Blk W4 (w.heap.size) [.int .i64 x1, .int .i64 x2, .int .i64 x3] := Blk.keep hb (by repeat' (first | (with_reducible first | assumption | refine Blk.drew ?_ | refine Blk.drewN ?_ _ | apply Blk.set | (refine Blk.new ?_; focus (first | rfl | (simp; done))) | refine Blk.alloc ?_ _ | refine Blk.other ?_ ?_ _) | exact eqL rfl | (refine neB ?_; omega)))
              have Bb : Blk W4 (w.heap.size + 1) [.int .i64 y1, .int .i64 y2, .int .i64 y3] := Blk.keep hb (by repeat' (first | (with_reducible first | assumption | refine Blk.drew ?_ | refine Blk.drewN ?_ _ | apply Blk.set | (refine Blk.new ?_; focus (first | rfl | (simp; done))) | refine Blk.alloc ?_ _ | refine Blk.other ?_ ?_ _) | exact eqL rfl | (refine neB ?_; omega)))
              have Br : Blk W4 (w.heap.size + 1 + 1) [.int .i64 0, .int .i64 0, .int .i64 0] := Blk.keep hb (by repeat' (first | (with_reducible first | assumption | refine Blk.drew ?_ | refine Blk.drewN ?_ _ | apply Blk.set | (refine Blk.new ?_; focus (first | rfl | (simp; done))) | refine Blk.alloc ?_ _ | refine Blk.other ?_ ?_ _) | exact eqL rfl | (refine neB ?_; omega)))
              have Bs : Blk W4 (w.heap.size + 1 + 1 + 1) [.int .i64 0, .int .i64 0, .int .i64 0] := Blk.keep hb (by repeat' (first | (with_reducible first | assumption | refine Blk.drew ?_ | refine Blk.drewN ?_ _ | apply Blk.set | (refine Blk.new ?_; focus (first | rfl | (simp; done))) | refine Blk.alloc ?_ _ | refine Blk.other ?_ ?_ _) | exact eqL rfl | (refine neB ?_; omega)))
              have Bm : Blk W4 (W1.heap.size) [.int .i64 m1, .int .i64 m2, .int .i64 m3, .int .i64 m4, .int .i64 m5, .int .i64 m6, .int .i64 m7, .int .i64 m8, .int .i64 m9, .int .i64 m10, .int .i64 m11, .int .i64 m12] := Blk.keep hb (by repeat' (first | (with_reducible first | assumption | refine Blk.drew ?_ | refine Blk.drewN ?_ _ | apply Blk.set | (refine Blk.new ?_; focus (first | rfl | (simp; done))) | refine Blk.alloc ?_ _ | refine Blk.other ?_ ?_ _) | exact eqL rfl | (refine neB ?_; omega)))
              have cv := Bv.cell
              have fv := Bv.free
              have lv_W4 := Bv.lt
              have ca := Ba.cell
              have fa := Ba.free
              have la_W4 := Ba.lt
              have cb := Bb.cell
              have fb := Bb.free
              have lb_W4 := Bb.lt
              have cr := Br.cell
              have fr := Br.free
              have lr_W4 := Br.lt
              have cs := Bs.cell
              have fs := Bs.free
              have ls_W4 := Bs.lt
              have cm := Bm.cell
              have fm := Bm.free
              have lm_W4 := Bm.lt
              have kaW4 : Acc w W4 := by
                refine Acc.call ?_ hb
                (repeat' (first | (with_reducible first | assumption | exact Acc.refl _ | refine Acc.drew ?_ | refine Acc.drewN ?_ _ | refine Acc.alloc ?_ _ | refine Acc.setCell ?_ ?_ _) | (refine leB ?_; omega)))
              clear hb
              go_upto_region 7 with fail
              cases kv with
              | false =>
                cases kt with
                | false =>
                  obtain rfl : o = none := HE.out.symm.trans (by rw [HG.out, V2.out (by first | rfl | trivial)]; rfl)
                  first | go_region_with (fail) | fail "r7"
                  all_goals
                    go_wp2_with fail
                    refine bodyPost_ret (v := .tuple #[.agg #[.int .i64 t1, .int .i64 t2, .int .i64 t3], .agg #[.int .i64 v4, .int .i64 v5, .int .i64 v6], .bool false]) (by simp [results, Tryz.results29, go_sem, *]) rfl ⟨t1, t2, t3, v4, v5, v6, false, rfl, (fun h => by cases h), (fun _ => rfl), ?_⟩
                    show Acc w _
                    (repeat' (first | (with_reducible first | assumption | exact Acc.refl _ | refine Acc.drew ?_ | refine Acc.drewN ?_ _ | refine Acc.alloc ?_ _ | refine Acc.setCell ?_ ?_ _) | (refine leB ?_; omega)))
                | true =>
                  obtain rfl : o = none := HE.out.symm.trans (by rw [HG.out, V2.out (by first | rfl | trivial)]; rfl)
                  first | go_region_with (fail) | fail "r7"
                  all_goals
                    go_wp2_with fail
                    refine bodyPost_ret (v := .tuple #[.agg #[.int .i64 t1, .int .i64 t2, .int .i64 t3], .agg #[.int .i64 v4, .int .i64 v5, .int .i64 v6], .bool false]) (by simp [results, Tryz.results29, go_sem, *]) rfl ⟨t1, t2, t3, v4, v5, v6, false, rfl, (fun h => by cases h), (fun _ => rfl), ?_⟩
                    show Acc w _
                    (repeat' (first | (with_reducible first | assumption | exact Acc.refl _ | refine Acc.drew ?_ | refine Acc.drewN ?_ _ | refine Acc.alloc ?_ _ | refine Acc.setCell ?_ ?_ _) | (refine leB ?_; omega)))
              | true =>
                cases kt with
                | false =>
                  obtain rfl : o = none := HE.out.symm.trans (by rw [HG.out, V1.out (by first | rfl | trivial), Option.bind_some]; show (tT _ _).bind _ = _; rw [show tT (x1, x2, x3) (v1, v2, v3) = none from none_of Dt.out]; rfl)
                  first | go_region_with (fail) | fail "r7"
                  all_goals
                    go_wp2_with fail
                    refine bodyPost_ret (v := .tuple #[.agg #[.int .i64 t1, .int .i64 t2, .int .i64 t3], .agg #[.int .i64 v4, .int .i64 v5, .int .i64 v6], .bool false]) (by simp [results, Tryz.results29, go_sem, *]) rfl ⟨t1, t2, t3, v4, v5, v6, false, rfl, (fun h => by cases h), (fun _ => rfl), ?_⟩
                    show Acc w _
                    (repeat' (first | (with_reducible first | assumption | exact Acc.refl _ | refine Acc.drew ?_ | refine Acc.drewN ?_ _ | refine Acc.alloc ?_ _ | refine Acc.setCell ?_ ?_ _) | (refine leB ?_; omega)))
                | true =>
                  obtain rfl : o = some ((t1, t2, t3), (v4, v5, v6)) := HE.out.symm.trans (by rw [HG.out, V1.out (by first | rfl | trivial), Option.bind_some]; show (tT _ _).bind _ = _; rw [show tT (x1, x2, x3) (v1, v2, v3) = some (t1, t2, t3) from some_of Ct.out Dt.out]; rfl)
                  first | go_region_with (fail) | fail "r7"
                  all_goals
                    go_wp2_with fail
                    refine bodyPost_ret (v := .tuple #[.agg #[.int .i64 t1, .int .i64 t2, .int .i64 t3], .agg #[.int .i64 v4, .int .i64 v5, .int .i64 v6], .bool true]) (by simp [results, Tryz.results29, go_sem, *]) rfl ⟨t1, t2, t3, v4, v5, v6, true, rfl, (fun _ => rfl), (fun h => by cases h), ?_⟩
                    show Acc w _
                    (repeat' (first | (with_reducible first | assumption | exact Acc.refl _ | refine Acc.drew ?_ | refine Acc.drewN ?_ _ | refine Acc.alloc ?_ _ | refine Acc.setCell ?_ ?_ _) | (refine leB ?_; omega)))
end Go.Proofs.YtpgklllgmfaekaaGreatDoor
