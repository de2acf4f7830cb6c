/-
  The program's films: both powers.
-/
import Derived.Test.YtpgklllgmfaekaaGreatDoorImplF5
import Derived.Test.YtpgklllgmfaekaaGreatDoorSpecF5
import Derived.Test.YtpgklllgmfaekaaGreatDoorBVec
import Derived.Test.YtpgklllgmfaekaaGreatDoorZero
import Derived.Test.YtpgklllgmfaekaaGreatDoorBImplF
import Derived.Deep.RegionHeld3
namespace Go.Proofs.YtpgklllgmfaekaaGreatDoor
open Go.ChangeShapes Go.WideShapes Go.ChangeAt Go.RowKit
set_option linter.unusedVariables false

set_option linter.unusedSimpArgs false
theorem refM_ok {ls : List L4} {a b r : F3} (h : refM ls a b = some r) : okT a = true ∧ okT b = true ∧ okT r = true := by
  unfold refM at h
  obtain ⟨⟨s, c⟩, hs, h⟩ := Option.bind_eq_some_iff.1 h
  obtain ⟨t, ht, h⟩ := Option.bind_eq_some_iff.1 h
  obtain ⟨u, hu, h⟩ := Option.bind_eq_some_iff.1 h
  obtain ⟨r1, r2, r3⟩ := r
  exact ⟨(sidM_vals hs).1, (sidM_vals hs).2.1, (over_some h).2.2.1⟩
theorem pasM_ok {ls : List L4} {a b r : F3} (h : pasM ls a b = some r) : okT r = true := by
  unfold pasM at h
  obtain ⟨⟨s, c⟩, hs, h⟩ := Option.bind_eq_some_iff.1 h
  obtain ⟨t, ht, h⟩ := Option.bind_eq_some_iff.1 h
  obtain ⟨u, hu, h⟩ := Option.bind_eq_some_iff.1 h
  obtain ⟨r1, r2, r3⟩ := r
  exact (over_some h).2.2.1
theorem real_eq {x y z : Int} (h : okF x y z = true) : (if okF x y z = true then lowE x 0 z else none) = makeT x z := by
  have b := okF_bd h
  unfold makeT
  rw [if_pos h, makeF_eq, if_pos (by omega)]
set_option maxRecDepth 100000 in
set_option maxHeartbeats 8000000 in
theorem bothParts_any (a : Option Addr) (ls : List L4) (cap : Nat) (x1 x2 x3 y1 y2 y3 : Int) (hx1 : i64B x1) (hx2 : i64B x2) (hx3 : i64B x3) (hy1 : i64B y1) (hy2 : i64B y2) (hy3 : i64B y3) (w : World) (h : Lys w a ls) (hn : ls.length ≤ 1048576) : Calls Tryz.prog 24 #[.slice a ls.length cap, .agg #[.int .i64 x1, .int .i64 x2, .int .i64 x3], .agg #[.int .i64 y1, .int .i64 y2, .int .i64 y3]] w (ErrV ((refM ls (x1, x2, x3) (y1, y2, y3)).bind fun r => (pasM ls (x1, x2, x3) (y1, y2, y3)).bind fun t => some (r, t)) w) := by
  have HR := Lib.hid fun (W : World) (ka : Acc w W) => reflected_any a ls cap x1 x2 x3 y1 y2 y3 hx1 hx2 hx3 hy1 hy2 hy3 W (h.keep ka) hn
  have HP := Lib.hid fun (W : World) (ka : Acc w W) => passing_any a ls cap x1 x2 x3 y1 y2 y3 hx1 hx2 hx3 hy1 hy2 hy3 W (h.keep ka) hn
  generalize refM ls (x1, x2, x3) (y1, y2, y3) = o at HR ⊢
  generalize pasM ls (x1, x2, x3) (y1, y2, y3) = p at HP ⊢
  clear h hx1 hx2 hx3 hy1 hy2 hy3
  go_enter Tryz.func24, Tryz.ntmps24
  go_wp2_with fail
  cases o with
  | none =>
    refine (HR.out _ (by repeat' (first | (with_reducible first | assumption | exact Acc.refl _ | refine Acc.drew ?_ | refine Acc.drewN ?_ _ | refine Acc.alloc ?_ _ | refine Acc.setCell ?_ ?_ _) | (refine leB ?_; omega)))).mono ?_
    rintro e W1 ⟨-, h, hb⟩
    obtain ⟨s, rfl⟩ := h rfl
    clear h
    obtain ⟨Ba, Bb, Br⟩ : Blk W1 (w.heap.size) [.int .i64 x1, .int .i64 x2, .int .i64 x3] ∧ Blk W1 (w.heap.size + 1) [.int .i64 y1, .int .i64 y2, .int .i64 y3] ∧ Blk W1 (w.heap.size + 1 + 1) [.int .i64 0, .int .i64 0, .int .i64 0, .int .i64 0, .int .i64 0, .int .i64 0] := by
      refine ⟨?_, ?_, ?_⟩ <;> refine Blk.keep hb ?_ <;> (repeat' (first | (with_reducible first | assumption | refine Blk.drew ?_ | refine Blk.drewN ?_ _ | apply Blk.set | (refine Blk.new ?_; focus (first | rfl | (simp; done))) | refine Blk.alloc ?_ _ | refine Blk.other ?_ ?_ _) | exact eqL rfl | (refine neB ?_; omega)))
    have ca := Ba.cell
    have fa := Ba.free
    have la_W1 := Ba.lt
    have cb := Bb.cell
    have fb := Bb.free
    have lb_W1 := Bb.lt
    have cr := Br.cell
    have fr := Br.free
    have lr_W1 := Br.lt
    have kaW1 : Acc w W1 := by
      refine Acc.call ?_ hb
      (repeat' (first | (with_reducible first | assumption | exact Acc.refl _ | refine Acc.drew ?_ | refine Acc.drewN ?_ _ | refine Acc.alloc ?_ _ | refine Acc.setCell ?_ ?_ _) | (refine leB ?_; omega)))
    clear hb
    go_wp2_with fail
    refine bodyPost_ret (v := .tuple #[.agg #[.int .i64 0, .int .i64 0, .int .i64 0, .int .i64 0, .int .i64 0, .int .i64 0], .iface 65 (.agg #[.string s])]) (by simp [results, Tryz.results24, go_sem, *]) rfl ⟨fun _ _ _ _ _ _ h => (by cases h), fun _ => ⟨_, _, _, _, _, _, _, rfl⟩, ?_⟩
    show Acc w _
    (repeat' (first | (with_reducible first | assumption | exact Acc.refl _ | refine Acc.drew ?_ | refine Acc.drewN ?_ _ | refine Acc.alloc ?_ _ | refine Acc.setCell ?_ ?_ _) | (refine leB ?_; omega)))
  | some v =>
    obtain ⟨r1, r2, r3⟩ := v
    refine (HR.out _ (by repeat' (first | (with_reducible first | assumption | exact Acc.refl _ | refine Acc.drew ?_ | refine Acc.drewN ?_ _ | refine Acc.alloc ?_ _ | refine Acc.setCell ?_ ?_ _) | (refine leB ?_; omega)))).mono ?_
    rintro e W1 ⟨h, -, hb⟩
    obtain rfl := h _ _ _ rfl
    clear h
    obtain ⟨Ba, Bb, Br⟩ : Blk W1 (w.heap.size) [.int .i64 x1, .int .i64 x2, .int .i64 x3] ∧ Blk W1 (w.heap.size + 1) [.int .i64 y1, .int .i64 y2, .int .i64 y3] ∧ Blk W1 (w.heap.size + 1 + 1) [.int .i64 0, .int .i64 0, .int .i64 0, .int .i64 0, .int .i64 0, .int .i64 0] := by
      refine ⟨?_, ?_, ?_⟩ <;> refine Blk.keep hb ?_ <;> (repeat' (first | (with_reducible first | assumption | refine Blk.drew ?_ | refine Blk.drewN ?_ _ | apply Blk.set | (refine Blk.new ?_; focus (first | rfl | (simp; done))) | refine Blk.alloc ?_ _ | refine Blk.other ?_ ?_ _) | exact eqL rfl | (refine neB ?_; omega)))
    have ca := Ba.cell
    have fa := Ba.free
    have la_W1 := Ba.lt
    have cb := Bb.cell
    have fb := Bb.free
    have lb_W1 := Bb.lt
    have cr := Br.cell
    have fr := Br.free
    have lr_W1 := Br.lt
    have kaW1 : Acc w W1 := by
      refine Acc.call ?_ hb
      (repeat' (first | (with_reducible first | assumption | exact Acc.refl _ | refine Acc.drew ?_ | refine Acc.drewN ?_ _ | refine Acc.alloc ?_ _ | refine Acc.setCell ?_ ?_ _) | (refine leB ?_; omega)))
    clear hb
    go_wp2_with fail
    cases p with
    | none =>
      refine (HP.out _ (by repeat' (first | (with_reducible first | assumption | exact Acc.refl _ | refine Acc.drew ?_ | refine Acc.drewN ?_ _ | refine Acc.alloc ?_ _ | refine Acc.setCell ?_ ?_ _) | (refine leB ?_; omega)))).mono ?_
      rintro e W2 ⟨-, h, hb⟩
      obtain ⟨s, rfl⟩ := h rfl
      clear h
      obtain ⟨Ba, Bb, Br, Bm⟩ : Blk W2 (w.heap.size) [.int .i64 x1, .int .i64 x2, .int .i64 x3] ∧ Blk W2 (w.heap.size + 1) [.int .i64 y1, .int .i64 y2, .int .i64 y3] ∧ Blk W2 (w.heap.size + 1 + 1) [.int .i64 0, .int .i64 0, .int .i64 0, .int .i64 0, .int .i64 0, .int .i64 0] ∧ Blk W2 (W1.heap.size) [.int .i64 r1, .int .i64 r2, .int .i64 r3] := by
        refine ⟨?_, ?_, ?_, ?_⟩ <;> refine Blk.keep hb ?_ <;> (repeat' (first | (with_reducible first | assumption | refine Blk.drew ?_ | refine Blk.drewN ?_ _ | apply Blk.set | (refine Blk.new ?_; focus (first | rfl | (simp; done))) | refine Blk.alloc ?_ _ | refine Blk.other ?_ ?_ _) | exact eqL rfl | (refine neB ?_; omega)))
      have ca := Ba.cell
      have fa := Ba.free
      have la_W2 := Ba.lt
      have cb := Bb.cell
      have fb := Bb.free
      have lb_W2 := Bb.lt
      have cr := Br.cell
      have fr := Br.free
      have lr_W2 := Br.lt
      have cm := Bm.cell
      have fm := Bm.free
      have lm_W2 := Bm.lt
      have kaW2 : Acc w W2 := by
        refine Acc.call ?_ hb
        (repeat' (first | (with_reducible first | assumption | exact Acc.refl _ | refine Acc.drew ?_ | refine Acc.drewN ?_ _ | refine Acc.alloc ?_ _ | refine Acc.setCell ?_ ?_ _) | (refine leB ?_; omega)))
      clear hb
      go_wp2_with fail
      refine bodyPost_ret (v := .tuple #[.agg #[.int .i64 r1, .int .i64 r2, .int .i64 r3, .int .i64 0, .int .i64 0, .int .i64 0], .iface 65 (.agg #[.string s])]) (by simp [results, Tryz.results24, go_sem, *]) rfl ⟨fun _ _ _ _ _ _ h => (by cases h), fun _ => ⟨_, _, _, _, _, _, _, rfl⟩, ?_⟩
      show Acc w _
      (repeat' (first | (with_reducible first | assumption | exact Acc.refl _ | refine Acc.drew ?_ | refine Acc.drewN ?_ _ | refine Acc.alloc ?_ _ | refine Acc.setCell ?_ ?_ _) | (refine leB ?_; omega)))
    | some v =>
      obtain ⟨t1, t2, t3⟩ := v
      refine (HP.out _ (by repeat' (first | (with_reducible first | assumption | exact Acc.refl _ | refine Acc.drew ?_ | refine Acc.drewN ?_ _ | refine Acc.alloc ?_ _ | refine Acc.setCell ?_ ?_ _) | (refine leB ?_; omega)))).mono ?_
      rintro e W2 ⟨h, -, hb⟩
      obtain rfl := h _ _ _ rfl
      clear h
      obtain ⟨Ba, Bb, Br, Bm⟩ : Blk W2 (w.heap.size) [.int .i64 x1, .int .i64 x2, .int .i64 x3] ∧ Blk W2 (w.heap.size + 1) [.int .i64 y1, .int .i64 y2, .int .i64 y3] ∧ Blk W2 (w.heap.size + 1 + 1) [.int .i64 0, .int .i64 0, .int .i64 0, .int .i64 0, .int .i64 0, .int .i64 0] ∧ Blk W2 (W1.heap.size) [.int .i64 r1, .int .i64 r2, .int .i64 r3] := by
        refine ⟨?_, ?_, ?_, ?_⟩ <;> refine Blk.keep hb ?_ <;> (repeat' (first | (with_reducible first | assumption | refine Blk.drew ?_ | refine Blk.drewN ?_ _ | apply Blk.set | (refine Blk.new ?_; focus (first | rfl | (simp; done))) | refine Blk.alloc ?_ _ | refine Blk.other ?_ ?_ _) | exact eqL rfl | (refine neB ?_; omega)))
      have ca := Ba.cell
      have fa := Ba.free
      have la_W2 := Ba.lt
      have cb := Bb.cell
      have fb := Bb.free
      have lb_W2 := Bb.lt
      have cr := Br.cell
      have fr := Br.free
      have lr_W2 := Br.lt
      have cm := Bm.cell
      have fm := Bm.free
      have lm_W2 := Bm.lt
      have kaW2 : Acc w W2 := by
        refine Acc.call ?_ hb
        (repeat' (first | (with_reducible first | assumption | exact Acc.refl _ | refine Acc.drew ?_ | refine Acc.drewN ?_ _ | refine Acc.alloc ?_ _ | refine Acc.setCell ?_ ?_ _) | (refine leB ?_; omega)))
      clear hb
      go_wp2_with fail
      refine bodyPost_ret (v := .tuple #[.agg #[.int .i64 r1, .int .i64 r2, .int .i64 r3, .int .i64 t1, .int .i64 t2, .int .i64 t3], .nilIface]) (by simp [results, Tryz.results24, go_sem, *]) rfl ⟨fun _ _ _ _ _ _ h => (by cases h; rfl), fun h => (by cases h), ?_⟩
      show Acc w _
      (repeat' (first | (with_reducible first | assumption | exact Acc.refl _ | refine Acc.drew ?_ | refine Acc.drewN ?_ _ | refine Acc.alloc ?_ _ | refine Acc.setCell ?_ ?_ _) | (refine leB ?_; omega)))
theorem powF_ok {x y z p q r : Int} (h : powerF x y z = some (p, q, r)) : okF p q r = true := (power_some h).2.1
theorem makeT_ok {x z p q r : Int} (h : makeT x z = some (p, q, r)) : okF p q r = true := by
  unfold makeT at h
  rw [makeF_eq] at h
  split at h
  · exact lowE_ok h
  · cases h
set_option maxRecDepth 100000 in
set_option maxHeartbeats 16000000 in
theorem powers_any (a : Option Addr) (ls : List L4) (cap : Nat) (x1 x2 x3 y1 y2 y3 : Int) (hx1 : i64B x1) (hx2 : i64B x2) (hx3 : i64B x3) (hy1 : i64B y1) (hy2 : i64B y2) (hy3 : i64B y3) (w : World) (h : Lys w a ls) (hn : ls.length ≤ 1048576) : Calls Tryz.prog 11 #[.slice a ls.length cap, .agg #[.int .i64 x1, .int .i64 x2, .int .i64 x3], .agg #[.int .i64 y1, .int .i64 y2, .int .i64 y3]] w (ErrV (powM ls (x1, x2, x3) (y1, y2, y3)) w) := by
  obtain ⟨or, hq⟩ : ∃ o, refM ls (x1, x2, x3) (y1, y2, y3) = o := ⟨_, rfl⟩
  obtain ⟨ot, hq2⟩ : ∃ o, pasM ls (x1, x2, x3) (y1, y2, y3) = o := ⟨_, rfl⟩
  have TB := Lib.hid fun (W : World) (ka : Acc w W) => bothParts_any a ls cap x1 x2 x3 y1 y2 y3 hx1 hx2 hx3 hy1 hy2 hy3 W (h.keep ka) hn
  rw [hq, hq2] at TB
  have Hr := Lib.hid hq
  have Ht := Lib.hid hq2
  clear hq hq2 h
  obtain ⟨o, E⟩ : ∃ o, powM ls (x1, x2, x3) (y1, y2, y3) = o := ⟨_, rfl⟩
  rw [E]
  have HE := Lib.hid E
  clear E hx1 hx2 hx3 hy1 hy2 hy3
  go_enter Tryz.func11, Tryz.ntmps11
  go_wp2_with fail
  cases or with
  | none =>
    refine (TB.out _ (by repeat' (first | (with_reducible first | assumption | exact Acc.refl _ | refine Acc.drew ?_ | refine Acc.drewN ?_ _ | refine Acc.alloc ?_ _ | refine Acc.setCell ?_ ?_ _) | (refine leB ?_; omega)))).mono ?_
    rintro e W1 ⟨-, h, hb⟩
    obtain ⟨u1, u2, u3, u4, u5, u6, s, rfl⟩ := h rfl
    clear h
    obtain ⟨Ba, Bb, Br⟩ : Blk W1 (w.heap.size) [.int .i64 x1, .int .i64 x2, .int .i64 x3] ∧ Blk W1 (w.heap.size + 1) [.int .i64 y1, .int .i64 y2, .int .i64 y3] ∧ Blk W1 (w.heap.size + 1 + 1) [.int .i64 0, .int .i64 0, .int .i64 0, .int .i64 0, .int .i64 0, .int .i64 0] := by
      refine ⟨?_, ?_, ?_⟩ <;> refine Blk.keep hb ?_ <;> (repeat' (first | (with_reducible first | assumption | refine Blk.drew ?_ | refine Blk.drewN ?_ _ | apply Blk.set | (refine Blk.new ?_; focus (first | rfl | (simp; done))) | refine Blk.alloc ?_ _ | refine Blk.other ?_ ?_ _) | exact eqL rfl | (refine neB ?_; omega)))
    have ca := Ba.cell
    have fa := Ba.free
    have la_W1 := Ba.lt
    have cb := Bb.cell
    have fb := Bb.free
    have lb_W1 := Bb.lt
    have cr := Br.cell
    have fr := Br.free
    have lr_W1 := Br.lt
    have kaW1 : Acc w W1 := by
      refine Acc.call ?_ hb
      (repeat' (first | (with_reducible first | assumption | exact Acc.refl _ | refine Acc.drew ?_ | refine Acc.drewN ?_ _ | refine Acc.alloc ?_ _ | refine Acc.setCell ?_ ?_ _) | (refine leB ?_; omega)))
    clear hb
    go_wp2_with fail
    obtain rfl : o = none := HE.out.symm.trans (by unfold powM; rw [Hr.out]; rfl)
    refine bodyPost_ret (v := .tuple #[.agg #[.int .i64 0, .int .i64 0, .int .i64 0, .int .i64 0, .int .i64 0, .int .i64 0], .iface 65 (.agg #[.string s])]) (by simp [results, Tryz.results11, go_sem, *]) rfl ⟨fun _ _ _ _ _ _ h => (by cases h), fun _ => ⟨_, _, _, _, _, _, _, rfl⟩, ?_⟩
    show Acc w _
    (repeat' (first | (with_reducible first | assumption | exact Acc.refl _ | refine Acc.drew ?_ | refine Acc.drewN ?_ _ | refine Acc.alloc ?_ _ | refine Acc.setCell ?_ ?_ _) | (refine leB ?_; omega)))
  | some v =>
    obtain ⟨r1, r2, r3⟩ := v
    cases ot with
    | none =>
      refine (TB.out _ (by repeat' (first | (with_reducible first | assumption | exact Acc.refl _ | refine Acc.drew ?_ | refine Acc.drewN ?_ _ | refine Acc.alloc ?_ _ | refine Acc.setCell ?_ ?_ _) | (refine leB ?_; omega)))).mono ?_
      rintro e W1 ⟨-, h, hb⟩
      obtain ⟨u1, u2, u3, u4, u5, u6, s, rfl⟩ := h rfl
      clear h
      obtain ⟨Ba, Bb, Br⟩ : Blk W1 (w.heap.size) [.int .i64 x1, .int .i64 x2, .int .i64 x3] ∧ Blk W1 (w.heap.size + 1) [.int .i64 y1, .int .i64 y2, .int .i64 y3] ∧ Blk W1 (w.heap.size + 1 + 1) [.int .i64 0, .int .i64 0, .int .i64 0, .int .i64 0, .int .i64 0, .int .i64 0] := by
        refine ⟨?_, ?_, ?_⟩ <;> refine Blk.keep hb ?_ <;> (repeat' (first | (with_reducible first | assumption | refine Blk.drew ?_ | refine Blk.drewN ?_ _ | apply Blk.set | (refine Blk.new ?_; focus (first | rfl | (simp; done))) | refine Blk.alloc ?_ _ | refine Blk.other ?_ ?_ _) | exact eqL rfl | (refine neB ?_; omega)))
      have ca := Ba.cell
      have fa := Ba.free
      have la_W1 := Ba.lt
      have cb := Bb.cell
      have fb := Bb.free
      have lb_W1 := Bb.lt
      have cr := Br.cell
      have fr := Br.free
      have lr_W1 := Br.lt
      have kaW1 : Acc w W1 := by
        refine Acc.call ?_ hb
        (repeat' (first | (with_reducible first | assumption | exact Acc.refl _ | refine Acc.drew ?_ | refine Acc.drewN ?_ _ | refine Acc.alloc ?_ _ | refine Acc.setCell ?_ ?_ _) | (refine leB ?_; omega)))
      clear hb
      go_wp2_with fail
      obtain rfl : o = none := HE.out.symm.trans (by unfold powM; rw [Hr.out, Option.bind_some, Ht.out]; rfl)
      refine bodyPost_ret (v := .tuple #[.agg #[.int .i64 0, .int .i64 0, .int .i64 0, .int .i64 0, .int .i64 0, .int .i64 0], .iface 65 (.agg #[.string s])]) (by simp [results, Tryz.results11, go_sem, *]) rfl ⟨fun _ _ _ _ _ _ h => (by cases h), fun _ => ⟨_, _, _, _, _, _, _, rfl⟩, ?_⟩
      show Acc w _
      (repeat' (first | (with_reducible first | assumption | exact Acc.refl _ | refine Acc.drew ?_ | refine Acc.drewN ?_ _ | refine Acc.alloc ?_ _ | refine Acc.setCell ?_ ?_ _) | (refine leB ?_; omega)))
    | some v =>
      obtain ⟨t1, t2, t3⟩ := v
      obtain ⟨ka1, ka2, ka3⟩ := refM_ok Hr.out
      have ka4 := pasM_ok Ht.out
      have KX := Lib.hid (okF_i64 ka1)
      have KY := Lib.hid (okF_i64 ka2)
      have KR := Lib.hid (okF_i64 ka3)
      have KT := Lib.hid (okF_i64 ka4)
      have EX := Lib.hid (real_eq ka1)
      have EY := Lib.hid (real_eq ka2)
      clear ka1 ka2 ka3 ka4
      obtain ⟨op, hq⟩ : ∃ o, pairO (powerF r1 r2 r3) (powerF t1 t2 t3) = o := ⟨_, rfl⟩
      have TP := Lib.hid fun w => vpowers_any r1 r2 r3 t1 t2 t3 KR.out.1 KR.out.2.1 KR.out.2.2 KT.out.1 KT.out.2.1 KT.out.2.2 w
      rw [hq] at TP
      have Hp := Lib.hid hq
      clear hq
      dsimp only at EX EY
      obtain ⟨ox, hq⟩ : ∃ o, makeT x1 x3 = o := ⟨_, rfl⟩
      have TX := Lib.hid fun w => mreal_any x1 x2 x3 KX.out.1 KX.out.2.1 KX.out.2.2 w
      rw [EX.out, hq] at TX
      have Hx := Lib.hid hq
      clear hq
      obtain ⟨oy, hq⟩ : ∃ o, makeT y1 y3 = o := ⟨_, rfl⟩
      have TY := Lib.hid fun w => mreal_any y1 y2 y3 KY.out.1 KY.out.2.1 KY.out.2.2 w
      rw [EY.out, hq] at TY
      have Hy := Lib.hid hq
      clear hq EX EY
      refine (TB.out _ (by repeat' (first | (with_reducible first | assumption | exact Acc.refl _ | refine Acc.drew ?_ | refine Acc.drewN ?_ _ | refine Acc.alloc ?_ _ | refine Acc.setCell ?_ ?_ _) | (refine leB ?_; omega)))).mono ?_
      rintro e W1 ⟨h, -, hb⟩
      obtain rfl := h _ _ _ _ _ _ rfl
      clear h
      obtain ⟨Ba, Bb, Br⟩ : Blk W1 (w.heap.size) [.int .i64 x1, .int .i64 x2, .int .i64 x3] ∧ Blk W1 (w.heap.size + 1) [.int .i64 y1, .int .i64 y2, .int .i64 y3] ∧ Blk W1 (w.heap.size + 1 + 1) [.int .i64 0, .int .i64 0, .int .i64 0, .int .i64 0, .int .i64 0, .int .i64 0] := by
        refine ⟨?_, ?_, ?_⟩ <;> refine Blk.keep hb ?_ <;> (repeat' (first | (with_reducible first | assumption | refine Blk.drew ?_ | refine Blk.drewN ?_ _ | apply Blk.set | (refine Blk.new ?_; focus (first | rfl | (simp; done))) | refine Blk.alloc ?_ _ | refine Blk.other ?_ ?_ _) | exact eqL rfl | (refine neB ?_; omega)))
      have ca := Ba.cell
      have fa := Ba.free
      have la_W1 := Ba.lt
      have cb := Bb.cell
      have fb := Bb.free
      have lb_W1 := Bb.lt
      have cr := Br.cell
      have fr := Br.free
      have lr_W1 := Br.lt
      have kaW1 : Acc w W1 := by
        refine Acc.call ?_ hb
        (repeat' (first | (with_reducible first | assumption | exact Acc.refl _ | refine Acc.drew ?_ | refine Acc.drewN ?_ _ | refine Acc.alloc ?_ _ | refine Acc.setCell ?_ ?_ _) | (refine leB ?_; omega)))
      clear hb
      go_wp2_with fail
      cases op with
      | none =>
        refine (TP.out _).mono ?_
        rintro e W2 ⟨-, h, hb⟩
        obtain ⟨s, rfl⟩ := h rfl
        clear h
        obtain ⟨Ba, Bb, Br, Bm⟩ : Blk W2 (w.heap.size) [.int .i64 x1, .int .i64 x2, .int .i64 x3] ∧ Blk W2 (w.heap.size + 1) [.int .i64 y1, .int .i64 y2, .int .i64 y3] ∧ Blk W2 (w.heap.size + 1 + 1) [.int .i64 0, .int .i64 0, .int .i64 0, .int .i64 0, .int .i64 0, .int .i64 0] ∧ Blk W2 (W1.heap.size) [.int .i64 r1, .int .i64 r2, .int .i64 r3, .int .i64 t1, .int .i64 t2, .int .i64 t3] := by
          refine ⟨?_, ?_, ?_, ?_⟩ <;> refine Blk.keep hb ?_ <;> (repeat' (first | (with_reducible first | assumption | refine Blk.drew ?_ | refine Blk.drewN ?_ _ | apply Blk.set | (refine Blk.new ?_; focus (first | rfl | (simp; done))) | refine Blk.alloc ?_ _ | refine Blk.other ?_ ?_ _) | exact eqL rfl | (refine neB ?_; omega)))
        have ca := Ba.cell
        have fa := Ba.free
        have la_W2 := Ba.lt
        have cb := Bb.cell
        have fb := Bb.free
        have lb_W2 := Bb.lt
        have cr := Br.cell
        have fr := Br.free
        have lr_W2 := Br.lt
        have cm := Bm.cell
        have fm := Bm.free
        have lm_W2 := Bm.lt
        have kaW2 : Acc w W2 := by
          refine Acc.call ?_ hb
          (repeat' (first | (with_reducible first | assumption | exact Acc.refl _ | refine Acc.drew ?_ | refine Acc.drewN ?_ _ | refine Acc.alloc ?_ _ | refine Acc.setCell ?_ ?_ _) | (refine leB ?_; omega)))
        clear hb
        go_wp2_with fail
        obtain rfl : o = none := HE.out.symm.trans (by unfold powM; rw [Hr.out, Option.bind_some, Ht.out, Option.bind_some]; cases h1 : powT (r1, r2, r3) with | none => rfl | some u => (cases h2 : powT (t1, t2, t3) with | none => rfl | some v => (have e := Hp.out; rw [show powerF r1 r2 r3 = some u from h1, show powerF t1 t2 t3 = some v from h2] at e; simp [pairO, okR] at e)))
        refine bodyPost_ret (v := .tuple #[.agg #[.int .i64 0, .int .i64 0, .int .i64 0, .int .i64 0, .int .i64 0, .int .i64 0], .iface 65 (.agg #[.string s])]) (by simp [results, Tryz.results11, go_sem, *]) rfl ⟨fun _ _ _ _ _ _ h => (by cases h), fun _ => ⟨_, _, _, _, _, _, _, rfl⟩, ?_⟩
        show Acc w _
        (repeat' (first | (with_reducible first | assumption | exact Acc.refl _ | refine Acc.drew ?_ | refine Acc.drewN ?_ _ | refine Acc.alloc ?_ _ | refine Acc.setCell ?_ ?_ _) | (refine leB ?_; omega)))
      | some v =>
        obtain ⟨⟨p1, p2, p3⟩, q1, q2, q3⟩ := v
        have HP1 := Lib.hid (pair_some Hp.out).1
        have HP2 := Lib.hid (pair_some Hp.out).2
        refine (TP.out _).mono ?_
        rintro e W2 ⟨h, -, hb⟩
        obtain rfl := h _ _ _ _ _ _ rfl
        clear h
        obtain ⟨Ba, Bb, Br, Bm⟩ : Blk W2 (w.heap.size) [.int .i64 x1, .int .i64 x2, .int .i64 x3] ∧ Blk W2 (w.heap.size + 1) [.int .i64 y1, .int .i64 y2, .int .i64 y3] ∧ Blk W2 (w.heap.size + 1 + 1) [.int .i64 0, .int .i64 0, .int .i64 0, .int .i64 0, .int .i64 0, .int .i64 0] ∧ Blk W2 (W1.heap.size) [.int .i64 r1, .int .i64 r2, .int .i64 r3, .int .i64 t1, .int .i64 t2, .int .i64 t3] := by
          refine ⟨?_, ?_, ?_, ?_⟩ <;> refine Blk.keep hb ?_ <;> (repeat' (first | (with_reducible first | assumption | refine Blk.drew ?_ | refine Blk.drewN ?_ _ | apply Blk.set | (refine Blk.new ?_; focus (first | rfl | (simp; done))) | refine Blk.alloc ?_ _ | refine Blk.other ?_ ?_ _) | exact eqL rfl | (refine neB ?_; omega)))
        have ca := Ba.cell
        have fa := Ba.free
        have la_W2 := Ba.lt
        have cb := Bb.cell
        have fb := Bb.free
        have lb_W2 := Bb.lt
        have cr := Br.cell
        have fr := Br.free
        have lr_W2 := Br.lt
        have cm := Bm.cell
        have fm := Bm.free
        have lm_W2 := Bm.lt
        have kaW2 : Acc w W2 := by
          refine Acc.call ?_ hb
          (repeat' (first | (with_reducible first | assumption | exact Acc.refl _ | refine Acc.drew ?_ | refine Acc.drewN ?_ _ | refine Acc.alloc ?_ _ | refine Acc.setCell ?_ ?_ _) | (refine leB ?_; omega)))
        clear hb
        go_wp2_with fail
        cases ox with
        | none =>
          refine (TX.out _).mono ?_
          rintro e W3 ⟨-, h, hb⟩
          obtain ⟨s, rfl⟩ := h rfl
          clear h
          obtain ⟨Ba, Bb, Br, Bm, Bp⟩ : Blk W3 (w.heap.size) [.int .i64 x1, .int .i64 x2, .int .i64 x3] ∧ Blk W3 (w.heap.size + 1) [.int .i64 y1, .int .i64 y2, .int .i64 y3] ∧ Blk W3 (w.heap.size + 1 + 1) [.int .i64 0, .int .i64 0, .int .i64 0, .int .i64 0, .int .i64 0, .int .i64 0] ∧ Blk W3 (W1.heap.size) [.int .i64 r1, .int .i64 r2, .int .i64 r3, .int .i64 t1, .int .i64 t2, .int .i64 t3] ∧ Blk W3 (W2.heap.size) [.int .i64 p1, .int .i64 p2, .int .i64 p3, .int .i64 q1, .int .i64 q2, .int .i64 q3] := by
            refine ⟨?_, ?_, ?_, ?_, ?_⟩ <;> refine Blk.keep hb ?_ <;> (repeat' (first | (with_reducible first | assumption | refine Blk.drew ?_ | refine Blk.drewN ?_ _ | apply Blk.set | (refine Blk.new ?_; focus (first | rfl | (simp; done))) | refine Blk.alloc ?_ _ | refine Blk.other ?_ ?_ _) | exact eqL rfl | (refine neB ?_; omega)))
          have ca := Ba.cell
          have fa := Ba.free
          have la_W3 := Ba.lt
          have cb := Bb.cell
          have fb := Bb.free
          have lb_W3 := Bb.lt
          have cr := Br.cell
          have fr := Br.free
          have lr_W3 := Br.lt
          have cm := Bm.cell
          have fm := Bm.free
          have lm_W3 := Bm.lt
          have cp := Bp.cell
          have fp := Bp.free
          have lp_W3 := Bp.lt
          have kaW3 : Acc w W3 := by
            refine Acc.call ?_ hb
            (repeat' (first | (with_reducible first | assumption | exact Acc.refl _ | refine Acc.drew ?_ | refine Acc.drewN ?_ _ | refine Acc.alloc ?_ _ | refine Acc.setCell ?_ ?_ _) | (refine leB ?_; omega)))
          clear hb
          go_wp2_with fail
          obtain rfl : o = none := HE.out.symm.trans (by unfold powM; rw [Hr.out, Option.bind_some, Ht.out, Option.bind_some]; rw [show powT (r1, r2, r3) = some (p1, p2, p3) from HP1.out, Option.bind_some, show powT (t1, t2, t3) = some (q1, q2, q3) from HP2.out, Option.bind_some]; show (makeT x1 x3).bind _ = _; rw [Hx.out]; rfl)
          refine bodyPost_ret (v := .tuple #[.agg #[.int .i64 0, .int .i64 0, .int .i64 0, .int .i64 0, .int .i64 0, .int .i64 0], .iface 65 (.agg #[.string s])]) (by simp [results, Tryz.results11, go_sem, *]) rfl ⟨fun _ _ _ _ _ _ h => (by cases h), fun _ => ⟨_, _, _, _, _, _, _, rfl⟩, ?_⟩
          show Acc w _
          (repeat' (first | (with_reducible first | assumption | exact Acc.refl _ | refine Acc.drew ?_ | refine Acc.drewN ?_ _ | refine Acc.alloc ?_ _ | refine Acc.setCell ?_ ?_ _) | (refine leB ?_; omega)))
        | some v =>
          obtain ⟨m1, m2, m3⟩ := v
          refine (TX.out _).mono ?_
          rintro e W3 ⟨h, -, hb⟩
          obtain rfl := h _ _ _ rfl
          clear h
          obtain ⟨Ba, Bb, Br, Bm, Bp⟩ : Blk W3 (w.heap.size) [.int .i64 x1, .int .i64 x2, .int .i64 x3] ∧ Blk W3 (w.heap.size + 1) [.int .i64 y1, .int .i64 y2, .int .i64 y3] ∧ Blk W3 (w.heap.size + 1 + 1) [.int .i64 0, .int .i64 0, .int .i64 0, .int .i64 0, .int .i64 0, .int .i64 0] ∧ Blk W3 (W1.heap.size) [.int .i64 r1, .int .i64 r2, .int .i64 r3, .int .i64 t1, .int .i64 t2, .int .i64 t3] ∧ Blk W3 (W2.heap.size) [.int .i64 p1, .int .i64 p2, .int .i64 p3, .int .i64 q1, .int .i64 q2, .int .i64 q3] := by
            refine ⟨?_, ?_, ?_, ?_, ?_⟩ <;> refine Blk.keep hb ?_ <;> (repeat' (first | (with_reducible first | assumption | refine Blk.drew ?_ | refine Blk.drewN ?_ _ | apply Blk.set | (refine Blk.new ?_; focus (first | rfl | (simp; done))) | refine Blk.alloc ?_ _ | refine Blk.other ?_ ?_ _) | exact eqL rfl | (refine neB ?_; omega)))
          have ca := Ba.cell
          have fa := Ba.free
          have la_W3 := Ba.lt
          have cb := Bb.cell
          have fb := Bb.free
          have lb_W3 := Bb.lt
          have cr := Br.cell
          have fr := Br.free
          have lr_W3 := Br.lt
          have cm := Bm.cell
          have fm := Bm.free
          have lm_W3 := Bm.lt
          have cp := Bp.cell
          have fp := Bp.free
          have lp_W3 := Bp.lt
          have kaW3 : Acc w W3 := by
            refine Acc.call ?_ hb
            (repeat' (first | (with_reducible first | assumption | exact Acc.refl _ | refine Acc.drew ?_ | refine Acc.drewN ?_ _ | refine Acc.alloc ?_ _ | refine Acc.setCell ?_ ?_ _) | (refine leB ?_; omega)))
          clear hb
          go_wp2_with fail
          cases oy with
          | none =>
            refine (TY.out _).mono ?_
            rintro e W4 ⟨-, h, hb⟩
            obtain ⟨s, rfl⟩ := h rfl
            clear h
            obtain ⟨Ba, Bb, Br, Bm, Bp, Bx⟩ : Blk W4 (w.heap.size) [.int .i64 x1, .int .i64 x2, .int .i64 x3] ∧ Blk W4 (w.heap.size + 1) [.int .i64 y1, .int .i64 y2, .int .i64 y3] ∧ Blk W4 (w.heap.size + 1 + 1) [.int .i64 0, .int .i64 0, .int .i64 0, .int .i64 0, .int .i64 0, .int .i64 0] ∧ Blk W4 (W1.heap.size) [.int .i64 r1, .int .i64 r2, .int .i64 r3, .int .i64 t1, .int .i64 t2, .int .i64 t3] ∧ Blk W4 (W2.heap.size) [.int .i64 p1, .int .i64 p2, .int .i64 p3, .int .i64 q1, .int .i64 q2, .int .i64 q3] ∧ Blk W4 (W3.heap.size) [.int .i64 m1, .int .i64 m2, .int .i64 m3] := by
              refine ⟨?_, ?_, ?_, ?_, ?_, ?_⟩ <;> refine Blk.keep hb ?_ <;> (repeat' (first | (with_reducible first | assumption | refine Blk.drew ?_ | refine Blk.drewN ?_ _ | apply Blk.set | (refine Blk.new ?_; focus (first | rfl | (simp; done))) | refine Blk.alloc ?_ _ | refine Blk.other ?_ ?_ _) | exact eqL rfl | (refine neB ?_; omega)))
            have ca := Ba.cell
            have fa := Ba.free
            have la_W4 := Ba.lt
            have cb := Bb.cell
            have fb := Bb.free
            have lb_W4 := Bb.lt
            have cr := Br.cell
            have fr := Br.free
            have lr_W4 := Br.lt
            have cm := Bm.cell
            have fm := Bm.free
            have lm_W4 := Bm.lt
            have cp := Bp.cell
            have fp := Bp.free
            have lp_W4 := Bp.lt
            have cx := Bx.cell
            have fx := Bx.free
            have lx_W4 := Bx.lt
            have kaW4 : Acc w W4 := by
              refine Acc.call ?_ hb
              (repeat' (first | (with_reducible first | assumption | exact Acc.refl _ | refine Acc.drew ?_ | refine Acc.drewN ?_ _ | refine Acc.alloc ?_ _ | refine Acc.setCell ?_ ?_ _) | (refine leB ?_; omega)))
            clear hb
            go_wp2_with fail
            obtain rfl : o = none := HE.out.symm.trans (by unfold powM; rw [Hr.out, Option.bind_some, Ht.out, Option.bind_some]; rw [show powT (r1, r2, r3) = some (p1, p2, p3) from HP1.out, Option.bind_some, show powT (t1, t2, t3) = some (q1, q2, q3) from HP2.out, Option.bind_some]; show (makeT x1 x3).bind _ = _; rw [Hx.out, Option.bind_some]; show (makeT y1 y3).bind _ = _; rw [Hy.out]; rfl)
            refine bodyPost_ret (v := .tuple #[.agg #[.int .i64 0, .int .i64 0, .int .i64 0, .int .i64 0, .int .i64 0, .int .i64 0], .iface 65 (.agg #[.string s])]) (by simp [results, Tryz.results11, go_sem, *]) rfl ⟨fun _ _ _ _ _ _ h => (by cases h), fun _ => ⟨_, _, _, _, _, _, _, rfl⟩, ?_⟩
            show Acc w _
            (repeat' (first | (with_reducible first | assumption | exact Acc.refl _ | refine Acc.drew ?_ | refine Acc.drewN ?_ _ | refine Acc.alloc ?_ _ | refine Acc.setCell ?_ ?_ _) | (refine leB ?_; omega)))
          | some v =>
            obtain ⟨n1, n2, n3⟩ := v
            have KQ := Lib.hid (okF_i64 (powF_ok HP2.out))
            have KN := Lib.hid (okF_i64 (makeT_ok Hy.out))
            have KM := Lib.hid (okF_i64 (makeT_ok Hx.out))
            obtain ⟨oz, hq⟩ : ∃ o, timesF q1 q2 q3 n1 n2 n3 = o := ⟨_, rfl⟩
            have TZ := Lib.hid fun w => mtimes_any q1 q2 q3 n1 n2 n3 w KQ.out.1 KQ.out.2.1 KQ.out.2.2 KN.out.1 KN.out.2.1 KN.out.2.2
            rw [hq] at TZ
            have Hz := Lib.hid hq
            clear hq
            refine (TY.out _).mono ?_
            rintro e W4 ⟨h, -, hb⟩
            obtain rfl := h _ _ _ rfl
            clear h
            obtain ⟨Ba, Bb, Br, Bm, Bp, Bx⟩ : Blk W4 (w.heap.size) [.int .i64 x1, .int .i64 x2, .int .i64 x3] ∧ Blk W4 (w.heap.size + 1) [.int .i64 y1, .int .i64 y2, .int .i64 y3] ∧ Blk W4 (w.heap.size + 1 + 1) [.int .i64 0, .int .i64 0, .int .i64 0, .int .i64 0, .int .i64 0, .int .i64 0] ∧ Blk W4 (W1.heap.size) [.int .i64 r1, .int .i64 r2, .int .i64 r3, .int .i64 t1, .int .i64 t2, .int .i64 t3] ∧ Blk W4 (W2.heap.size) [.int .i64 p1, .int .i64 p2, .int .i64 p3, .int .i64 q1, .int .i64 q2, .int .i64 q3] ∧ Blk W4 (W3.heap.size) [.int .i64 m1, .int .i64 m2, .int .i64 m3] := by
              refine ⟨?_, ?_, ?_, ?_, ?_, ?_⟩ <;> refine Blk.keep hb ?_ <;> (repeat' (first | (with_reducible first | assumption | refine Blk.drew ?_ | refine Blk.drewN ?_ _ | apply Blk.set | (refine Blk.new ?_; focus (first | rfl | (simp; done))) | refine Blk.alloc ?_ _ | refine Blk.other ?_ ?_ _) | exact eqL rfl | (refine neB ?_; omega)))
            have ca := Ba.cell
            have fa := Ba.free
            have la_W4 := Ba.lt
            have cb := Bb.cell
            have fb := Bb.free
            have lb_W4 := Bb.lt
            have cr := Br.cell
            have fr := Br.free
            have lr_W4 := Br.lt
            have cm := Bm.cell
            have fm := Bm.free
            have lm_W4 := Bm.lt
            have cp := Bp.cell
            have fp := Bp.free
            have lp_W4 := Bp.lt
            have cx := Bx.cell
            have fx := Bx.free
            have lx_W4 := Bx.lt
            have kaW4 : Acc w W4 := by
              refine Acc.call ?_ hb
              (repeat' (first | (with_reducible first | assumption | exact Acc.refl _ | refine Acc.drew ?_ | refine Acc.drewN ?_ _ | refine Acc.alloc ?_ _ | refine Acc.setCell ?_ ?_ _) | (refine leB ?_; omega)))
            clear hb
            go_wp2_with fail
            cases oz with
            | none =>
              refine (TZ.out _).mono ?_
              rintro e W5 ⟨-, h, hb⟩
              obtain ⟨s, rfl⟩ := h rfl
              clear h
              obtain ⟨Ba, Bb, Br, Bm, Bp, Bx, By⟩ : Blk W5 (w.heap.size) [.int .i64 x1, .int .i64 x2, .int .i64 x3] ∧ Blk W5 (w.heap.size + 1) [.int .i64 y1, .int .i64 y2, .int .i64 y3] ∧ Blk W5 (w.heap.size + 1 + 1) [.int .i64 0, .int .i64 0, .int .i64 0, .int .i64 0, .int .i64 0, .int .i64 0] ∧ Blk W5 (W1.heap.size) [.int .i64 r1, .int .i64 r2, .int .i64 r3, .int .i64 t1, .int .i64 t2, .int .i64 t3] ∧ Blk W5 (W2.heap.size) [.int .i64 p1, .int .i64 p2, .int .i64 p3, .int .i64 q1, .int .i64 q2, .int .i64 q3] ∧ Blk W5 (W3.heap.size) [.int .i64 m1, .int .i64 m2, .int .i64 m3] ∧ Blk W5 (W4.heap.size) [.int .i64 n1, .int .i64 n2, .int .i64 n3] := by
                refine ⟨?_, ?_, ?_, ?_, ?_, ?_, ?_⟩ <;> refine Blk.keep hb ?_ <;> (repeat' (first | (with_reducible first | assumption | refine Blk.drew ?_ | refine Blk.drewN ?_ _ | apply Blk.set | (refine Blk.new ?_; focus (first | rfl | (simp; done))) | refine Blk.alloc ?_ _ | refine Blk.other ?_ ?_ _) | exact eqL rfl | (refine neB ?_; omega)))
              have ca := Ba.cell
              have fa := Ba.free
              have la_W5 := Ba.lt
              have cb := Bb.cell
              have fb := Bb.free
              have lb_W5 := Bb.lt
              have cr := Br.cell
              have fr := Br.free
              have lr_W5 := Br.lt
              have cm := Bm.cell
              have fm := Bm.free
              have lm_W5 := Bm.lt
              have cp := Bp.cell
              have fp := Bp.free
              have lp_W5 := Bp.lt
              have cx := Bx.cell
              have fx := Bx.free
              have lx_W5 := Bx.lt
              have cy := By.cell
              have fy := By.free
              have ly_W5 := By.lt
              have kaW5 : Acc w W5 := by
                refine Acc.call ?_ hb
                (repeat' (first | (with_reducible first | assumption | exact Acc.refl _ | refine Acc.drew ?_ | refine Acc.drewN ?_ _ | refine Acc.alloc ?_ _ | refine Acc.setCell ?_ ?_ _) | (refine leB ?_; omega)))
              clear hb
              go_wp2_with fail
              obtain rfl : o = none := HE.out.symm.trans (by unfold powM; rw [Hr.out, Option.bind_some, Ht.out, Option.bind_some]; rw [show powT (r1, r2, r3) = some (p1, p2, p3) from HP1.out, Option.bind_some, show powT (t1, t2, t3) = some (q1, q2, q3) from HP2.out, Option.bind_some]; show (makeT x1 x3).bind _ = _; rw [Hx.out, Option.bind_some]; show (makeT y1 y3).bind _ = _; rw [Hy.out, Option.bind_some]; show (tT (q1, q2, q3) (n1, n2, n3)).bind _ = _; rw [show tT (q1, q2, q3) (n1, n2, n3) = none from Hz.out]; rfl)
              refine bodyPost_ret (v := .tuple #[.agg #[.int .i64 0, .int .i64 0, .int .i64 0, .int .i64 0, .int .i64 0, .int .i64 0], .iface 65 (.agg #[.string s])]) (by simp [results, Tryz.results11, go_sem, *]) rfl ⟨fun _ _ _ _ _ _ h => (by cases h), fun _ => ⟨_, _, _, _, _, _, _, rfl⟩, ?_⟩
              show Acc w _
              (repeat' (first | (with_reducible first | assumption | exact Acc.refl _ | refine Acc.drew ?_ | refine Acc.drewN ?_ _ | refine Acc.alloc ?_ _ | refine Acc.setCell ?_ ?_ _) | (refine leB ?_; omega)))
            | some v =>
              obtain ⟨z1, z2, z3⟩ := v
              have KZ := Lib.hid (okF_i64 (times_val Hz.out).2.2.1)
              obtain ⟨ol, hq⟩ : ∃ o, overF z1 z2 z3 m1 m2 m3 = o := ⟨_, rfl⟩
              have TL := Lib.hid fun w => mover_any z1 z2 z3 m1 m2 m3 w KZ.out.1 KZ.out.2.1 KZ.out.2.2 KM.out.1 KM.out.2.1 KM.out.2.2
              rw [hq] at TL
              have Hl := Lib.hid hq
              clear hq
              refine (TZ.out _).mono ?_
              rintro e W5 ⟨h, -, hb⟩
              obtain rfl := h _ _ _ rfl
              clear h
              obtain ⟨Ba, Bb, Br, Bm, Bp, Bx, By⟩ : Blk W5 (w.heap.size) [.int .i64 x1, .int .i64 x2, .int .i64 x3] ∧ Blk W5 (w.heap.size + 1) [.int .i64 y1, .int .i64 y2, .int .i64 y3] ∧ Blk W5 (w.heap.size + 1 + 1) [.int .i64 0, .int .i64 0, .int .i64 0, .int .i64 0, .int .i64 0, .int .i64 0] ∧ Blk W5 (W1.heap.size) [.int .i64 r1, .int .i64 r2, .int .i64 r3, .int .i64 t1, .int .i64 t2, .int .i64 t3] ∧ Blk W5 (W2.heap.size) [.int .i64 p1, .int .i64 p2, .int .i64 p3, .int .i64 q1, .int .i64 q2, .int .i64 q3] ∧ Blk W5 (W3.heap.size) [.int .i64 m1, .int .i64 m2, .int .i64 m3] ∧ Blk W5 (W4.heap.size) [.int .i64 n1, .int .i64 n2, .int .i64 n3] := by
                refine ⟨?_, ?_, ?_, ?_, ?_, ?_, ?_⟩ <;> refine Blk.keep hb ?_ <;> (repeat' (first | (with_reducible first | assumption | refine Blk.drew ?_ | refine Blk.drewN ?_ _ | apply Blk.set | (refine Blk.new ?_; focus (first | rfl | (simp; done))) | refine Blk.alloc ?_ _ | refine Blk.other ?_ ?_ _) | exact eqL rfl | (refine neB ?_; omega)))
              have ca := Ba.cell
              have fa := Ba.free
              have la_W5 := Ba.lt
              have cb := Bb.cell
              have fb := Bb.free
              have lb_W5 := Bb.lt
              have cr := Br.cell
              have fr := Br.free
              have lr_W5 := Br.lt
              have cm := Bm.cell
              have fm := Bm.free
              have lm_W5 := Bm.lt
              have cp := Bp.cell
              have fp := Bp.free
              have lp_W5 := Bp.lt
              have cx := Bx.cell
              have fx := Bx.free
              have lx_W5 := Bx.lt
              have cy := By.cell
              have fy := By.free
              have ly_W5 := By.lt
              have kaW5 : Acc w W5 := by
                refine Acc.call ?_ hb
                (repeat' (first | (with_reducible first | assumption | exact Acc.refl _ | refine Acc.drew ?_ | refine Acc.drewN ?_ _ | refine Acc.alloc ?_ _ | refine Acc.setCell ?_ ?_ _) | (refine leB ?_; omega)))
              clear hb
              go_wp2_with fail
              cases ol with
              | none =>
                refine (TL.out _).mono ?_
                rintro e W6 ⟨-, h, hb⟩
                obtain ⟨s, rfl⟩ := h rfl
                clear h
                obtain ⟨Ba, Bb, Br, Bm, Bp, Bx, By, Bz⟩ : Blk W6 (w.heap.size) [.int .i64 x1, .int .i64 x2, .int .i64 x3] ∧ Blk W6 (w.heap.size + 1) [.int .i64 y1, .int .i64 y2, .int .i64 y3] ∧ Blk W6 (w.heap.size + 1 + 1) [.int .i64 0, .int .i64 0, .int .i64 0, .int .i64 0, .int .i64 0, .int .i64 0] ∧ Blk W6 (W1.heap.size) [.int .i64 r1, .int .i64 r2, .int .i64 r3, .int .i64 t1, .int .i64 t2, .int .i64 t3] ∧ Blk W6 (W2.heap.size) [.int .i64 p1, .int .i64 p2, .int .i64 p3, .int .i64 q1, .int .i64 q2, .int .i64 q3] ∧ Blk W6 (W3.heap.size) [.int .i64 m1, .int .i64 m2, .int .i64 m3] ∧ Blk W6 (W4.heap.size) [.int .i64 n1, .int .i64 n2, .int .i64 n3] ∧ Blk W6 (W5.heap.size) [.int .i64 z1, .int .i64 z2, .int .i64 z3] := by
                  refine ⟨?_, ?_, ?_, ?_, ?_, ?_, ?_, ?_⟩ <;> refine Blk.keep hb ?_ <;> (repeat' (first | (with_reducible first | assumption | refine Blk.drew ?_ | refine Blk.drewN ?_ _ | apply Blk.set | (refine Blk.new ?_; focus (first | rfl | (simp; done))) | refine Blk.alloc ?_ _ | refine Blk.other ?_ ?_ _) | exact eqL rfl | (refine neB ?_; omega)))
                have ca := Ba.cell
                have fa := Ba.free
                have la_W6 := Ba.lt
                have cb := Bb.cell
                have fb := Bb.free
                have lb_W6 := Bb.lt
                have cr := Br.cell
                have fr := Br.free
                have lr_W6 := Br.lt
                have cm := Bm.cell
                have fm := Bm.free
                have lm_W6 := Bm.lt
                have cp := Bp.cell
                have fp := Bp.free
                have lp_W6 := Bp.lt
                have cx := Bx.cell
                have fx := Bx.free
                have lx_W6 := Bx.lt
                have cy := By.cell
                have fy := By.free
                have ly_W6 := By.lt
                have cz := Bz.cell
                have fz := Bz.free
                have lz_W6 := Bz.lt
                have kaW6 : Acc w W6 := by
                  refine Acc.call ?_ hb
                  (repeat' (first | (with_reducible first | assumption | exact Acc.refl _ | refine Acc.drew ?_ | refine Acc.drewN ?_ _ | refine Acc.alloc ?_ _ | refine Acc.setCell ?_ ?_ _) | (refine leB ?_; omega)))
                clear hb
                go_wp2_with fail
                obtain rfl : o = none := HE.out.symm.trans (by unfold powM; rw [Hr.out, Option.bind_some, Ht.out, Option.bind_some]; rw [show powT (r1, r2, r3) = some (p1, p2, p3) from HP1.out, Option.bind_some, show powT (t1, t2, t3) = some (q1, q2, q3) from HP2.out, Option.bind_some]; show (makeT x1 x3).bind _ = _; rw [Hx.out, Option.bind_some]; show (makeT y1 y3).bind _ = _; rw [Hy.out, Option.bind_some]; show (tT (q1, q2, q3) (n1, n2, n3)).bind _ = _; rw [show tT (q1, q2, q3) (n1, n2, n3) = some (z1, z2, z3) from Hz.out, Option.bind_some]; show (oT (z1, z2, z3) (m1, m2, m3)).bind _ = _; rw [show oT (z1, z2, z3) (m1, m2, m3) = none from Hl.out]; rfl)
                refine bodyPost_ret (v := .tuple #[.agg #[.int .i64 p1, .int .i64 p2, .int .i64 p3, .int .i64 0, .int .i64 0, .int .i64 0], .iface 65 (.agg #[.string s])]) (by simp [results, Tryz.results11, go_sem, *]) rfl ⟨fun _ _ _ _ _ _ h => (by cases h), fun _ => ⟨_, _, _, _, _, _, _, rfl⟩, ?_⟩
                show Acc w _
                (repeat' (first | (with_reducible first | assumption | exact Acc.refl _ | refine Acc.drew ?_ | refine Acc.drewN ?_ _ | refine Acc.alloc ?_ _ | refine Acc.setCell ?_ ?_ _) | (refine leB ?_; omega)))
              | some v =>
                obtain ⟨l1, l2, l3⟩ := v
                refine (TL.out _).mono ?_
                rintro e W6 ⟨h, -, hb⟩
                obtain rfl := h _ _ _ rfl
                clear h
                obtain ⟨Ba, Bb, Br, Bm, Bp, Bx, By, Bz⟩ : Blk W6 (w.heap.size) [.int .i64 x1, .int .i64 x2, .int .i64 x3] ∧ Blk W6 (w.heap.size + 1) [.int .i64 y1, .int .i64 y2, .int .i64 y3] ∧ Blk W6 (w.heap.size + 1 + 1) [.int .i64 0, .int .i64 0, .int .i64 0, .int .i64 0, .int .i64 0, .int .i64 0] ∧ Blk W6 (W1.heap.size) [.int .i64 r1, .int .i64 r2, .int .i64 r3, .int .i64 t1, .int .i64 t2, .int .i64 t3] ∧ Blk W6 (W2.heap.size) [.int .i64 p1, .int .i64 p2, .int .i64 p3, .int .i64 q1, .int .i64 q2, .int .i64 q3] ∧ Blk W6 (W3.heap.size) [.int .i64 m1, .int .i64 m2, .int .i64 m3] ∧ Blk W6 (W4.heap.size) [.int .i64 n1, .int .i64 n2, .int .i64 n3] ∧ Blk W6 (W5.heap.size) [.int .i64 z1, .int .i64 z2, .int .i64 z3] := by
                  refine ⟨?_, ?_, ?_, ?_, ?_, ?_, ?_, ?_⟩ <;> refine Blk.keep hb ?_ <;> (repeat' (first | (with_reducible first | assumption | refine Blk.drew ?_ | refine Blk.drewN ?_ _ | apply Blk.set | (refine Blk.new ?_; focus (first | rfl | (simp; done))) | refine Blk.alloc ?_ _ | refine Blk.other ?_ ?_ _) | exact eqL rfl | (refine neB ?_; omega)))
                have ca := Ba.cell
                have fa := Ba.free
                have la_W6 := Ba.lt
                have cb := Bb.cell
                have fb := Bb.free
                have lb_W6 := Bb.lt
                have cr := Br.cell
                have fr := Br.free
                have lr_W6 := Br.lt
                have cm := Bm.cell
                have fm := Bm.free
                have lm_W6 := Bm.lt
                have cp := Bp.cell
                have fp := Bp.free
                have lp_W6 := Bp.lt
                have cx := Bx.cell
                have fx := Bx.free
                have lx_W6 := Bx.lt
                have cy := By.cell
                have fy := By.free
                have ly_W6 := By.lt
                have cz := Bz.cell
                have fz := Bz.free
                have lz_W6 := Bz.lt
                have kaW6 : Acc w W6 := by
                  refine Acc.call ?_ hb
                  (repeat' (first | (with_reducible first | assumption | exact Acc.refl _ | refine Acc.drew ?_ | refine Acc.drewN ?_ _ | refine Acc.alloc ?_ _ | refine Acc.setCell ?_ ?_ _) | (refine leB ?_; omega)))
                clear hb
                go_wp2_with fail
                obtain rfl : o = some ((p1, p2, p3), (l1, l2, l3)) := HE.out.symm.trans (by unfold powM; rw [Hr.out, Option.bind_some, Ht.out, Option.bind_some]; rw [show powT (r1, r2, r3) = some (p1, p2, p3) from HP1.out, Option.bind_some, show powT (t1, t2, t3) = some (q1, q2, q3) from HP2.out, Option.bind_some]; show (makeT x1 x3).bind _ = _; rw [Hx.out, Option.bind_some]; show (makeT y1 y3).bind _ = _; rw [Hy.out, Option.bind_some]; show (tT (q1, q2, q3) (n1, n2, n3)).bind _ = _; rw [show tT (q1, q2, q3) (n1, n2, n3) = some (z1, z2, z3) from Hz.out, Option.bind_some]; show (oT (z1, z2, z3) (m1, m2, m3)).bind _ = _; rw [show oT (z1, z2, z3) (m1, m2, m3) = some (l1, l2, l3) from Hl.out]; rfl)
                refine bodyPost_ret (v := .tuple #[.agg #[.int .i64 p1, .int .i64 p2, .int .i64 p3, .int .i64 l1, .int .i64 l2, .int .i64 l3], .nilIface]) (by simp [results, Tryz.results11, go_sem, *]) rfl ⟨fun _ _ _ _ _ _ h => (by cases h; rfl), fun h => (by cases h), ?_⟩
                show Acc w _
                (repeat' (first | (with_reducible first | assumption | exact Acc.refl _ | refine Acc.drew ?_ | refine Acc.drewN ?_ _ | refine Acc.alloc ?_ _ | refine Acc.setCell ?_ ?_ _) | (refine leB ?_; omega)))
set_option maxRecDepth 100000 in
set_option maxHeartbeats 8000000 in
theorem implFlPow_any (a : Option Addr) (ls : List L4) (cap : Nat) (x1 x2 x3 y1 y2 y3 : Int) (hx1 : i64B x1) (hx2 : i64B x2) (hx3 : i64B x3) (hy1 : i64B y1) (hy2 : i64B y2) (hy3 : i64B y3) (w : World) (h : Lys w a ls) (hn : ls.length ≤ 1048576) (hl : Laid w) : Calls Tryz.prog 5 #[.slice a ls.length cap, .agg #[.int .i64 x1, .int .i64 x2, .int .i64 x3], .agg #[.int .i64 y1, .int .i64 y2, .int .i64 y3]] w (Gave33 (powM ls (x1, x2, x3) (y1, y2, y3)) w) := by
  obtain ⟨o, ho⟩ : ∃ o, powM ls (x1, x2, x3) (y1, y2, y3) = o := ⟨_, rfl⟩
  have T := Lib.hid fun (W : World) (ka : Acc w W) => powers_any a ls cap x1 x2 x3 y1 y2 y3 hx1 hx2 hx3 hy1 hy2 hy3 W (h.keep ka) hn
  rw [ho] at T ⊢
  clear h ho hx1 hx2 hx3 hy1 hy2 hy3
  have HL := Lib.hid fun W (k : Acc w W) => hl.acc k
  clear hl
  go_enter Tryz.func5, Tryz.ntmps5
  go_wp2_with fail
  cases o with
  | none =>
    refine (T.out _ (by repeat' (first | (with_reducible first | assumption | exact Acc.refl _ | refine Acc.drew ?_ | refine Acc.drewN ?_ _ | refine Acc.alloc ?_ _ | refine Acc.setCell ?_ ?_ _) | (refine leB ?_; omega)))).mono ?_
    rintro e W1 ⟨-, h, hb⟩
    obtain ⟨u1, u2, u3, u4, u5, u6, s, rfl⟩ := h rfl
    clear h
    obtain ⟨Ba, Bb, Br, Bs⟩ : Blk W1 (w.heap.size) [.int .i64 x1, .int .i64 x2, .int .i64 x3] ∧ Blk W1 (w.heap.size + 1) [.int .i64 y1, .int .i64 y2, .int .i64 y3] ∧ Blk W1 (w.heap.size + 1 + 1) [.int .i64 0, .int .i64 0, .int .i64 0] ∧ Blk W1 (w.heap.size + 1 + 1 + 1) [.int .i64 0, .int .i64 0, .int .i64 0] := by
      refine ⟨?_, ?_, ?_, ?_⟩ <;> refine Blk.keep hb ?_ <;> (repeat' (first | (with_reducible first | assumption | refine Blk.drew ?_ | refine Blk.drewN ?_ _ | apply Blk.set | (refine Blk.new ?_; focus (first | rfl | (simp; done))) | refine Blk.alloc ?_ _ | refine Blk.other ?_ ?_ _) | exact eqL rfl | (refine neB ?_; omega)))
    have ca := Ba.cell
    have fa := Ba.free
    have la_W1 := Ba.lt
    have cb := Bb.cell
    have fb := Bb.free
    have lb_W1 := Bb.lt
    have cr := Br.cell
    have fr := Br.free
    have lr_W1 := Br.lt
    have cs := Bs.cell
    have fs := Bs.free
    have ls_W1 := Bs.lt
    have kaW1 : Acc w W1 := by
      refine Acc.call ?_ hb
      (repeat' (first | (with_reducible first | assumption | exact Acc.refl _ | refine Acc.drew ?_ | refine Acc.drewN ?_ _ | refine Acc.alloc ?_ _ | refine Acc.setCell ?_ ?_ _) | (refine leB ?_; omega)))
    clear hb
    go_wp2_with fail
    refine (toldVec_err u1 u2 u3 u4 u5 u6 s _ (HL.out _ (by repeat' (first | (with_reducible first | assumption | exact Acc.refl _ | refine Acc.drew ?_ | refine Acc.drewN ?_ _ | refine Acc.alloc ?_ _ | refine Acc.setCell ?_ ?_ _) | (refine leB ?_; omega))))).mono ?_
    rintro e W2 ⟨rfl, hb⟩
    obtain ⟨Ba, Bb, Br, Bs⟩ : Blk W2 (w.heap.size) [.int .i64 x1, .int .i64 x2, .int .i64 x3] ∧ Blk W2 (w.heap.size + 1) [.int .i64 y1, .int .i64 y2, .int .i64 y3] ∧ Blk W2 (w.heap.size + 1 + 1) [.int .i64 0, .int .i64 0, .int .i64 0] ∧ Blk W2 (w.heap.size + 1 + 1 + 1) [.int .i64 0, .int .i64 0, .int .i64 0] := by
      refine ⟨?_, ?_, ?_, ?_⟩ <;> refine Blk.keep hb ?_ <;> (repeat' (first | (with_reducible first | assumption | refine Blk.drew ?_ | refine Blk.drewN ?_ _ | apply Blk.set | (refine Blk.new ?_; focus (first | rfl | (simp; done))) | refine Blk.alloc ?_ _ | refine Blk.other ?_ ?_ _) | exact eqL rfl | (refine neB ?_; omega)))
    have ca := Ba.cell
    have fa := Ba.free
    have la_W2 := Ba.lt
    have cb := Bb.cell
    have fb := Bb.free
    have lb_W2 := Bb.lt
    have cr := Br.cell
    have fr := Br.free
    have lr_W2 := Br.lt
    have cs := Bs.cell
    have fs := Bs.free
    have ls_W2 := Bs.lt
    have kaW2 : Acc w W2 := by
      refine Acc.call ?_ hb
      (repeat' (first | (with_reducible first | assumption | exact Acc.refl _ | refine Acc.drew ?_ | refine Acc.drewN ?_ _ | refine Acc.alloc ?_ _ | refine Acc.setCell ?_ ?_ _) | (refine leB ?_; omega)))
    clear hb
    go_upto_region 2 with fail
    go_region_held3 (fun w' => (∀ k, w'.cell? ⟨W2.heap.size, k, none⟩ = [.int .i64 0, .int .i64 0, .int .i64 0, .int .i64 0, .int .i64 0, .int .i64 0][k]?))
      (((try dsimp only); (refine Blk.cell ?_ <;> (repeat' (first | (with_reducible first | assumption | refine Blk.drew ?_ | refine Blk.drewN ?_ _ | apply Blk.set | (refine Blk.new ?_; focus (first | rfl | (simp; done))) | refine Blk.alloc ?_ _ | refine Blk.other ?_ ?_ _) | exact eqL rfl | (refine neB ?_; omega))))))
      (first
        | fail)
    all_goals
      go_wp2_with fail
      refine bodyPost_ret (v := .tuple #[.agg #[.int .i64 0, .int .i64 0, .int .i64 0], .agg #[.int .i64 0, .int .i64 0, .int .i64 0], .bool false]) (by simp [results, Tryz.results5, go_sem, *]) rfl ⟨fun _ _ _ _ _ _ h => (by cases h), fun _ => rfl, ?_⟩
      show Acc w _
      (repeat' (first | (with_reducible first | assumption | exact Acc.refl _ | refine Acc.drew ?_ | refine Acc.drewN ?_ _ | refine Acc.alloc ?_ _ | refine Acc.setCell ?_ ?_ _) | (refine leB ?_; omega)))
  | some v =>
    obtain ⟨⟨r1, r2, r3⟩, r4, r5, r6⟩ := v
    refine (T.out _ (by repeat' (first | (with_reducible first | assumption | exact Acc.refl _ | refine Acc.drew ?_ | refine Acc.drewN ?_ _ | refine Acc.alloc ?_ _ | refine Acc.setCell ?_ ?_ _) | (refine leB ?_; omega)))).mono ?_
    rintro e W1 ⟨h, -, hb⟩
    obtain rfl := h _ _ _ _ _ _ rfl
    clear h
    obtain ⟨Ba, Bb, Br, Bs⟩ : Blk W1 (w.heap.size) [.int .i64 x1, .int .i64 x2, .int .i64 x3] ∧ Blk W1 (w.heap.size + 1) [.int .i64 y1, .int .i64 y2, .int .i64 y3] ∧ Blk W1 (w.heap.size + 1 + 1) [.int .i64 0, .int .i64 0, .int .i64 0] ∧ Blk W1 (w.heap.size + 1 + 1 + 1) [.int .i64 0, .int .i64 0, .int .i64 0] := by
      refine ⟨?_, ?_, ?_, ?_⟩ <;> refine Blk.keep hb ?_ <;> (repeat' (first | (with_reducible first | assumption | refine Blk.drew ?_ | refine Blk.drewN ?_ _ | apply Blk.set | (refine Blk.new ?_; focus (first | rfl | (simp; done))) | refine Blk.alloc ?_ _ | refine Blk.other ?_ ?_ _) | exact eqL rfl | (refine neB ?_; omega)))
    have ca := Ba.cell
    have fa := Ba.free
    have la_W1 := Ba.lt
    have cb := Bb.cell
    have fb := Bb.free
    have lb_W1 := Bb.lt
    have cr := Br.cell
    have fr := Br.free
    have lr_W1 := Br.lt
    have cs := Bs.cell
    have fs := Bs.free
    have ls_W1 := Bs.lt
    have kaW1 : Acc w W1 := by
      refine Acc.call ?_ hb
      (repeat' (first | (with_reducible first | assumption | exact Acc.refl _ | refine Acc.drew ?_ | refine Acc.drewN ?_ _ | refine Acc.alloc ?_ _ | refine Acc.setCell ?_ ?_ _) | (refine leB ?_; omega)))
    clear hb
    go_wp2_with fail
    refine (toldVec_ok r1 r2 r3 r4 r5 r6 _).mono ?_
    rintro e W2 ⟨rfl, hb⟩
    obtain ⟨Ba, Bb, Br, Bs⟩ : Blk W2 (w.heap.size) [.int .i64 x1, .int .i64 x2, .int .i64 x3] ∧ Blk W2 (w.heap.size + 1) [.int .i64 y1, .int .i64 y2, .int .i64 y3] ∧ Blk W2 (w.heap.size + 1 + 1) [.int .i64 0, .int .i64 0, .int .i64 0] ∧ Blk W2 (w.heap.size + 1 + 1 + 1) [.int .i64 0, .int .i64 0, .int .i64 0] := by
      refine ⟨?_, ?_, ?_, ?_⟩ <;> refine Blk.keep hb ?_ <;> (repeat' (first | (with_reducible first | assumption | refine Blk.drew ?_ | refine Blk.drewN ?_ _ | apply Blk.set | (refine Blk.new ?_; focus (first | rfl | (simp; done))) | refine Blk.alloc ?_ _ | refine Blk.other ?_ ?_ _) | exact eqL rfl | (refine neB ?_; omega)))
    have ca := Ba.cell
    have fa := Ba.free
    have la_W2 := Ba.lt
    have cb := Bb.cell
    have fb := Bb.free
    have lb_W2 := Bb.lt
    have cr := Br.cell
    have fr := Br.free
    have lr_W2 := Br.lt
    have cs := Bs.cell
    have fs := Bs.free
    have ls_W2 := Bs.lt
    have kaW2 : Acc w W2 := by
      refine Acc.call ?_ hb
      (repeat' (first | (with_reducible first | assumption | exact Acc.refl _ | refine Acc.drew ?_ | refine Acc.drewN ?_ _ | refine Acc.alloc ?_ _ | refine Acc.setCell ?_ ?_ _) | (refine leB ?_; omega)))
    clear hb
    go_upto_region 2 with fail
    go_region_held3 (fun w' => (∀ k, w'.cell? ⟨W2.heap.size, k, none⟩ = [.int .i64 r1, .int .i64 r2, .int .i64 r3, .int .i64 r4, .int .i64 r5, .int .i64 r6][k]?))
      (((try dsimp only); (refine Blk.cell ?_ <;> (repeat' (first | (with_reducible first | assumption | refine Blk.drew ?_ | refine Blk.drewN ?_ _ | apply Blk.set | (refine Blk.new ?_; focus (first | rfl | (simp; done))) | refine Blk.alloc ?_ _ | refine Blk.other ?_ ?_ _) | exact eqL rfl | (refine neB ?_; omega))))))
      (first
        | fail)
    all_goals
      go_wp2_with fail
      refine bodyPost_ret (v := .tuple #[.agg #[.int .i64 r1, .int .i64 r2, .int .i64 r3], .agg #[.int .i64 r4, .int .i64 r5, .int .i64 r6], .bool true]) (by simp [results, Tryz.results5, go_sem, *]) rfl ⟨fun _ _ _ _ _ _ h => (by cases h; rfl), fun h => (by cases h), ?_⟩
      show Acc w _
      (repeat' (first | (with_reducible first | assumption | exact Acc.refl _ | refine Acc.drew ?_ | refine Acc.drewN ?_ _ | refine Acc.alloc ?_ _ | refine Acc.setCell ?_ ?_ _) | (refine leB ?_; omega)))
end Go.Proofs.YtpgklllgmfaekaaGreatDoor
