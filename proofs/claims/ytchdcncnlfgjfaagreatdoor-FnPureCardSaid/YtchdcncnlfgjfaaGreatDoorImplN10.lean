/-
  The program's numbers of a vector, one by one.
-/
import Derived.Test.YtchdcncnlfgjfaaGreatDoorImplN4
import Derived.Test.YtchdcncnlfgjfaaGreatDoorImplVec3
import Derived.Test.YtchdcncnlfgjfaaGreatDoorStokesMath
namespace Go.Proofs.YtchdcncnlfgjfaaGreatDoor
open Go.ChangeShapes Go.WideShapes Go.ChangeAt Go.RowKit
set_option linter.unusedVariables false

/-- A part over the bottom, in lowest terms; twice it. -/
theorem low_part {x y z : Int} (p : Int) (h : okF x y z = true) (hp : -2000000000 ≤ p ∧ p ≤ 2000000000) : ∃ u t, lowE p 0 z = some (u, 0, t) ∧ sumF 1 u 0 t u 0 t = makeF (2 * p) 0 z := by
  obtain ⟨-, -, z1, z2⟩ := okF_bd h
  obtain ⟨u, v, t, e⟩ := low_told z1 z2 hp (by omega : (-2000000000 : Int) ≤ 0 ∧ (0 : Int) ≤ 2000000000)
  obtain ⟨k, e1, e2⟩ := (low_iff z1).1 e
  have hv : v = 0 := real0 k (by rw [(rv_eq (okF_den k) z1).2 (show v * z = 0 * t by omega), rv_zero])
  subst hv
  have hE : lowE p 0 z = some (u, 0, t) := by
    unfold lowE
    rw [if_neg (by omega)]
    exact e
  refine ⟨u, t, hE, ?_⟩
  have b := okF_bd k
  have hm : makeF (2 * p) 0 z = lowF (2 * p) 0 z := by
    unfold makeF inB
    rw [if_pos (by simp only [Bool.and_eq_true, decide_eq_true_eq]; omega)]
  rw [hm]
  have key : ∀ p1 q1 r1 : Int, sumF 1 u 0 t u 0 t = some (p1, q1, r1) ↔ lowF (2 * p) 0 z = some (p1, q1, r1) := by
    intro p1 q1 r1
    have n1 := ne0 (okF_den k)
    have n2 := ne0 z1
    have eu : rv p z = rv u t := ((rv_eq (okF_den k) z1).2 (by omega)).symm
    rw [low_iff z1]
    constructor
    · intro h
      obtain ⟨_, _, k2, f1, f2⟩ := sum_val h
      have n3 := ne0 (okF_den k2)
      rw [rv_zero] at f2
      have hq : q1 = 0 := real0 k2 (by rw [f2]; grind)
      subst hq
      refine ⟨k2, ?_, by omega⟩
      rw [← eu] at f1
      unfold rv at f1
      have : (p1 : Rat) * z = (2 * p) * r1 := by grind
      exact_mod_cast this
    · rintro ⟨k2, f1, f2⟩
      have n3 := ne0 (okF_den k2)
      have hq : q1 = 0 := real0 k2 (by rw [(rv_eq (okF_den k2) z1).2 (show q1 * z = 0 * r1 by omega), rv_zero])
      subst hq
      refine sum_ofV k k k2 ?_ (by rw [rv_zero, rv_zero]; grind)
      rw [← eu]
      have : (p1 : Rat) * z = (2 * p) * r1 := by exact_mod_cast f1
      unfold rv
      grind
  cases hs : sumF 1 u 0 t u 0 t with
  | some o =>
    obtain ⟨p1, q1, r1⟩ := o
    exact ((key _ _ _).1 hs).symm
  | none =>
    cases hl : lowF (2 * p) 0 z with
    | none => rfl
    | some o =>
      obtain ⟨p1, q1, r1⟩ := o
      rw [(key _ _ _).2 hl] at hs
      cases hs
theorem low_i64 {p z u t : Int} (h : lowE p 0 z = some (u, 0, t)) : i64B u ∧ i64B t := by
  unfold lowE at h
  split at h
  · cases h
  · obtain ⟨k, -, -⟩ := (low_iff (by omega)).1 h
    exact ⟨(okF_i64 k).1, (okF_i64 k).2.2⟩
theorem lessO_bind (o p : Option (Int × Int × Int)) : lessO o p = (pairO o p).bind fun r => lessF r.1.1 r.1.2.1 r.1.2.2 r.2.1 r.2.2.1 r.2.2.2 := by
  cases o <;> cases p <;> simp [lessO, pairO, okR, partsR]
set_option maxHeartbeats 2000000 in
theorem vpowerAlong_any (x1 x2 x3 y1 y2 y3 : Int) (hx1 : i64B x1) (hx2 : i64B x2) (hx3 : i64B x3) (hy1 : i64B y1) (hy2 : i64B y2) (hy3 : i64B y3) (w : World) :
    Calls Tryz.prog 45 #[.agg #[.int .i64 x1, .int .i64 x2, .int .i64 x3, .int .i64 y1, .int .i64 y2, .int .i64 y3]] w (Erred (lessO (powerF x1 x2 x3) (powerF y1 y2 y3)) w) := by
  have HE := Lib.hid (lessO_bind (powerF x1 x2 x3) (powerF y1 y2 y3))
  obtain ⟨o, E⟩ : ∃ o, lessO (powerF x1 x2 x3) (powerF y1 y2 y3) = o := ⟨_, rfl⟩
  rw [E] at HE ⊢
  clear E
  go_enter Tryz.func45, Tryz.ntmps45
  go_wp2_with fail
  refine (vpowers_any x1 x2 x3 y1 y2 y3 hx1 hx2 hx3 hy1 hy2 hy3 _).mono ?_
  rintro e W1 ⟨h1, h2, hb⟩
  have Ba : Blk W1 (w.heap.size) [.int .i64 x1, .int .i64 x2, .int .i64 x3, .int .i64 y1, .int .i64 y2, .int .i64 y3] := Blk.keep hb (by repeat' (first | (with_reducible first | assumption | refine Blk.drew ?_ | refine Blk.drewN ?_ _ | refine Blk.mapPut ?_ _ _ | apply Blk.set | (refine Blk.new ?_; focus (first | rfl | (simp; done))) | refine Blk.alloc ?_ _ | refine Blk.other ?_ ?_ _) | exact eqL rfl | (refine neB ?_; omega)))
  have Br : Blk W1 (w.heap.size + 1) [.int .i64 0, .int .i64 0, .int .i64 0] := Blk.keep hb (by repeat' (first | (with_reducible first | assumption | refine Blk.drew ?_ | refine Blk.drewN ?_ _ | refine Blk.mapPut ?_ _ _ | apply Blk.set | (refine Blk.new ?_; focus (first | rfl | (simp; done))) | refine Blk.alloc ?_ _ | refine Blk.other ?_ ?_ _) | exact eqL rfl | (refine neB ?_; omega)))
  have ca := Ba.cell
  have fa := Ba.free
  have la_W1 := Ba.lt
  have cr := Br.cell
  have fr := Br.free
  have lr_W1 := Br.lt
  have kaW1 : Acc w W1 := by
    refine Acc.call ?_ hb
    (repeat' (first | (with_reducible first | assumption | exact Acc.refl _ | refine Acc.drew ?_ | refine Acc.drewN ?_ _ | refine Acc.alloc ?_ _ | refine Acc.setCell ?_ ?_ _ | refine Acc.mapPut ?_ ?_ _ _) | (refine leB ?_; omega)))
  clear hb
  cases ho : pairO (powerF x1 x2 x3) (powerF y1 y2 y3) with
  | none =>
    rw [ho] at HE
    obtain rfl : o = none := HE.out
    obtain ⟨s, rfl⟩ := h2 ho
    clear h1 h2 ho HE
    go_wp2_with fail
    refine bodyPost_ret (v := .tuple #[.agg #[.int .i64 0, .int .i64 0, .int .i64 0], .iface 81 (.agg #[.string s])]) (by simp [results, Tryz.results45, go_sem, *]) rfl ⟨fun _ _ _ h => (by cases h), fun _ => ⟨_, rfl⟩, ?_⟩
    show Acc w _
    (repeat' (first | (with_reducible first | assumption | exact Acc.refl _ | refine Acc.drew ?_ | refine Acc.drewN ?_ _ | refine Acc.alloc ?_ _ | refine Acc.setCell ?_ ?_ _ | refine Acc.mapPut ?_ ?_ _ _) | (refine leB ?_; omega)))
  | some v =>
    rw [ho] at HE
    obtain ⟨⟨u1, u2, u3⟩, v1, v2, v3⟩ := v
    obtain rfl := h1 _ _ _ _ _ _ ho
    obtain ⟨ho1, ho2⟩ := pairO_some ho
    obtain ⟨hu1, hu2, hu3⟩ := okF_i64 (power_some ho1).2.1
    obtain ⟨hv1, hv2, hv3⟩ := okF_i64 (power_some ho2).2.1
    clear h1 h2 ho ho1 ho2
    have C := Lib.hid fun w => minus_any u1 u2 u3 v1 v2 v3 w hu1 hu2 hu3 hv1 hv2 hv3
    rw [show sumF (-1) u1 u2 u3 v1 v2 v3 = o from HE.out.symm] at C
    clear HE
    go_wp2_with fail
    refine (C.out _).mono ?_
    rintro e W2 ⟨h1, h2, hb⟩
    have Ba : Blk W2 (w.heap.size) [.int .i64 x1, .int .i64 x2, .int .i64 x3, .int .i64 y1, .int .i64 y2, .int .i64 y3] := Blk.keep hb (by repeat' (first | (with_reducible first | assumption | refine Blk.drew ?_ | refine Blk.drewN ?_ _ | refine Blk.mapPut ?_ _ _ | apply Blk.set | (refine Blk.new ?_; focus (first | rfl | (simp; done))) | refine Blk.alloc ?_ _ | refine Blk.other ?_ ?_ _) | exact eqL rfl | (refine neB ?_; omega)))
    have Br : Blk W2 (w.heap.size + 1) [.int .i64 0, .int .i64 0, .int .i64 0] := Blk.keep hb (by repeat' (first | (with_reducible first | assumption | refine Blk.drew ?_ | refine Blk.drewN ?_ _ | refine Blk.mapPut ?_ _ _ | apply Blk.set | (refine Blk.new ?_; focus (first | rfl | (simp; done))) | refine Blk.alloc ?_ _ | refine Blk.other ?_ ?_ _) | exact eqL rfl | (refine neB ?_; omega)))
    have ca := Ba.cell
    have fa := Ba.free
    have la_W2 := Ba.lt
    have cr := Br.cell
    have fr := Br.free
    have lr_W2 := Br.lt
    have kaW2 : Acc w W2 := by
      refine Acc.call ?_ hb
      (repeat' (first | (with_reducible first | assumption | exact Acc.refl _ | refine Acc.drew ?_ | refine Acc.drewN ?_ _ | refine Acc.alloc ?_ _ | refine Acc.setCell ?_ ?_ _ | refine Acc.mapPut ?_ ?_ _ _) | (refine leB ?_; omega)))
    clear hb
    cases o with
    | none =>
      obtain ⟨s, rfl⟩ := h2 rfl
      clear h1 h2
      go_wp2_with fail
      refine bodyPost_ret (v := .tuple #[.agg #[.int .i64 0, .int .i64 0, .int .i64 0], .iface 81 (.agg #[.string s])]) (by simp [results, Tryz.results45, go_sem, *]) rfl ⟨fun _ _ _ h => (by cases h), fun _ => ⟨_, rfl⟩, ?_⟩
      show Acc w _
      (repeat' (first | (with_reducible first | assumption | exact Acc.refl _ | refine Acc.drew ?_ | refine Acc.drewN ?_ _ | refine Acc.alloc ?_ _ | refine Acc.setCell ?_ ?_ _ | refine Acc.mapPut ?_ ?_ _ _) | (refine leB ?_; omega)))
    | some r =>
      obtain ⟨r1, r2, r3⟩ := r
      obtain rfl := h1 _ _ _ rfl
      clear h1 h2
      go_wp2_with fail
      refine bodyPost_ret (v := .tuple #[.agg #[.int .i64 r1, .int .i64 r2, .int .i64 r3], .nilIface]) (by simp [results, Tryz.results45, go_sem, *]) rfl ⟨fun _ _ _ h => (by cases h; rfl), fun h => (by cases h), ?_⟩
      show Acc w _
      (repeat' (first | (with_reducible first | assumption | exact Acc.refl _ | refine Acc.drew ?_ | refine Acc.drewN ?_ _ | refine Acc.alloc ?_ _ | refine Acc.setCell ?_ ?_ _ | refine Acc.mapPut ?_ ?_ _ _) | (refine leB ?_; omega)))
set_option maxHeartbeats 4000000 in
theorem twice_realPart (x1 x2 x3 y1 y2 y3 : Int) (hx1 : i64B x1) (hx2 : i64B x2) (hx3 : i64B x3) (hy1 : i64B y1) (hy2 : i64B y2) (hy3 : i64B y3) (w : World) :
    Calls Tryz.prog 46 #[.agg #[.int .i64 x1, .int .i64 x2, .int .i64 x3, .int .i64 y1, .int .i64 y2, .int .i64 y3], .func (.func 47) #[] #[]] w (Erred (reO (crossO x1 x2 x3 y1 y2 y3)) w) := by
  have HC := Lib.hid fun w => mirror_any y1 y2 y3 w hy1 hy2 hy3
  have HX := Lib.hid fun m1 m2 m3 hm1 hm2 hm3 w => mtimes_any x1 x2 x3 m1 m2 m3 w hx1 hx2 hx3 hm1 hm2 hm3
  obtain ⟨o, E⟩ : ∃ o, reO (crossO x1 x2 x3 y1 y2 y3) = o := ⟨_, rfl⟩
  rw [E]
  have HE := Lib.hid E
  clear E hx1 hx2 hx3 hy1 hy2 hy3
  go_enter Tryz.func46, Tryz.ntmps46
  go_wp2_with fail
  refine (HC.out _).mono ?_
  rintro e W1 ⟨h1, h2, hb⟩
  have Ba : Blk W1 (w.heap.size) [.int .i64 x1, .int .i64 x2, .int .i64 x3, .int .i64 y1, .int .i64 y2, .int .i64 y3] := Blk.keep hb (by repeat' (first | (with_reducible first | assumption | refine Blk.drew ?_ | refine Blk.drewN ?_ _ | refine Blk.mapPut ?_ _ _ | apply Blk.set | (refine Blk.new ?_; focus (first | rfl | (simp; done))) | refine Blk.alloc ?_ _ | refine Blk.other ?_ ?_ _) | exact eqL rfl | (refine neB ?_; omega)))
  have Br : Blk W1 (w.heap.size + 1) [.int .i64 0, .int .i64 0, .int .i64 0] := Blk.keep hb (by repeat' (first | (with_reducible first | assumption | refine Blk.drew ?_ | refine Blk.drewN ?_ _ | refine Blk.mapPut ?_ _ _ | apply Blk.set | (refine Blk.new ?_; focus (first | rfl | (simp; done))) | refine Blk.alloc ?_ _ | refine Blk.other ?_ ?_ _) | exact eqL rfl | (refine neB ?_; omega)))
  have ca := Ba.cell
  have fa := Ba.free
  have la_W1 := Ba.lt
  have cr := Br.cell
  have fr := Br.free
  have lr_W1 := Br.lt
  have kaW1 : Acc w W1 := by
    refine Acc.call ?_ hb
    (repeat' (first | (with_reducible first | assumption | exact Acc.refl _ | refine Acc.drew ?_ | refine Acc.drewN ?_ _ | refine Acc.alloc ?_ _ | refine Acc.setCell ?_ ?_ _ | refine Acc.mapPut ?_ ?_ _ _) | (refine leB ?_; omega)))
  clear hb
  cases hp : mirrorF y1 y2 y3 with
  | none =>
    obtain ⟨s, rfl⟩ := h2 hp
    clear h1 h2
    obtain rfl : o = none := HE.out.symm.trans (by simp only [reO, crossO, Option.bind_none, hp])
    go_wp2_with fail
    refine bodyPost_ret (v := .tuple #[.agg #[.int .i64 0, .int .i64 0, .int .i64 0], .iface 81 (.agg #[.string s])]) (by simp [results, Tryz.results46, go_sem, *]) rfl ⟨fun _ _ _ h => (by cases h), fun _ => ⟨_, rfl⟩, ?_⟩
    show Acc w _
    (repeat' (first | (with_reducible first | assumption | exact Acc.refl _ | refine Acc.drew ?_ | refine Acc.drewN ?_ _ | refine Acc.alloc ?_ _ | refine Acc.setCell ?_ ?_ _ | refine Acc.mapPut ?_ ?_ _ _) | (refine leB ?_; omega)))
  | some v =>
    obtain ⟨m1, m2, m3⟩ := v
    obtain rfl := h1 _ _ _ hp
    obtain ⟨hm1, hm2, hm3⟩ := okF_i64 (mirror_some hp).2.2.2.2
    have P0 := Lib.hid hp
    clear h1 h2 hp
    go_wp2_with fail
    refine (HX.out m1 m2 m3 hm1 hm2 hm3 _).mono ?_
    rintro e W2 ⟨h1, h2, hb⟩
    have Ba : Blk W2 (w.heap.size) [.int .i64 x1, .int .i64 x2, .int .i64 x3, .int .i64 y1, .int .i64 y2, .int .i64 y3] := Blk.keep hb (by repeat' (first | (with_reducible first | assumption | refine Blk.drew ?_ | refine Blk.drewN ?_ _ | refine Blk.mapPut ?_ _ _ | apply Blk.set | (refine Blk.new ?_; focus (first | rfl | (simp; done))) | refine Blk.alloc ?_ _ | refine Blk.other ?_ ?_ _) | exact eqL rfl | (refine neB ?_; omega)))
    have Br : Blk W2 (w.heap.size + 1) [.int .i64 0, .int .i64 0, .int .i64 0] := Blk.keep hb (by repeat' (first | (with_reducible first | assumption | refine Blk.drew ?_ | refine Blk.drewN ?_ _ | refine Blk.mapPut ?_ _ _ | apply Blk.set | (refine Blk.new ?_; focus (first | rfl | (simp; done))) | refine Blk.alloc ?_ _ | refine Blk.other ?_ ?_ _) | exact eqL rfl | (refine neB ?_; omega)))
    have ca := Ba.cell
    have fa := Ba.free
    have la_W2 := Ba.lt
    have cr := Br.cell
    have fr := Br.free
    have lr_W2 := Br.lt
    have kaW2 : Acc w W2 := by
      refine Acc.call ?_ hb
      (repeat' (first | (with_reducible first | assumption | exact Acc.refl _ | refine Acc.drew ?_ | refine Acc.drewN ?_ _ | refine Acc.alloc ?_ _ | refine Acc.setCell ?_ ?_ _ | refine Acc.mapPut ?_ ?_ _ _) | (refine leB ?_; omega)))
    clear hb
    cases hp : timesF x1 x2 x3 m1 m2 m3 with
    | none =>
      obtain ⟨s, rfl⟩ := h2 hp
      clear h1 h2
      obtain rfl : o = none := HE.out.symm.trans (by simp only [reO, crossO, Option.bind_some, Option.bind_none, P0.out, hp])
      go_wp2_with fail
      refine bodyPost_ret (v := .tuple #[.agg #[.int .i64 0, .int .i64 0, .int .i64 0], .iface 81 (.agg #[.string s])]) (by simp [results, Tryz.results46, go_sem, *]) rfl ⟨fun _ _ _ h => (by cases h), fun _ => ⟨_, rfl⟩, ?_⟩
      show Acc w _
      (repeat' (first | (with_reducible first | assumption | exact Acc.refl _ | refine Acc.drew ?_ | refine Acc.drewN ?_ _ | refine Acc.alloc ?_ _ | refine Acc.setCell ?_ ?_ _ | refine Acc.mapPut ?_ ?_ _ _) | (refine leB ?_; omega)))
    | some v =>
      obtain ⟨c1, c2, c3⟩ := v
      obtain rfl := h1 _ _ _ hp
      have hk := (times_some hp).2.2.1
      obtain ⟨hc1, hc2, hc3⟩ := okF_i64 hk
      obtain ⟨u, ut, hu, hu2⟩ := low_part c1 hk (by first | exact (okF_bd hk).1 | exact (okF_bd hk).2.1)
      have P1 := Lib.hid hp
      have U2 := Lib.hid hu2
      have hui := low_i64 hu
      obtain ⟨hu1, hut⟩ := hui
      have C := Lib.hid fun w => mrealPart_any c1 c2 c3 hc1 hc2 hc3 w
      rw [show (if okF c1 c2 c3 = true then lowE c1 0 c3 else none) = some (u, 0, ut) by rw [if_pos hk, hu]] at C
      clear h1 h2 hp hk hu hu2
      go_wp2_with fail
      refine (C.out _).mono ?_
      rintro e W3 ⟨h1, -, hb⟩
      obtain rfl := h1 _ _ _ rfl
      clear h1
      have Ba : Blk W3 (w.heap.size) [.int .i64 x1, .int .i64 x2, .int .i64 x3, .int .i64 y1, .int .i64 y2, .int .i64 y3] := Blk.keep hb (by repeat' (first | (with_reducible first | assumption | refine Blk.drew ?_ | refine Blk.drewN ?_ _ | refine Blk.mapPut ?_ _ _ | apply Blk.set | (refine Blk.new ?_; focus (first | rfl | (simp; done))) | refine Blk.alloc ?_ _ | refine Blk.other ?_ ?_ _) | exact eqL rfl | (refine neB ?_; omega)))
      have Br : Blk W3 (w.heap.size + 1) [.int .i64 0, .int .i64 0, .int .i64 0] := Blk.keep hb (by repeat' (first | (with_reducible first | assumption | refine Blk.drew ?_ | refine Blk.drewN ?_ _ | refine Blk.mapPut ?_ _ _ | apply Blk.set | (refine Blk.new ?_; focus (first | rfl | (simp; done))) | refine Blk.alloc ?_ _ | refine Blk.other ?_ ?_ _) | exact eqL rfl | (refine neB ?_; omega)))
      have ca := Ba.cell
      have fa := Ba.free
      have la_W3 := Ba.lt
      have cr := Br.cell
      have fr := Br.free
      have lr_W3 := Br.lt
      have kaW3 : Acc w W3 := by
        refine Acc.call ?_ hb
        (repeat' (first | (with_reducible first | assumption | exact Acc.refl _ | refine Acc.drew ?_ | refine Acc.drewN ?_ _ | refine Acc.alloc ?_ _ | refine Acc.setCell ?_ ?_ _ | refine Acc.mapPut ?_ ?_ _ _) | (refine leB ?_; omega)))
      clear hb
      have C2 := Lib.hid fun w => plus_any u 0 ut u 0 ut w hu1 (by unfold i64B; omega) hut hu1 (by unfold i64B; omega) hut
      rw [show sumF 1 u 0 ut u 0 ut = o from U2.out.trans (Eq.trans (by simp only [reO, crossO, Option.bind_some, P0.out, P1.out]) HE.out)] at C2
      go_wp2_with fail
      refine (C2.out _).mono ?_
      rintro e W4 ⟨h1, h2, hb⟩
      have Ba : Blk W4 (w.heap.size) [.int .i64 x1, .int .i64 x2, .int .i64 x3, .int .i64 y1, .int .i64 y2, .int .i64 y3] := Blk.keep hb (by repeat' (first | (with_reducible first | assumption | refine Blk.drew ?_ | refine Blk.drewN ?_ _ | refine Blk.mapPut ?_ _ _ | apply Blk.set | (refine Blk.new ?_; focus (first | rfl | (simp; done))) | refine Blk.alloc ?_ _ | refine Blk.other ?_ ?_ _) | exact eqL rfl | (refine neB ?_; omega)))
      have Br : Blk W4 (w.heap.size + 1) [.int .i64 0, .int .i64 0, .int .i64 0] := Blk.keep hb (by repeat' (first | (with_reducible first | assumption | refine Blk.drew ?_ | refine Blk.drewN ?_ _ | refine Blk.mapPut ?_ _ _ | apply Blk.set | (refine Blk.new ?_; focus (first | rfl | (simp; done))) | refine Blk.alloc ?_ _ | refine Blk.other ?_ ?_ _) | exact eqL rfl | (refine neB ?_; omega)))
      have ca := Ba.cell
      have fa := Ba.free
      have la_W4 := Ba.lt
      have cr := Br.cell
      have fr := Br.free
      have lr_W4 := Br.lt
      have kaW4 : Acc w W4 := by
        refine Acc.call ?_ hb
        (repeat' (first | (with_reducible first | assumption | exact Acc.refl _ | refine Acc.drew ?_ | refine Acc.drewN ?_ _ | refine Acc.alloc ?_ _ | refine Acc.setCell ?_ ?_ _ | refine Acc.mapPut ?_ ?_ _ _) | (refine leB ?_; omega)))
      clear hb
      cases o with
      | none =>
        obtain ⟨s, rfl⟩ := h2 rfl
        clear h1 h2
        go_wp2_with fail
        refine bodyPost_ret (v := .tuple #[.agg #[.int .i64 0, .int .i64 0, .int .i64 0], .iface 81 (.agg #[.string s])]) (by simp [results, Tryz.results46, go_sem, *]) rfl ⟨fun _ _ _ h => (by cases h), fun _ => ⟨_, rfl⟩, ?_⟩
        show Acc w _
        (repeat' (first | (with_reducible first | assumption | exact Acc.refl _ | refine Acc.drew ?_ | refine Acc.drewN ?_ _ | refine Acc.alloc ?_ _ | refine Acc.setCell ?_ ?_ _ | refine Acc.mapPut ?_ ?_ _ _) | (refine leB ?_; omega)))
      | some r =>
        obtain ⟨r1, r2, r3⟩ := r
        obtain rfl := h1 _ _ _ rfl
        clear h1 h2
        go_wp2_with fail
        refine bodyPost_ret (v := .tuple #[.agg #[.int .i64 r1, .int .i64 r2, .int .i64 r3], .nilIface]) (by simp [results, Tryz.results46, go_sem, *]) rfl ⟨fun _ _ _ h => (by cases h; rfl), fun h => (by cases h), ?_⟩
        show Acc w _
        (repeat' (first | (with_reducible first | assumption | exact Acc.refl _ | refine Acc.drew ?_ | refine Acc.drewN ?_ _ | refine Acc.alloc ?_ _ | refine Acc.setCell ?_ ?_ _ | refine Acc.mapPut ?_ ?_ _ _) | (refine leB ?_; omega)))
set_option maxHeartbeats 4000000 in
theorem twice_imaginaryPart (x1 x2 x3 y1 y2 y3 : Int) (hx1 : i64B x1) (hx2 : i64B x2) (hx3 : i64B x3) (hy1 : i64B y1) (hy2 : i64B y2) (hy3 : i64B y3) (w : World) :
    Calls Tryz.prog 46 #[.agg #[.int .i64 x1, .int .i64 x2, .int .i64 x3, .int .i64 y1, .int .i64 y2, .int .i64 y3], .func (.func 48) #[] #[]] w (Erred (imO (crossO x1 x2 x3 y1 y2 y3)) w) := by
  have HC := Lib.hid fun w => mirror_any y1 y2 y3 w hy1 hy2 hy3
  have HX := Lib.hid fun m1 m2 m3 hm1 hm2 hm3 w => mtimes_any x1 x2 x3 m1 m2 m3 w hx1 hx2 hx3 hm1 hm2 hm3
  obtain ⟨o, E⟩ : ∃ o, imO (crossO x1 x2 x3 y1 y2 y3) = o := ⟨_, rfl⟩
  rw [E]
  have HE := Lib.hid E
  clear E hx1 hx2 hx3 hy1 hy2 hy3
  go_enter Tryz.func46, Tryz.ntmps46
  go_wp2_with fail
  refine (HC.out _).mono ?_
  rintro e W1 ⟨h1, h2, hb⟩
  have Ba : Blk W1 (w.heap.size) [.int .i64 x1, .int .i64 x2, .int .i64 x3, .int .i64 y1, .int .i64 y2, .int .i64 y3] := Blk.keep hb (by repeat' (first | (with_reducible first | assumption | refine Blk.drew ?_ | refine Blk.drewN ?_ _ | refine Blk.mapPut ?_ _ _ | apply Blk.set | (refine Blk.new ?_; focus (first | rfl | (simp; done))) | refine Blk.alloc ?_ _ | refine Blk.other ?_ ?_ _) | exact eqL rfl | (refine neB ?_; omega)))
  have Br : Blk W1 (w.heap.size + 1) [.int .i64 0, .int .i64 0, .int .i64 0] := Blk.keep hb (by repeat' (first | (with_reducible first | assumption | refine Blk.drew ?_ | refine Blk.drewN ?_ _ | refine Blk.mapPut ?_ _ _ | apply Blk.set | (refine Blk.new ?_; focus (first | rfl | (simp; done))) | refine Blk.alloc ?_ _ | refine Blk.other ?_ ?_ _) | exact eqL rfl | (refine neB ?_; omega)))
  have ca := Ba.cell
  have fa := Ba.free
  have la_W1 := Ba.lt
  have cr := Br.cell
  have fr := Br.free
  have lr_W1 := Br.lt
  have kaW1 : Acc w W1 := by
    refine Acc.call ?_ hb
    (repeat' (first | (with_reducible first | assumption | exact Acc.refl _ | refine Acc.drew ?_ | refine Acc.drewN ?_ _ | refine Acc.alloc ?_ _ | refine Acc.setCell ?_ ?_ _ | refine Acc.mapPut ?_ ?_ _ _) | (refine leB ?_; omega)))
  clear hb
  cases hp : mirrorF y1 y2 y3 with
  | none =>
    obtain ⟨s, rfl⟩ := h2 hp
    clear h1 h2
    obtain rfl : o = none := HE.out.symm.trans (by simp only [imO, crossO, Option.bind_none, hp])
    go_wp2_with fail
    refine bodyPost_ret (v := .tuple #[.agg #[.int .i64 0, .int .i64 0, .int .i64 0], .iface 81 (.agg #[.string s])]) (by simp [results, Tryz.results46, go_sem, *]) rfl ⟨fun _ _ _ h => (by cases h), fun _ => ⟨_, rfl⟩, ?_⟩
    show Acc w _
    (repeat' (first | (with_reducible first | assumption | exact Acc.refl _ | refine Acc.drew ?_ | refine Acc.drewN ?_ _ | refine Acc.alloc ?_ _ | refine Acc.setCell ?_ ?_ _ | refine Acc.mapPut ?_ ?_ _ _) | (refine leB ?_; omega)))
  | some v =>
    obtain ⟨m1, m2, m3⟩ := v
    obtain rfl := h1 _ _ _ hp
    obtain ⟨hm1, hm2, hm3⟩ := okF_i64 (mirror_some hp).2.2.2.2
    have P0 := Lib.hid hp
    clear h1 h2 hp
    go_wp2_with fail
    refine (HX.out m1 m2 m3 hm1 hm2 hm3 _).mono ?_
    rintro e W2 ⟨h1, h2, hb⟩
    have Ba : Blk W2 (w.heap.size) [.int .i64 x1, .int .i64 x2, .int .i64 x3, .int .i64 y1, .int .i64 y2, .int .i64 y3] := Blk.keep hb (by repeat' (first | (with_reducible first | assumption | refine Blk.drew ?_ | refine Blk.drewN ?_ _ | refine Blk.mapPut ?_ _ _ | apply Blk.set | (refine Blk.new ?_; focus (first | rfl | (simp; done))) | refine Blk.alloc ?_ _ | refine Blk.other ?_ ?_ _) | exact eqL rfl | (refine neB ?_; omega)))
    have Br : Blk W2 (w.heap.size + 1) [.int .i64 0, .int .i64 0, .int .i64 0] := Blk.keep hb (by repeat' (first | (with_reducible first | assumption | refine Blk.drew ?_ | refine Blk.drewN ?_ _ | refine Blk.mapPut ?_ _ _ | apply Blk.set | (refine Blk.new ?_; focus (first | rfl | (simp; done))) | refine Blk.alloc ?_ _ | refine Blk.other ?_ ?_ _) | exact eqL rfl | (refine neB ?_; omega)))
    have ca := Ba.cell
    have fa := Ba.free
    have la_W2 := Ba.lt
    have cr := Br.cell
    have fr := Br.free
    have lr_W2 := Br.lt
    have kaW2 : Acc w W2 := by
      refine Acc.call ?_ hb
      (repeat' (first | (with_reducible first | assumption | exact Acc.refl _ | refine Acc.drew ?_ | refine Acc.drewN ?_ _ | refine Acc.alloc ?_ _ | refine Acc.setCell ?_ ?_ _ | refine Acc.mapPut ?_ ?_ _ _) | (refine leB ?_; omega)))
    clear hb
    cases hp : timesF x1 x2 x3 m1 m2 m3 with
    | none =>
      obtain ⟨s, rfl⟩ := h2 hp
      clear h1 h2
      obtain rfl : o = none := HE.out.symm.trans (by simp only [imO, crossO, Option.bind_some, Option.bind_none, P0.out, hp])
      go_wp2_with fail
      refine bodyPost_ret (v := .tuple #[.agg #[.int .i64 0, .int .i64 0, .int .i64 0], .iface 81 (.agg #[.string s])]) (by simp [results, Tryz.results46, go_sem, *]) rfl ⟨fun _ _ _ h => (by cases h), fun _ => ⟨_, rfl⟩, ?_⟩
      show Acc w _
      (repeat' (first | (with_reducible first | assumption | exact Acc.refl _ | refine Acc.drew ?_ | refine Acc.drewN ?_ _ | refine Acc.alloc ?_ _ | refine Acc.setCell ?_ ?_ _ | refine Acc.mapPut ?_ ?_ _ _) | (refine leB ?_; omega)))
    | some v =>
      obtain ⟨c1, c2, c3⟩ := v
      obtain rfl := h1 _ _ _ hp
      have hk := (times_some hp).2.2.1
      obtain ⟨hc1, hc2, hc3⟩ := okF_i64 hk
      obtain ⟨u, ut, hu, hu2⟩ := low_part c2 hk (by first | exact (okF_bd hk).1 | exact (okF_bd hk).2.1)
      have P1 := Lib.hid hp
      have U2 := Lib.hid hu2
      have hui := low_i64 hu
      obtain ⟨hu1, hut⟩ := hui
      have C := Lib.hid fun w => mimaginaryPart_any c1 c2 c3 hc1 hc2 hc3 w
      rw [show (if okF c1 c2 c3 = true then lowE c2 0 c3 else none) = some (u, 0, ut) by rw [if_pos hk, hu]] at C
      clear h1 h2 hp hk hu hu2
      go_wp2_with fail
      refine (C.out _).mono ?_
      rintro e W3 ⟨h1, -, hb⟩
      obtain rfl := h1 _ _ _ rfl
      clear h1
      have Ba : Blk W3 (w.heap.size) [.int .i64 x1, .int .i64 x2, .int .i64 x3, .int .i64 y1, .int .i64 y2, .int .i64 y3] := Blk.keep hb (by repeat' (first | (with_reducible first | assumption | refine Blk.drew ?_ | refine Blk.drewN ?_ _ | refine Blk.mapPut ?_ _ _ | apply Blk.set | (refine Blk.new ?_; focus (first | rfl | (simp; done))) | refine Blk.alloc ?_ _ | refine Blk.other ?_ ?_ _) | exact eqL rfl | (refine neB ?_; omega)))
      have Br : Blk W3 (w.heap.size + 1) [.int .i64 0, .int .i64 0, .int .i64 0] := Blk.keep hb (by repeat' (first | (with_reducible first | assumption | refine Blk.drew ?_ | refine Blk.drewN ?_ _ | refine Blk.mapPut ?_ _ _ | apply Blk.set | (refine Blk.new ?_; focus (first | rfl | (simp; done))) | refine Blk.alloc ?_ _ | refine Blk.other ?_ ?_ _) | exact eqL rfl | (refine neB ?_; omega)))
      have ca := Ba.cell
      have fa := Ba.free
      have la_W3 := Ba.lt
      have cr := Br.cell
      have fr := Br.free
      have lr_W3 := Br.lt
      have kaW3 : Acc w W3 := by
        refine Acc.call ?_ hb
        (repeat' (first | (with_reducible first | assumption | exact Acc.refl _ | refine Acc.drew ?_ | refine Acc.drewN ?_ _ | refine Acc.alloc ?_ _ | refine Acc.setCell ?_ ?_ _ | refine Acc.mapPut ?_ ?_ _ _) | (refine leB ?_; omega)))
      clear hb
      have C2 := Lib.hid fun w => plus_any u 0 ut u 0 ut w hu1 (by unfold i64B; omega) hut hu1 (by unfold i64B; omega) hut
      rw [show sumF 1 u 0 ut u 0 ut = o from U2.out.trans (Eq.trans (by simp only [imO, crossO, Option.bind_some, P0.out, P1.out]) HE.out)] at C2
      go_wp2_with fail
      refine (C2.out _).mono ?_
      rintro e W4 ⟨h1, h2, hb⟩
      have Ba : Blk W4 (w.heap.size) [.int .i64 x1, .int .i64 x2, .int .i64 x3, .int .i64 y1, .int .i64 y2, .int .i64 y3] := Blk.keep hb (by repeat' (first | (with_reducible first | assumption | refine Blk.drew ?_ | refine Blk.drewN ?_ _ | refine Blk.mapPut ?_ _ _ | apply Blk.set | (refine Blk.new ?_; focus (first | rfl | (simp; done))) | refine Blk.alloc ?_ _ | refine Blk.other ?_ ?_ _) | exact eqL rfl | (refine neB ?_; omega)))
      have Br : Blk W4 (w.heap.size + 1) [.int .i64 0, .int .i64 0, .int .i64 0] := Blk.keep hb (by repeat' (first | (with_reducible first | assumption | refine Blk.drew ?_ | refine Blk.drewN ?_ _ | refine Blk.mapPut ?_ _ _ | apply Blk.set | (refine Blk.new ?_; focus (first | rfl | (simp; done))) | refine Blk.alloc ?_ _ | refine Blk.other ?_ ?_ _) | exact eqL rfl | (refine neB ?_; omega)))
      have ca := Ba.cell
      have fa := Ba.free
      have la_W4 := Ba.lt
      have cr := Br.cell
      have fr := Br.free
      have lr_W4 := Br.lt
      have kaW4 : Acc w W4 := by
        refine Acc.call ?_ hb
        (repeat' (first | (with_reducible first | assumption | exact Acc.refl _ | refine Acc.drew ?_ | refine Acc.drewN ?_ _ | refine Acc.alloc ?_ _ | refine Acc.setCell ?_ ?_ _ | refine Acc.mapPut ?_ ?_ _ _) | (refine leB ?_; omega)))
      clear hb
      cases o with
      | none =>
        obtain ⟨s, rfl⟩ := h2 rfl
        clear h1 h2
        go_wp2_with fail
        refine bodyPost_ret (v := .tuple #[.agg #[.int .i64 0, .int .i64 0, .int .i64 0], .iface 81 (.agg #[.string s])]) (by simp [results, Tryz.results46, go_sem, *]) rfl ⟨fun _ _ _ h => (by cases h), fun _ => ⟨_, rfl⟩, ?_⟩
        show Acc w _
        (repeat' (first | (with_reducible first | assumption | exact Acc.refl _ | refine Acc.drew ?_ | refine Acc.drewN ?_ _ | refine Acc.alloc ?_ _ | refine Acc.setCell ?_ ?_ _ | refine Acc.mapPut ?_ ?_ _ _) | (refine leB ?_; omega)))
      | some r =>
        obtain ⟨r1, r2, r3⟩ := r
        obtain rfl := h1 _ _ _ rfl
        clear h1 h2
        go_wp2_with fail
        refine bodyPost_ret (v := .tuple #[.agg #[.int .i64 r1, .int .i64 r2, .int .i64 r3], .nilIface]) (by simp [results, Tryz.results46, go_sem, *]) rfl ⟨fun _ _ _ h => (by cases h; rfl), fun h => (by cases h), ?_⟩
        show Acc w _
        (repeat' (first | (with_reducible first | assumption | exact Acc.refl _ | refine Acc.drew ?_ | refine Acc.drewN ?_ _ | refine Acc.alloc ?_ _ | refine Acc.setCell ?_ ?_ _ | refine Acc.mapPut ?_ ?_ _ _) | (refine leB ?_; omega)))
end Go.Proofs.YtchdcncnlfgjfaaGreatDoor
