/-
  The program's methods of vectors: powers, inner products, the vector across.
-/
import Derived.Test.YtnfbopaafciiiaaDoorImplVec2
import Derived.Test.YtnfbopaafciiiaaDoorImplBoth4
import Derived.Test.YtnfbopaafciiiaaDoorBSpecF
namespace Go.Proofs.YtnfbopaafciiiaaDoor
open Go.ChangeShapes Go.WideShapes Go.ChangeAt Go.RowKit
set_option linter.unusedVariables false

theorem addO_bind (o p : Option (Int × Int × Int)) : addO o p = (pairO o p).bind fun r => addF r.1.1 r.1.2.1 r.1.2.2 r.2.1 r.2.2.1 r.2.2.2 := by
  cases o <;> cases p <;> simp [addO, pairO, okR, partsR]
theorem pairO_some {o p : Option (Int × Int × Int)} {u v : Int × Int × Int} (h : pairO o p = some (u, v)) : o = some u ∧ p = some v := by
  cases o <;> cases p <;> simp_all [pairO, okR, partsR]
theorem mirror_some {x y z u v t : Int} (h : mirrorF x y z = some (u, v, t)) : okF x y z = true ∧ u = x ∧ v = -y ∧ t = z ∧ okF u v t = true := by
  unfold mirrorF at h
  split at h
  · rename_i hk
    cases h
    exact ⟨hk, rfl, rfl, rfl, by rw [okF_neg1]; exact hk⟩
  · cases h
set_option maxHeartbeats 1000000 in
theorem vsum_any (x1 x2 x3 y1 y2 y3 a1 a2 a3 b1 b2 b3 : Int) (hx1 : i64B x1) (hx2 : i64B x2) (hx3 : i64B x3) (hy1 : i64B y1) (hy2 : i64B y2) (hy3 : i64B y3) (ha1 : i64B a1) (ha2 : i64B a2) (ha3 : i64B a3) (hb1 : i64B b1) (hb2 : i64B b2) (hb3 : i64B b3) (w : World) :
    Calls Tryd.prog 88 #[.agg #[.int .i64 x1, .int .i64 x2, .int .i64 x3, .int .i64 y1, .int .i64 y2, .int .i64 y3], .agg #[.int .i64 a1, .int .i64 a2, .int .i64 a3, .int .i64 b1, .int .i64 b2, .int .i64 b3]] w (Erred (innF x1 x2 x3 a1 a2 a3 y1 y2 y3 b1 b2 b3) w) := by
  have HE := Lib.hid (addO_bind (timesF x1 x2 x3 a1 a2 a3) (timesF y1 y2 y3 b1 b2 b3))
  rw [show innF x1 x2 x3 a1 a2 a3 y1 y2 y3 b1 b2 b3 = addO (timesF x1 x2 x3 a1 a2 a3) (timesF y1 y2 y3 b1 b2 b3) from rfl]
  obtain ⟨o, E⟩ : ∃ o, addO (timesF x1 x2 x3 a1 a2 a3) (timesF y1 y2 y3 b1 b2 b3) = o := ⟨_, rfl⟩
  rw [E] at HE ⊢
  clear E
  have hmf : ∀ (fn : Fn) (first cap : Array Value) (w : World), (Instr.makeFunc fn first cap).run Tryd.prog w = .ok (.func fn first cap) w := fun _ _ _ _ => rfl
  go_enter Tryd.func88, Tryd.ntmps88
  go_wp2_with fail
  refine (both_inner (w.heap.size) (w.heap.size + 1) _ _ _ (fun W k => innerClo_0 (w.heap.size) (w.heap.size + 1) x1 x2 x3 y1 y2 y3 a1 a2 a3 b1 b2 b3 hx1 hx2 hx3 hy1 hy2 hy3 ha1 ha2 ha3 hb1 hb2 hb3 W (Blk.keep k (by repeat' (first | (with_reducible first | assumption | refine Blk.drew ?_ | refine Blk.drewN ?_ _ | apply Blk.set | (refine Blk.new ?_; focus (first | rfl | (simp; done))) | refine Blk.alloc ?_ _ | refine Blk.other ?_ ?_ _) | exact eqL rfl | (refine neB ?_; omega)))) (Blk.keep k (by repeat' (first | (with_reducible first | assumption | refine Blk.drew ?_ | refine Blk.drewN ?_ _ | apply Blk.set | (refine Blk.new ?_; focus (first | rfl | (simp; done))) | refine Blk.alloc ?_ _ | refine Blk.other ?_ ?_ _) | exact eqL rfl | (refine neB ?_; omega))))) (fun W k => innerClo_1 (w.heap.size) (w.heap.size + 1) x1 x2 x3 y1 y2 y3 a1 a2 a3 b1 b2 b3 hx1 hx2 hx3 hy1 hy2 hy3 ha1 ha2 ha3 hb1 hb2 hb3 W (Blk.keep k (by repeat' (first | (with_reducible first | assumption | refine Blk.drew ?_ | refine Blk.drewN ?_ _ | apply Blk.set | (refine Blk.new ?_; focus (first | rfl | (simp; done))) | refine Blk.alloc ?_ _ | refine Blk.other ?_ ?_ _) | exact eqL rfl | (refine neB ?_; omega)))) (Blk.keep k (by repeat' (first | (with_reducible first | assumption | refine Blk.drew ?_ | refine Blk.drewN ?_ _ | apply Blk.set | (refine Blk.new ?_; focus (first | rfl | (simp; done))) | refine Blk.alloc ?_ _ | refine Blk.other ?_ ?_ _) | exact eqL rfl | (refine neB ?_; omega)))))).mono ?_
  rintro e W1 ⟨h1, h2, hb⟩
  obtain ⟨Bb, Bc, Br⟩ : Blk W1 (w.heap.size) [.int .i64 x1, .int .i64 x2, .int .i64 x3, .int .i64 y1, .int .i64 y2, .int .i64 y3] ∧ Blk W1 (w.heap.size + 1) [.int .i64 a1, .int .i64 a2, .int .i64 a3, .int .i64 b1, .int .i64 b2, .int .i64 b3] ∧ Blk W1 (w.heap.size + 1 + 1) [.int .i64 0, .int .i64 0, .int .i64 0] := by
    refine ⟨?_, ?_, ?_⟩ <;> refine Blk.keep hb ?_ <;> (repeat' (first | (with_reducible first | assumption | refine Blk.drew ?_ | refine Blk.drewN ?_ _ | apply Blk.set | (refine Blk.new ?_; focus (first | rfl | (simp; done))) | refine Blk.alloc ?_ _ | refine Blk.other ?_ ?_ _) | exact eqL rfl | (refine neB ?_; omega)))
  have cb := Bb.cell
  have fb := Bb.free
  have lb_W1 := Bb.lt
  have cc := Bc.cell
  have fc := Bc.free
  have lc_W1 := Bc.lt
  have cr := Br.cell
  have fr := Br.free
  have lr_W1 := Br.lt
  have kaW1 : Acc w W1 := by
    refine Acc.call ?_ hb
    (repeat' (first | (with_reducible first | assumption | exact Acc.refl _ | refine Acc.drew ?_ | refine Acc.drewN ?_ _ | refine Acc.alloc ?_ _ | refine Acc.setCell ?_ ?_ _) | (refine leB ?_; omega)))
  clear hb
  cases ho : pairO (timesF x1 x2 x3 a1 a2 a3) (timesF y1 y2 y3 b1 b2 b3) with
  | none =>
    rw [ho] at HE
    obtain rfl : o = none := HE.out
    obtain ⟨s, rfl⟩ := h2 ho
    clear h1 h2 ho HE
    go_wp2_with fail
    refine bodyPost_ret (v := .tuple #[.agg #[.int .i64 0, .int .i64 0, .int .i64 0], .iface 109 (.agg #[.string s])]) (by simp [results, Tryd.results88, go_sem, *]) rfl ⟨fun _ _ _ h => (by cases h), fun _ => ⟨_, rfl⟩, ?_⟩
    show Acc w _
    (repeat' (first | (with_reducible first | assumption | exact Acc.refl _ | refine Acc.drew ?_ | refine Acc.drewN ?_ _ | refine Acc.alloc ?_ _ | refine Acc.setCell ?_ ?_ _) | (refine leB ?_; omega)))
  | some v =>
    rw [ho] at HE
    obtain ⟨⟨u1, u2, u3⟩, v1, v2, v3⟩ := v
    obtain rfl := h1 _ _ _ _ _ _ ho
    obtain ⟨ho1, ho2⟩ := pairO_some ho
    obtain ⟨hu1, hu2, hu3⟩ := okF_i64 ((times_some ho1).2.2.1)
    obtain ⟨hv1, hv2, hv3⟩ := okF_i64 ((times_some ho2).2.2.1)
    clear h1 h2 ho ho1 ho2
    go_wp2_with fail
    refine (plus_any u1 u2 u3 v1 v2 v3 _ hu1 hu2 hu3 hv1 hv2 hv3).mono ?_
    rintro e W2 ⟨h1, h2, hb⟩
    obtain ⟨Bb, Bc, Br⟩ : Blk W2 (w.heap.size) [.int .i64 x1, .int .i64 x2, .int .i64 x3, .int .i64 y1, .int .i64 y2, .int .i64 y3] ∧ Blk W2 (w.heap.size + 1) [.int .i64 a1, .int .i64 a2, .int .i64 a3, .int .i64 b1, .int .i64 b2, .int .i64 b3] ∧ Blk W2 (w.heap.size + 1 + 1) [.int .i64 0, .int .i64 0, .int .i64 0] := by
      refine ⟨?_, ?_, ?_⟩ <;> refine Blk.keep hb ?_ <;> (repeat' (first | (with_reducible first | assumption | refine Blk.drew ?_ | refine Blk.drewN ?_ _ | apply Blk.set | (refine Blk.new ?_; focus (first | rfl | (simp; done))) | refine Blk.alloc ?_ _ | refine Blk.other ?_ ?_ _) | exact eqL rfl | (refine neB ?_; omega)))
    have cb := Bb.cell
    have fb := Bb.free
    have lb_W2 := Bb.lt
    have cc := Bc.cell
    have fc := Bc.free
    have lc_W2 := Bc.lt
    have cr := Br.cell
    have fr := Br.free
    have lr_W2 := Br.lt
    have kaW2 : Acc w W2 := by
      refine Acc.call ?_ hb
      (repeat' (first | (with_reducible first | assumption | exact Acc.refl _ | refine Acc.drew ?_ | refine Acc.drewN ?_ _ | refine Acc.alloc ?_ _ | refine Acc.setCell ?_ ?_ _) | (refine leB ?_; omega)))
    clear hb
    rw [show sumF 1 u1 u2 u3 v1 v2 v3 = o from HE.out.symm] at h1 h2
    clear HE
    cases o with
    | none =>
      obtain ⟨s, rfl⟩ := h2 rfl
      clear h1 h2
      go_wp2_with fail
      refine bodyPost_ret (v := .tuple #[.agg #[.int .i64 0, .int .i64 0, .int .i64 0], .iface 109 (.agg #[.string s])]) (by simp [results, Tryd.results88, go_sem, *]) rfl ⟨fun _ _ _ h => (by cases h), fun _ => ⟨_, rfl⟩, ?_⟩
      show Acc w _
      (repeat' (first | (with_reducible first | assumption | exact Acc.refl _ | refine Acc.drew ?_ | refine Acc.drewN ?_ _ | refine Acc.alloc ?_ _ | refine Acc.setCell ?_ ?_ _) | (refine leB ?_; omega)))
    | some r =>
      obtain ⟨r1, r2, r3⟩ := r
      obtain rfl := h1 _ _ _ rfl
      clear h1 h2
      go_wp2_with fail
      refine bodyPost_ret (v := .tuple #[.agg #[.int .i64 r1, .int .i64 r2, .int .i64 r3], .nilIface]) (by simp [results, Tryd.results88, go_sem, *]) rfl ⟨fun _ _ _ h => (by cases h; rfl), fun h => (by cases h), ?_⟩
      show Acc w _
      (repeat' (first | (with_reducible first | assumption | exact Acc.refl _ | refine Acc.drew ?_ | refine Acc.drewN ?_ _ | refine Acc.alloc ?_ _ | refine Acc.setCell ?_ ?_ _) | (refine leB ?_; omega)))
theorem inner_bind (x1 x2 x3 y1 y2 y3 a1 a2 a3 b1 b2 b3 : Int) : innerF x1 x2 x3 y1 y2 y3 a1 a2 a3 b1 b2 b3 = (jmirrorF a1 a2 a3 b1 b2 b3).bind fun m => innF x1 x2 x3 m.1.1 m.1.2.1 m.1.2.2 y1 y2 y3 m.2.1 m.2.2.1 m.2.2.2 := by
  unfold innerF jmirrorF pairO innF
  cases mirrorF a1 a2 a3 <;> cases mirrorF b1 b2 b3 <;> simp [okR, partsR]
theorem cross_bind (x1 x2 x3 y1 y2 y3 : Int) : jcrossF x1 x2 x3 y1 y2 y3 = (jmirrorF x1 x2 x3 y1 y2 y3).bind fun m => some ((-m.2.1, -m.2.2.1, m.2.2.2), m.1) := by
  unfold jcrossF jmirrorF pairO
  cases mirrorF x1 x2 x3 <;> cases mirrorF y1 y2 y3 <;> simp [okR, partsR]
end Go.Proofs.YtnfbopaafciiiaaDoor
