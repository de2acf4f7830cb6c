/-
  The program's alike vectors: the method.
-/
import Derived.Test.YtnfbopaafciiiabDoorEqVec
import Derived.Test.YtnfbopaafciiiabDoorImplVec2
import Derived.Test.YtnfbopaafciiiabDoorImplBoth4
import Derived.Test.YtnfbopaafciiiabDoorBSpecF
import Derived.Deep.RegionHeld3
import Derived.Deep.RegionWith
import Derived.BigQuiet
namespace Go.Proofs.YtnfbopaafciiiabDoor
open Go.ChangeShapes Go.WideShapes Go.ChangeAt Go.RowKit
set_option linter.unusedVariables false

def vdarkB (x1 x2 x3 y1 y2 y3 : Int) : Bool := x1 == 0 && x2 == 0 && x3 == 1 && (y1 == 0 && y2 == 0 && y3 == 1)
theorem okF_zero {x y z : Int} (h : okF x y z = true) : (x == 0 && y == 0 && z == 1) = (x == 0 && y == 0) := by
  by_cases hx : x = 0
  · by_cases hy : y = 0
    · subst hx hy
      have hg := okF_gcd h
      obtain ⟨-, -, z0, z1⟩ := okF_bd h
      unfold gcd3 at hg
      simp at hg
      have : z = 1 := by omega
      simp [this]
    · simp [hy]
  · simp [hx]
theorem vdark_eq {x1 x2 x3 y1 y2 y3 : Int} (h : okF x1 x2 x3 = true) (k : okF y1 y2 y3 = true) : vdarkB x1 x2 x3 y1 y2 y3 = darkB x1 x2 x3 y1 y2 y3 := by
  have e1 := okF_zero h
  have e2 := okF_zero k
  unfold vdarkB darkB
  rw [e1, e2, ← Bool.and_assoc]
set_option maxHeartbeats 1000000 in
theorem vdark_of (x1 x2 x3 y1 y2 y3 : Int) (k : Bool) (h : vdarkB x1 x2 x3 y1 y2 y3 = k) (w : World) :
    Calls Tryd.prog 108 #[.agg #[.int .i64 x1, .int .i64 x2, .int .i64 x3, .int .i64 y1, .int .i64 y2, .int .i64 y3]] w fun e w' => e = .returned (.bool k) ∧ Below w.heap.size w w' := by
  have e : (x1 == 0 && x2 == 0 && x3 == 1 && (y1 == 0 && y2 == 0 && y3 == 1)) = k := h
  have E := Lib.hid fun w => (eqVec x1 x2 x3 y1 y2 y3 0 0 1 0 0 1 w).trans (by rw [e])
  clear h e
  have q := E.out
  go_enter Tryd.func108, Tryd.ntmps108
  go_wp2_with fail
  go_ret
  refine ⟨rfl, ?_⟩
  show Acc w _
  (repeat' (first | (with_reducible first | assumption | exact Acc.refl _ | refine Acc.drew ?_ | refine Acc.drewN ?_ _ | refine Acc.alloc ?_ _ | refine Acc.setCell ?_ ?_ _) | (refine leB ?_; omega)))
/-- What 'alike' hands back. -/
def ErredB (o : Option Bool) (w : World) (e : Ending) (w' : World) : Prop :=
  (∀ k, o = some k → e = .returned (.tuple #[.bool k, .nilIface])) ∧ (o = none → ∃ s, e = .returned (.tuple #[.bool false, .iface 119 (.agg #[.string s])])) ∧ Below w.heap.size w w'
def valikeF (x1 x2 x3 y1 y2 y3 a1 a2 a3 b1 b2 b3 : Int) : Option Bool := (pairO (timesF x1 x2 x3 b1 b2 b3) (timesF y1 y2 y3 a1 a2 a3)).map fun r => r.1 == r.2 && (darkB x1 x2 x3 y1 y2 y3 == darkB a1 a2 a3 b1 b2 b3)
theorem pairO_some' {o p : Option (Int × Int × Int)} {u v : Int × Int × Int} (h : pairO o p = some (u, v)) : o = some u ∧ p = some v := by
  cases o <;> cases p <;> simp_all [pairO, okR, partsR]
set_option maxHeartbeats 8000000 in
theorem valike_any (x1 x2 x3 y1 y2 y3 a1 a2 a3 b1 b2 b3 : Int) (hx1 : i64B x1) (hx2 : i64B x2) (hx3 : i64B x3) (hy1 : i64B y1) (hy2 : i64B y2) (hy3 : i64B y3) (ha1 : i64B a1) (ha2 : i64B a2) (ha3 : i64B a3) (hb1 : i64B b1) (hb2 : i64B b2) (hb3 : i64B b3) (w : World) :
    Calls Tryd.prog 74 #[.agg #[.int .i64 x1, .int .i64 x2, .int .i64 x3, .int .i64 y1, .int .i64 y2, .int .i64 y3], .agg #[.int .i64 a1, .int .i64 a2, .int .i64 a3, .int .i64 b1, .int .i64 b2, .int .i64 b3]] w (ErredB (valikeF x1 x2 x3 y1 y2 y3 a1 a2 a3 b1 b2 b3) w) := by
  unfold valikeF
  have hmf : ∀ (fn : Fn) (first cap : Array Value) (w : World), (Instr.makeFunc fn first cap).run Tryd.prog w = .ok (.func fn first cap) w := fun _ _ _ _ => rfl
  cases ho : pairO (timesF x1 x2 x3 b1 b2 b3) (timesF y1 y2 y3 a1 a2 a3) with
  | none =>
    have HO := Lib.hid ho
    clear ho
    go_enter Tryd.func74, Tryd.ntmps74
    go_wp2_with fail
    refine (both_alike (w.heap.size) (w.heap.size + 1) _ _ _ (fun W k => alikeClo_0 (w.heap.size) (w.heap.size + 1) x1 x2 x3 y1 y2 y3 a1 a2 a3 b1 b2 b3 hx1 hx2 hx3 hy1 hy2 hy3 ha1 ha2 ha3 hb1 hb2 hb3 W (Blk.keep k (by repeat' (first | (with_reducible first | assumption | refine Blk.drew ?_ | refine Blk.drewN ?_ _ | apply Blk.set | (refine Blk.new ?_; focus (first | rfl | (simp; done))) | refine Blk.alloc ?_ _ | refine Blk.other ?_ ?_ _) | exact eqL rfl | (refine neB ?_; omega)))) (Blk.keep k (by repeat' (first | (with_reducible first | assumption | refine Blk.drew ?_ | refine Blk.drewN ?_ _ | apply Blk.set | (refine Blk.new ?_; focus (first | rfl | (simp; done))) | refine Blk.alloc ?_ _ | refine Blk.other ?_ ?_ _) | exact eqL rfl | (refine neB ?_; omega))))) (fun W k => alikeClo_1 (w.heap.size) (w.heap.size + 1) x1 x2 x3 y1 y2 y3 a1 a2 a3 b1 b2 b3 hx1 hx2 hx3 hy1 hy2 hy3 ha1 ha2 ha3 hb1 hb2 hb3 W (Blk.keep k (by repeat' (first | (with_reducible first | assumption | refine Blk.drew ?_ | refine Blk.drewN ?_ _ | apply Blk.set | (refine Blk.new ?_; focus (first | rfl | (simp; done))) | refine Blk.alloc ?_ _ | refine Blk.other ?_ ?_ _) | exact eqL rfl | (refine neB ?_; omega)))) (Blk.keep k (by repeat' (first | (with_reducible first | assumption | refine Blk.drew ?_ | refine Blk.drewN ?_ _ | apply Blk.set | (refine Blk.new ?_; focus (first | rfl | (simp; done))) | refine Blk.alloc ?_ _ | refine Blk.other ?_ ?_ _) | exact eqL rfl | (refine neB ?_; omega)))))).mono ?_
    rintro e W1 ⟨h1, h2, hb⟩
    obtain ⟨Bb, Bc⟩ : Blk W1 (w.heap.size) [.int .i64 x1, .int .i64 x2, .int .i64 x3, .int .i64 y1, .int .i64 y2, .int .i64 y3] ∧ Blk W1 (w.heap.size + 1) [.int .i64 a1, .int .i64 a2, .int .i64 a3, .int .i64 b1, .int .i64 b2, .int .i64 b3] := by
      refine ⟨?_, ?_⟩ <;> refine Blk.keep hb ?_ <;> (repeat' (first | (with_reducible first | assumption | refine Blk.drew ?_ | refine Blk.drewN ?_ _ | apply Blk.set | (refine Blk.new ?_; focus (first | rfl | (simp; done))) | refine Blk.alloc ?_ _ | refine Blk.other ?_ ?_ _) | exact eqL rfl | (refine neB ?_; omega)))
    have cb := Bb.cell
    have fb := Bb.free
    have lb_W1 := Bb.lt
    have cc := Bc.cell
    have fc := Bc.free
    have lc_W1 := Bc.lt
    have kaW1 : Acc w W1 := by
      refine Acc.call ?_ hb
      (repeat' (first | (with_reducible first | assumption | exact Acc.refl _ | refine Acc.drew ?_ | refine Acc.drewN ?_ _ | refine Acc.alloc ?_ _ | refine Acc.setCell ?_ ?_ _) | (refine leB ?_; omega)))
    clear hb
    obtain ⟨s, rfl⟩ := h2 HO.out
    clear h1 h2
    go_wp2_with fail
    go_ret2
    refine ⟨fun _ h => (by cases h), fun _ => ⟨_, rfl⟩, ?_⟩
    show Acc w _
    (repeat' (first | (with_reducible first | assumption | exact Acc.refl _ | refine Acc.drew ?_ | refine Acc.drewN ?_ _ | refine Acc.alloc ?_ _ | refine Acc.setCell ?_ ?_ _) | (refine leB ?_; omega)))
  | some r =>
    obtain ⟨⟨u1, u2, u3⟩, v1, v2, v3⟩ := r
    obtain ⟨ho1, ho2⟩ := pairO_some' ho
    obtain ⟨ox, ob, -⟩ := times_some ho1
    obtain ⟨oy, oa, -⟩ := times_some ho2
    obtain ⟨dx, hd⟩ : ∃ k, darkB x1 x2 x3 y1 y2 y3 = k := ⟨_, rfl⟩
    obtain ⟨da, he⟩ : ∃ k, darkB a1 a2 a3 b1 b2 b3 = k := ⟨_, rfl⟩
    rw [hd, he]
    have HD := Lib.hid ((vdark_eq ox oy).trans hd)
    have HE := Lib.hid ((vdark_eq oa ob).trans he)
    have HO := Lib.hid ho
    clear ho ho1 ho2 ox ob oy oa hd he
    go_enter Tryd.func74, Tryd.ntmps74
    go_wp2_with fail
    refine (both_alike (w.heap.size) (w.heap.size + 1) _ _ _ (fun W k => alikeClo_0 (w.heap.size) (w.heap.size + 1) x1 x2 x3 y1 y2 y3 a1 a2 a3 b1 b2 b3 hx1 hx2 hx3 hy1 hy2 hy3 ha1 ha2 ha3 hb1 hb2 hb3 W (Blk.keep k (by repeat' (first | (with_reducible first | assumption | refine Blk.drew ?_ | refine Blk.drewN ?_ _ | apply Blk.set | (refine Blk.new ?_; focus (first | rfl | (simp; done))) | refine Blk.alloc ?_ _ | refine Blk.other ?_ ?_ _) | exact eqL rfl | (refine neB ?_; omega)))) (Blk.keep k (by repeat' (first | (with_reducible first | assumption | refine Blk.drew ?_ | refine Blk.drewN ?_ _ | apply Blk.set | (refine Blk.new ?_; focus (first | rfl | (simp; done))) | refine Blk.alloc ?_ _ | refine Blk.other ?_ ?_ _) | exact eqL rfl | (refine neB ?_; omega))))) (fun W k => alikeClo_1 (w.heap.size) (w.heap.size + 1) x1 x2 x3 y1 y2 y3 a1 a2 a3 b1 b2 b3 hx1 hx2 hx3 hy1 hy2 hy3 ha1 ha2 ha3 hb1 hb2 hb3 W (Blk.keep k (by repeat' (first | (with_reducible first | assumption | refine Blk.drew ?_ | refine Blk.drewN ?_ _ | apply Blk.set | (refine Blk.new ?_; focus (first | rfl | (simp; done))) | refine Blk.alloc ?_ _ | refine Blk.other ?_ ?_ _) | exact eqL rfl | (refine neB ?_; omega)))) (Blk.keep k (by repeat' (first | (with_reducible first | assumption | refine Blk.drew ?_ | refine Blk.drewN ?_ _ | apply Blk.set | (refine Blk.new ?_; focus (first | rfl | (simp; done))) | refine Blk.alloc ?_ _ | refine Blk.other ?_ ?_ _) | exact eqL rfl | (refine neB ?_; omega)))))).mono ?_
    rintro e W1 ⟨h1, h2, hb⟩
    obtain ⟨Bb, Bc⟩ : Blk W1 (w.heap.size) [.int .i64 x1, .int .i64 x2, .int .i64 x3, .int .i64 y1, .int .i64 y2, .int .i64 y3] ∧ Blk W1 (w.heap.size + 1) [.int .i64 a1, .int .i64 a2, .int .i64 a3, .int .i64 b1, .int .i64 b2, .int .i64 b3] := by
      refine ⟨?_, ?_⟩ <;> refine Blk.keep hb ?_ <;> (repeat' (first | (with_reducible first | assumption | refine Blk.drew ?_ | refine Blk.drewN ?_ _ | apply Blk.set | (refine Blk.new ?_; focus (first | rfl | (simp; done))) | refine Blk.alloc ?_ _ | refine Blk.other ?_ ?_ _) | exact eqL rfl | (refine neB ?_; omega)))
    have cb := Bb.cell
    have fb := Bb.free
    have lb_W1 := Bb.lt
    have cc := Bc.cell
    have fc := Bc.free
    have lc_W1 := Bc.lt
    have kaW1 : Acc w W1 := by
      refine Acc.call ?_ hb
      (repeat' (first | (with_reducible first | assumption | exact Acc.refl _ | refine Acc.drew ?_ | refine Acc.drewN ?_ _ | refine Acc.alloc ?_ _ | refine Acc.setCell ?_ ?_ _) | (refine leB ?_; omega)))
    clear hb
    obtain rfl := h1 _ _ _ _ _ _ HO.out
    clear h1 h2
    by_cases h1 : u1 = v1
    · subst h1
      by_cases h2 : u2 = v2
      · subst h2
        by_cases h3 : u3 = v3
        · subst h3
          go_upto_region 4 with fail
          first
            | go_region_held3 (fun w' => (∀ k, w'.cell? ⟨w.heap.size, k, none⟩ = [.int .i64 x1, .int .i64 x2, .int .i64 x3, .int .i64 y1, .int .i64 y2, .int .i64 y3][k]?) ∧ (∀ k, w'.cell? ⟨w.heap.size + 1, k, none⟩ = [.int .i64 a1, .int .i64 a2, .int .i64 a3, .int .i64 b1, .int .i64 b2, .int .i64 b3][k]?) ∧ (∀ k, w'.cell? ⟨W1.heap.size, k, none⟩ = [.int .i64 u1, .int .i64 u2, .int .i64 u3, .int .i64 u1, .int .i64 u2, .int .i64 u3][k]?))
                (((try dsimp only); (refine ⟨Blk.cell ?_, Blk.cell ?_, Blk.cell ?_⟩ <;> (repeat' (first | (with_reducible first | assumption | refine Blk.drew ?_ | refine Blk.drewN ?_ _ | apply Blk.set | (refine Blk.new ?_; focus (first | rfl | (simp; done))) | refine Blk.alloc ?_ _ | refine Blk.other ?_ ?_ _) | exact eqL rfl | (refine neB ?_; omega))))))
                (first
                  | (go_at_call_of 108 (Value.int IntKind.i64 x1); refine (vdark_of x1 x2 x3 y1 y2 y3 dx HD.out _).mono ?_; rintro e W3 ⟨rfl, hb⟩; have Bb : Blk W3 (w.heap.size) [.int .i64 x1, .int .i64 x2, .int .i64 x3, .int .i64 y1, .int .i64 y2, .int .i64 y3] := Blk.keep hb (by repeat' (first | (with_reducible first | assumption | refine Blk.drew ?_ | refine Blk.drewN ?_ _ | apply Blk.set | (refine Blk.new ?_; focus (first | rfl | (simp; done))) | refine Blk.alloc ?_ _ | refine Blk.other ?_ ?_ _) | exact eqL rfl | (refine neB ?_; omega))); have Bc : Blk W3 (w.heap.size + 1) [.int .i64 a1, .int .i64 a2, .int .i64 a3, .int .i64 b1, .int .i64 b2, .int .i64 b3] := Blk.keep hb (by repeat' (first | (with_reducible first | assumption | refine Blk.drew ?_ | refine Blk.drewN ?_ _ | apply Blk.set | (refine Blk.new ?_; focus (first | rfl | (simp; done))) | refine Blk.alloc ?_ _ | refine Blk.other ?_ ?_ _) | exact eqL rfl | (refine neB ?_; omega))); have Bp : Blk W3 (W1.heap.size) [.int .i64 u1, .int .i64 u2, .int .i64 u3, .int .i64 u1, .int .i64 u2, .int .i64 u3] := Blk.keep hb (by repeat' (first | (with_reducible first | assumption | refine Blk.drew ?_ | refine Blk.drewN ?_ _ | apply Blk.set | (refine Blk.new ?_; focus (first | rfl | (simp; done))) | refine Blk.alloc ?_ _ | refine Blk.other ?_ ?_ _) | exact eqL rfl | (refine neB ?_; omega))); have cb := Bb.cell; have fb := Bb.free; have lb_W3 := Bb.lt; have cc := Bc.cell; have fc := Bc.free; have lc_W3 := Bc.lt; have cp := Bp.cell; have fp := Bp.free; have lp_W3 := Bp.lt; have kaW3 : Acc w W3 := (by refine Acc.call ?_ hb; (repeat' (first | (with_reducible first | assumption | exact Acc.refl _ | refine Acc.drew ?_ | refine Acc.drewN ?_ _ | refine Acc.alloc ?_ _ | refine Acc.setCell ?_ ?_ _) | (refine leB ?_; omega)))); clear hb)
                  | (go_at_call_of 108 (Value.int IntKind.i64 a1); refine (vdark_of a1 a2 a3 b1 b2 b3 da HE.out _).mono ?_; rintro e W4 ⟨rfl, hb⟩; have Bb : Blk W4 (w.heap.size) [.int .i64 x1, .int .i64 x2, .int .i64 x3, .int .i64 y1, .int .i64 y2, .int .i64 y3] := Blk.keep hb (by repeat' (first | (with_reducible first | assumption | refine Blk.drew ?_ | refine Blk.drewN ?_ _ | apply Blk.set | (refine Blk.new ?_; focus (first | rfl | (simp; done))) | refine Blk.alloc ?_ _ | refine Blk.other ?_ ?_ _) | exact eqL rfl | (refine neB ?_; omega))); have Bc : Blk W4 (w.heap.size + 1) [.int .i64 a1, .int .i64 a2, .int .i64 a3, .int .i64 b1, .int .i64 b2, .int .i64 b3] := Blk.keep hb (by repeat' (first | (with_reducible first | assumption | refine Blk.drew ?_ | refine Blk.drewN ?_ _ | apply Blk.set | (refine Blk.new ?_; focus (first | rfl | (simp; done))) | refine Blk.alloc ?_ _ | refine Blk.other ?_ ?_ _) | exact eqL rfl | (refine neB ?_; omega))); have Bp : Blk W4 (W1.heap.size) [.int .i64 u1, .int .i64 u2, .int .i64 u3, .int .i64 u1, .int .i64 u2, .int .i64 u3] := Blk.keep hb (by repeat' (first | (with_reducible first | assumption | refine Blk.drew ?_ | refine Blk.drewN ?_ _ | apply Blk.set | (refine Blk.new ?_; focus (first | rfl | (simp; done))) | refine Blk.alloc ?_ _ | refine Blk.other ?_ ?_ _) | exact eqL rfl | (refine neB ?_; omega))); have cb := Bb.cell; have fb := Bb.free; have lb_W4 := Bb.lt; have cc := Bc.cell; have fc := Bc.free; have lc_W4 := Bc.lt; have cp := Bp.cell; have fp := Bp.free; have lp_W4 := Bp.lt; have kaW4 : Acc w W4 := (by refine Acc.call ?_ hb; (repeat' (first | (with_reducible first | assumption | exact Acc.refl _ | refine Acc.drew ?_ | refine Acc.drewN ?_ _ | refine Acc.alloc ?_ _ | refine Acc.setCell ?_ ?_ _) | (refine leB ?_; omega)))); clear hb))
            | fail "region"
          all_goals
            go_wp2_with fail
            go_ret2
            refine ⟨fun _ h => (by cases h; first | rfl | (simp [*]; done) | (simp [go_sem, *]; done)), fun h => (by cases h), ?_⟩
            show Acc w _
            (repeat' (first | (with_reducible first | assumption | exact Acc.refl _ | refine Acc.drew ?_ | refine Acc.drewN ?_ _ | refine Acc.alloc ?_ _ | refine Acc.setCell ?_ ?_ _) | (refine leB ?_; omega)))
        · skip
          go_upto_region 4 with fail
          first
            | go_region_with
                (first
                  | (go_at_call_of 108 (Value.int IntKind.i64 x1); refine (vdark_of x1 x2 x3 y1 y2 y3 dx HD.out _).mono ?_; rintro e W3 ⟨rfl, hb⟩; have Bb : Blk W3 (w.heap.size) [.int .i64 x1, .int .i64 x2, .int .i64 x3, .int .i64 y1, .int .i64 y2, .int .i64 y3] := Blk.keep hb (by repeat' (first | (with_reducible first | assumption | refine Blk.drew ?_ | refine Blk.drewN ?_ _ | apply Blk.set | (refine Blk.new ?_; focus (first | rfl | (simp; done))) | refine Blk.alloc ?_ _ | refine Blk.other ?_ ?_ _) | exact eqL rfl | (refine neB ?_; omega))); have Bc : Blk W3 (w.heap.size + 1) [.int .i64 a1, .int .i64 a2, .int .i64 a3, .int .i64 b1, .int .i64 b2, .int .i64 b3] := Blk.keep hb (by repeat' (first | (with_reducible first | assumption | refine Blk.drew ?_ | refine Blk.drewN ?_ _ | apply Blk.set | (refine Blk.new ?_; focus (first | rfl | (simp; done))) | refine Blk.alloc ?_ _ | refine Blk.other ?_ ?_ _) | exact eqL rfl | (refine neB ?_; omega))); have Bp : Blk W3 (W1.heap.size) [.int .i64 u1, .int .i64 u2, .int .i64 u3, .int .i64 u1, .int .i64 u2, .int .i64 v3] := Blk.keep hb (by repeat' (first | (with_reducible first | assumption | refine Blk.drew ?_ | refine Blk.drewN ?_ _ | apply Blk.set | (refine Blk.new ?_; focus (first | rfl | (simp; done))) | refine Blk.alloc ?_ _ | refine Blk.other ?_ ?_ _) | exact eqL rfl | (refine neB ?_; omega))); have cb := Bb.cell; have fb := Bb.free; have lb_W3 := Bb.lt; have cc := Bc.cell; have fc := Bc.free; have lc_W3 := Bc.lt; have cp := Bp.cell; have fp := Bp.free; have lp_W3 := Bp.lt; have kaW3 : Acc w W3 := (by refine Acc.call ?_ hb; (repeat' (first | (with_reducible first | assumption | exact Acc.refl _ | refine Acc.drew ?_ | refine Acc.drewN ?_ _ | refine Acc.alloc ?_ _ | refine Acc.setCell ?_ ?_ _) | (refine leB ?_; omega)))); clear hb)
                  | (go_at_call_of 108 (Value.int IntKind.i64 a1); refine (vdark_of a1 a2 a3 b1 b2 b3 da HE.out _).mono ?_; rintro e W4 ⟨rfl, hb⟩; have Bb : Blk W4 (w.heap.size) [.int .i64 x1, .int .i64 x2, .int .i64 x3, .int .i64 y1, .int .i64 y2, .int .i64 y3] := Blk.keep hb (by repeat' (first | (with_reducible first | assumption | refine Blk.drew ?_ | refine Blk.drewN ?_ _ | apply Blk.set | (refine Blk.new ?_; focus (first | rfl | (simp; done))) | refine Blk.alloc ?_ _ | refine Blk.other ?_ ?_ _) | exact eqL rfl | (refine neB ?_; omega))); have Bc : Blk W4 (w.heap.size + 1) [.int .i64 a1, .int .i64 a2, .int .i64 a3, .int .i64 b1, .int .i64 b2, .int .i64 b3] := Blk.keep hb (by repeat' (first | (with_reducible first | assumption | refine Blk.drew ?_ | refine Blk.drewN ?_ _ | apply Blk.set | (refine Blk.new ?_; focus (first | rfl | (simp; done))) | refine Blk.alloc ?_ _ | refine Blk.other ?_ ?_ _) | exact eqL rfl | (refine neB ?_; omega))); have Bp : Blk W4 (W1.heap.size) [.int .i64 u1, .int .i64 u2, .int .i64 u3, .int .i64 u1, .int .i64 u2, .int .i64 v3] := Blk.keep hb (by repeat' (first | (with_reducible first | assumption | refine Blk.drew ?_ | refine Blk.drewN ?_ _ | apply Blk.set | (refine Blk.new ?_; focus (first | rfl | (simp; done))) | refine Blk.alloc ?_ _ | refine Blk.other ?_ ?_ _) | exact eqL rfl | (refine neB ?_; omega))); have cb := Bb.cell; have fb := Bb.free; have lb_W4 := Bb.lt; have cc := Bc.cell; have fc := Bc.free; have lc_W4 := Bc.lt; have cp := Bp.cell; have fp := Bp.free; have lp_W4 := Bp.lt; have kaW4 : Acc w W4 := (by refine Acc.call ?_ hb; (repeat' (first | (with_reducible first | assumption | exact Acc.refl _ | refine Acc.drew ?_ | refine Acc.drewN ?_ _ | refine Acc.alloc ?_ _ | refine Acc.setCell ?_ ?_ _) | (refine leB ?_; omega)))); clear hb))
            | fail "region"
          all_goals
            go_wp2_with fail
            go_ret2
            refine ⟨fun _ h => (by cases h; first | rfl | (simp [*]; done) | (simp [go_sem, *]; done)), fun h => (by cases h), ?_⟩
            show Acc w _
            (repeat' (first | (with_reducible first | assumption | exact Acc.refl _ | refine Acc.drew ?_ | refine Acc.drewN ?_ _ | refine Acc.alloc ?_ _ | refine Acc.setCell ?_ ?_ _) | (refine leB ?_; omega)))
      · skip
        go_upto_region 4 with fail
        first
          | go_region_with
              (first
                | (go_at_call_of 108 (Value.int IntKind.i64 x1); refine (vdark_of x1 x2 x3 y1 y2 y3 dx HD.out _).mono ?_; rintro e W3 ⟨rfl, hb⟩; have Bb : Blk W3 (w.heap.size) [.int .i64 x1, .int .i64 x2, .int .i64 x3, .int .i64 y1, .int .i64 y2, .int .i64 y3] := Blk.keep hb (by repeat' (first | (with_reducible first | assumption | refine Blk.drew ?_ | refine Blk.drewN ?_ _ | apply Blk.set | (refine Blk.new ?_; focus (first | rfl | (simp; done))) | refine Blk.alloc ?_ _ | refine Blk.other ?_ ?_ _) | exact eqL rfl | (refine neB ?_; omega))); have Bc : Blk W3 (w.heap.size + 1) [.int .i64 a1, .int .i64 a2, .int .i64 a3, .int .i64 b1, .int .i64 b2, .int .i64 b3] := Blk.keep hb (by repeat' (first | (with_reducible first | assumption | refine Blk.drew ?_ | refine Blk.drewN ?_ _ | apply Blk.set | (refine Blk.new ?_; focus (first | rfl | (simp; done))) | refine Blk.alloc ?_ _ | refine Blk.other ?_ ?_ _) | exact eqL rfl | (refine neB ?_; omega))); have Bp : Blk W3 (W1.heap.size) [.int .i64 u1, .int .i64 u2, .int .i64 u3, .int .i64 u1, .int .i64 v2, .int .i64 v3] := Blk.keep hb (by repeat' (first | (with_reducible first | assumption | refine Blk.drew ?_ | refine Blk.drewN ?_ _ | apply Blk.set | (refine Blk.new ?_; focus (first | rfl | (simp; done))) | refine Blk.alloc ?_ _ | refine Blk.other ?_ ?_ _) | exact eqL rfl | (refine neB ?_; omega))); have cb := Bb.cell; have fb := Bb.free; have lb_W3 := Bb.lt; have cc := Bc.cell; have fc := Bc.free; have lc_W3 := Bc.lt; have cp := Bp.cell; have fp := Bp.free; have lp_W3 := Bp.lt; have kaW3 : Acc w W3 := (by refine Acc.call ?_ hb; (repeat' (first | (with_reducible first | assumption | exact Acc.refl _ | refine Acc.drew ?_ | refine Acc.drewN ?_ _ | refine Acc.alloc ?_ _ | refine Acc.setCell ?_ ?_ _) | (refine leB ?_; omega)))); clear hb)
                | (go_at_call_of 108 (Value.int IntKind.i64 a1); refine (vdark_of a1 a2 a3 b1 b2 b3 da HE.out _).mono ?_; rintro e W4 ⟨rfl, hb⟩; have Bb : Blk W4 (w.heap.size) [.int .i64 x1, .int .i64 x2, .int .i64 x3, .int .i64 y1, .int .i64 y2, .int .i64 y3] := Blk.keep hb (by repeat' (first | (with_reducible first | assumption | refine Blk.drew ?_ | refine Blk.drewN ?_ _ | apply Blk.set | (refine Blk.new ?_; focus (first | rfl | (simp; done))) | refine Blk.alloc ?_ _ | refine Blk.other ?_ ?_ _) | exact eqL rfl | (refine neB ?_; omega))); have Bc : Blk W4 (w.heap.size + 1) [.int .i64 a1, .int .i64 a2, .int .i64 a3, .int .i64 b1, .int .i64 b2, .int .i64 b3] := Blk.keep hb (by repeat' (first | (with_reducible first | assumption | refine Blk.drew ?_ | refine Blk.drewN ?_ _ | apply Blk.set | (refine Blk.new ?_; focus (first | rfl | (simp; done))) | refine Blk.alloc ?_ _ | refine Blk.other ?_ ?_ _) | exact eqL rfl | (refine neB ?_; omega))); have Bp : Blk W4 (W1.heap.size) [.int .i64 u1, .int .i64 u2, .int .i64 u3, .int .i64 u1, .int .i64 v2, .int .i64 v3] := Blk.keep hb (by repeat' (first | (with_reducible first | assumption | refine Blk.drew ?_ | refine Blk.drewN ?_ _ | apply Blk.set | (refine Blk.new ?_; focus (first | rfl | (simp; done))) | refine Blk.alloc ?_ _ | refine Blk.other ?_ ?_ _) | exact eqL rfl | (refine neB ?_; omega))); have cb := Bb.cell; have fb := Bb.free; have lb_W4 := Bb.lt; have cc := Bc.cell; have fc := Bc.free; have lc_W4 := Bc.lt; have cp := Bp.cell; have fp := Bp.free; have lp_W4 := Bp.lt; have kaW4 : Acc w W4 := (by refine Acc.call ?_ hb; (repeat' (first | (with_reducible first | assumption | exact Acc.refl _ | refine Acc.drew ?_ | refine Acc.drewN ?_ _ | refine Acc.alloc ?_ _ | refine Acc.setCell ?_ ?_ _) | (refine leB ?_; omega)))); clear hb))
          | fail "region"
        all_goals
          go_wp2_with fail
          go_ret2
          refine ⟨fun _ h => (by cases h; first | rfl | (simp [*]; done) | (simp [go_sem, *]; done)), fun h => (by cases h), ?_⟩
          show Acc w _
          (repeat' (first | (with_reducible first | assumption | exact Acc.refl _ | refine Acc.drew ?_ | refine Acc.drewN ?_ _ | refine Acc.alloc ?_ _ | refine Acc.setCell ?_ ?_ _) | (refine leB ?_; omega)))
    · skip
      go_upto_region 4 with fail
      first
        | go_region_with
            (first
              | (go_at_call_of 108 (Value.int IntKind.i64 x1); refine (vdark_of x1 x2 x3 y1 y2 y3 dx HD.out _).mono ?_; rintro e W3 ⟨rfl, hb⟩; have Bb : Blk W3 (w.heap.size) [.int .i64 x1, .int .i64 x2, .int .i64 x3, .int .i64 y1, .int .i64 y2, .int .i64 y3] := Blk.keep hb (by repeat' (first | (with_reducible first | assumption | refine Blk.drew ?_ | refine Blk.drewN ?_ _ | apply Blk.set | (refine Blk.new ?_; focus (first | rfl | (simp; done))) | refine Blk.alloc ?_ _ | refine Blk.other ?_ ?_ _) | exact eqL rfl | (refine neB ?_; omega))); have Bc : Blk W3 (w.heap.size + 1) [.int .i64 a1, .int .i64 a2, .int .i64 a3, .int .i64 b1, .int .i64 b2, .int .i64 b3] := Blk.keep hb (by repeat' (first | (with_reducible first | assumption | refine Blk.drew ?_ | refine Blk.drewN ?_ _ | apply Blk.set | (refine Blk.new ?_; focus (first | rfl | (simp; done))) | refine Blk.alloc ?_ _ | refine Blk.other ?_ ?_ _) | exact eqL rfl | (refine neB ?_; omega))); have Bp : Blk W3 (W1.heap.size) [.int .i64 u1, .int .i64 u2, .int .i64 u3, .int .i64 v1, .int .i64 v2, .int .i64 v3] := Blk.keep hb (by repeat' (first | (with_reducible first | assumption | refine Blk.drew ?_ | refine Blk.drewN ?_ _ | apply Blk.set | (refine Blk.new ?_; focus (first | rfl | (simp; done))) | refine Blk.alloc ?_ _ | refine Blk.other ?_ ?_ _) | exact eqL rfl | (refine neB ?_; omega))); have cb := Bb.cell; have fb := Bb.free; have lb_W3 := Bb.lt; have cc := Bc.cell; have fc := Bc.free; have lc_W3 := Bc.lt; have cp := Bp.cell; have fp := Bp.free; have lp_W3 := Bp.lt; have kaW3 : Acc w W3 := (by refine Acc.call ?_ hb; (repeat' (first | (with_reducible first | assumption | exact Acc.refl _ | refine Acc.drew ?_ | refine Acc.drewN ?_ _ | refine Acc.alloc ?_ _ | refine Acc.setCell ?_ ?_ _) | (refine leB ?_; omega)))); clear hb)
              | (go_at_call_of 108 (Value.int IntKind.i64 a1); refine (vdark_of a1 a2 a3 b1 b2 b3 da HE.out _).mono ?_; rintro e W4 ⟨rfl, hb⟩; have Bb : Blk W4 (w.heap.size) [.int .i64 x1, .int .i64 x2, .int .i64 x3, .int .i64 y1, .int .i64 y2, .int .i64 y3] := Blk.keep hb (by repeat' (first | (with_reducible first | assumption | refine Blk.drew ?_ | refine Blk.drewN ?_ _ | apply Blk.set | (refine Blk.new ?_; focus (first | rfl | (simp; done))) | refine Blk.alloc ?_ _ | refine Blk.other ?_ ?_ _) | exact eqL rfl | (refine neB ?_; omega))); have Bc : Blk W4 (w.heap.size + 1) [.int .i64 a1, .int .i64 a2, .int .i64 a3, .int .i64 b1, .int .i64 b2, .int .i64 b3] := Blk.keep hb (by repeat' (first | (with_reducible first | assumption | refine Blk.drew ?_ | refine Blk.drewN ?_ _ | apply Blk.set | (refine Blk.new ?_; focus (first | rfl | (simp; done))) | refine Blk.alloc ?_ _ | refine Blk.other ?_ ?_ _) | exact eqL rfl | (refine neB ?_; omega))); have Bp : Blk W4 (W1.heap.size) [.int .i64 u1, .int .i64 u2, .int .i64 u3, .int .i64 v1, .int .i64 v2, .int .i64 v3] := Blk.keep hb (by repeat' (first | (with_reducible first | assumption | refine Blk.drew ?_ | refine Blk.drewN ?_ _ | apply Blk.set | (refine Blk.new ?_; focus (first | rfl | (simp; done))) | refine Blk.alloc ?_ _ | refine Blk.other ?_ ?_ _) | exact eqL rfl | (refine neB ?_; omega))); have cb := Bb.cell; have fb := Bb.free; have lb_W4 := Bb.lt; have cc := Bc.cell; have fc := Bc.free; have lc_W4 := Bc.lt; have cp := Bp.cell; have fp := Bp.free; have lp_W4 := Bp.lt; have kaW4 : Acc w W4 := (by refine Acc.call ?_ hb; (repeat' (first | (with_reducible first | assumption | exact Acc.refl _ | refine Acc.drew ?_ | refine Acc.drewN ?_ _ | refine Acc.alloc ?_ _ | refine Acc.setCell ?_ ?_ _) | (refine leB ?_; omega)))); clear hb))
        | fail "region"
      all_goals
        go_wp2_with fail
        go_ret2
        refine ⟨fun _ h => (by cases h; first | rfl | (simp [*]; done) | (simp [go_sem, *]; done)), fun h => (by cases h), ?_⟩
        show Acc w _
        (repeat' (first | (with_reducible first | assumption | exact Acc.refl _ | refine Acc.drew ?_ | refine Acc.drewN ?_ _ | refine Acc.alloc ?_ _ | refine Acc.setCell ?_ ?_ _) | (refine leB ?_; omega)))
end Go.Proofs.YtnfbopaafciiiabDoor
