/-
  The model: films: the reflected and the passing part.
-/
import Derived.Test.YtpgklllgmfaekaaGreatDoorSpecF3
import Derived.Test.YtpgklllgmfaekaaGreatDoorBSpecF
namespace Go.Proofs.YtpgklllgmfaekaaGreatDoor
open Go.ChangeShapes Go.WideShapes Go.ChangeAt Go.RowKit
set_option linter.unusedVariables false

set_option linter.unusedSimpArgs false
set_option maxRecDepth 100000 in
set_option maxHeartbeats 16000000 in
theorem specFlRef_any (a : Option Addr) (ls : List L4) (cap : Nat) (x1 x2 x3 y1 y2 y3 : Int) (w : World) (h : Lys w a ls) (hn : ls.length ≤ 1048576) : Calls Tryz.prog 12 #[.slice a ls.length cap, .agg #[.int .i64 x1, .int .i64 x2, .int .i64 x3], .agg #[.int .i64 y1, .int .i64 y2, .int .i64 y3]] w (Gave (refM ls (x1, x2, x3) (y1, y2, y3)) w) := by
  have TE := Lib.hid fun (W : World) (ka : Acc w W) => specEnds_any a ls cap x1 x2 x3 y1 y2 y3 W (h.keep ka) hn
  clear h
  obtain ⟨o, E⟩ : ∃ o, refM ls (x1, x2, x3) (y1, y2, y3) = o := ⟨_, rfl⟩
  rw [E]
  have HE := Lib.hid E
  clear E
  go_enter Tryz.func12, Tryz.ntmps12
  go_wp2_with fail
  refine (TE.out _ (by repeat' (first | (with_reducible first | assumption | exact Acc.refl _ | refine Acc.drew ?_ | refine Acc.drewN ?_ _ | refine Acc.alloc ?_ _ | refine Acc.setCell ?_ ?_ _) | (refine leB ?_; omega)))).mono ?_
  rintro e W1 ⟨t1, t2, t3, c1, c2, c3, ke, rfl, e1', e2', hb⟩
  have E1 := Lib.hid e1'
  have E2 := Lib.hid e2'
  clear e1' e2'
  obtain ⟨Ba, Bb, Br⟩ : Blk W1 (w.heap.size) [.int .i64 x1, .int .i64 x2, .int .i64 x3] ∧ Blk W1 (w.heap.size + 1) [.int .i64 y1, .int .i64 y2, .int .i64 y3] ∧ Blk W1 (w.heap.size + 1 + 1) [.int .i64 0, .int .i64 0, .int .i64 0] := by
    refine ⟨?_, ?_, ?_⟩ <;> refine Blk.keep hb ?_ <;> (repeat' (first | (with_reducible first | assumption | refine Blk.drew ?_ | refine Blk.drewN ?_ _ | apply Blk.set | (refine Blk.new ?_; focus (first | rfl | (simp; done))) | refine Blk.alloc ?_ _ | refine Blk.other ?_ ?_ _) | exact eqL rfl | (refine neB ?_; omega)))
  have ca := Ba.cell
  have fa := Ba.free
  have la_W1 := Ba.lt
  have cb := Bb.cell
  have fb := Bb.free
  have lb_W1 := Bb.lt
  have cr := Br.cell
  have fr := Br.free
  have lr_W1 := Br.lt
  have kaW1 : Acc w W1 := by
    refine Acc.call ?_ hb
    (repeat' (first | (with_reducible first | assumption | exact Acc.refl _ | refine Acc.drew ?_ | refine Acc.drewN ?_ _ | refine Acc.alloc ?_ _ | refine Acc.setCell ?_ ?_ _) | (refine leB ?_; omega)))
  clear hb
  cases ke with
  | false =>
    obtain rfl : o = none := HE.out.symm.trans (by unfold refM; rw [E2.out (by first | rfl | trivial)]; rfl)
    go_wp2_with fail
    refine bodyPost_ret (v := .tuple #[.agg #[.int .i64 0, .int .i64 0, .int .i64 0], .bool false]) (by simp [results, Tryz.results12, go_sem, *]) rfl ⟨rfl, ?_⟩
    show Acc w _
    (repeat' (first | (with_reducible first | assumption | exact Acc.refl _ | refine Acc.drew ?_ | refine Acc.drewN ?_ _ | refine Acc.alloc ?_ _ | refine Acc.setCell ?_ ?_ _) | (refine leB ?_; omega)))
  | true =>
    obtain ⟨⟨m1, m2, m3⟩, hv⟩ : ∃ o, partsR (lessF t1 t2 t3 c1 c2 c3) = o := ⟨_, rfl⟩
    obtain ⟨km, hk⟩ : ∃ k, okR (lessF t1 t2 t3 c1 c2 c3) = k := ⟨_, rfl⟩
    have Cm := Lib.hid hv
    have Dm := Lib.hid hk
    clear hv hk
    obtain ⟨⟨n1, n2, n3⟩, hv⟩ : ∃ o, partsR (addF t1 t2 t3 c1 c2 c3) = o := ⟨_, rfl⟩
    obtain ⟨kn, hk⟩ : ∃ k, okR (addF t1 t2 t3 c1 c2 c3) = k := ⟨_, rfl⟩
    have Cn := Lib.hid hv
    have Dn := Lib.hid hk
    clear hv hk
    obtain ⟨⟨l1, l2, l3⟩, hv⟩ : ∃ o, partsR (overF m1 m2 m3 n1 n2 n3) = o := ⟨_, rfl⟩
    obtain ⟨kl, hk⟩ : ∃ k, okR (overF m1 m2 m3 n1 n2 n3) = k := ⟨_, rfl⟩
    have Cl := Lib.hid hv
    have Dl := Lib.hid hk
    clear hv hk
    go_wp2_with fail
    refine (gave_any Cm.out Dm.out (specLess_any t1 t2 t3 c1 c2 c3 _)).mono ?_
    rintro e W2 ⟨rfl, hb⟩
    obtain ⟨Ba, Bb, Br, Bt, Bc⟩ : Blk W2 (w.heap.size) [.int .i64 x1, .int .i64 x2, .int .i64 x3] ∧ Blk W2 (w.heap.size + 1) [.int .i64 y1, .int .i64 y2, .int .i64 y3] ∧ Blk W2 (w.heap.size + 1 + 1) [.int .i64 0, .int .i64 0, .int .i64 0] ∧ Blk W2 (W1.heap.size) [.int .i64 t1, .int .i64 t2, .int .i64 t3] ∧ Blk W2 (W1.heap.size + 1) [.int .i64 c1, .int .i64 c2, .int .i64 c3] := by
      refine ⟨?_, ?_, ?_, ?_, ?_⟩ <;> refine Blk.keep hb ?_ <;> (repeat' (first | (with_reducible first | assumption | refine Blk.drew ?_ | refine Blk.drewN ?_ _ | apply Blk.set | (refine Blk.new ?_; focus (first | rfl | (simp; done))) | refine Blk.alloc ?_ _ | refine Blk.other ?_ ?_ _) | exact eqL rfl | (refine neB ?_; omega)))
    have ca := Ba.cell
    have fa := Ba.free
    have la_W2 := Ba.lt
    have cb := Bb.cell
    have fb := Bb.free
    have lb_W2 := Bb.lt
    have cr := Br.cell
    have fr := Br.free
    have lr_W2 := Br.lt
    have ct := Bt.cell
    have ft := Bt.free
    have lt_W2 := Bt.lt
    have cc := Bc.cell
    have fc := Bc.free
    have lc_W2 := Bc.lt
    have kaW2 : Acc w W2 := by
      refine Acc.call ?_ hb
      (repeat' (first | (with_reducible first | assumption | exact Acc.refl _ | refine Acc.drew ?_ | refine Acc.drewN ?_ _ | refine Acc.alloc ?_ _ | refine Acc.setCell ?_ ?_ _) | (refine leB ?_; omega)))
    clear hb
    go_wp2_with fail
    refine (gave_any Cn.out Dn.out (specAdd_any t1 t2 t3 c1 c2 c3 _)).mono ?_
    rintro e W3 ⟨rfl, hb⟩
    obtain ⟨Ba, Bb, Br, Bt, Bc, Bm⟩ : Blk W3 (w.heap.size) [.int .i64 x1, .int .i64 x2, .int .i64 x3] ∧ Blk W3 (w.heap.size + 1) [.int .i64 y1, .int .i64 y2, .int .i64 y3] ∧ Blk W3 (w.heap.size + 1 + 1) [.int .i64 0, .int .i64 0, .int .i64 0] ∧ Blk W3 (W1.heap.size) [.int .i64 t1, .int .i64 t2, .int .i64 t3] ∧ Blk W3 (W1.heap.size + 1) [.int .i64 c1, .int .i64 c2, .int .i64 c3] ∧ Blk W3 (W2.heap.size) [.int .i64 m1, .int .i64 m2, .int .i64 m3] := by
      refine ⟨?_, ?_, ?_, ?_, ?_, ?_⟩ <;> refine Blk.keep hb ?_ <;> (repeat' (first | (with_reducible first | assumption | refine Blk.drew ?_ | refine Blk.drewN ?_ _ | apply Blk.set | (refine Blk.new ?_; focus (first | rfl | (simp; done))) | refine Blk.alloc ?_ _ | refine Blk.other ?_ ?_ _) | exact eqL rfl | (refine neB ?_; omega)))
    have ca := Ba.cell
    have fa := Ba.free
    have la_W3 := Ba.lt
    have cb := Bb.cell
    have fb := Bb.free
    have lb_W3 := Bb.lt
    have cr := Br.cell
    have fr := Br.free
    have lr_W3 := Br.lt
    have ct := Bt.cell
    have ft := Bt.free
    have lt_W3 := Bt.lt
    have cc := Bc.cell
    have fc := Bc.free
    have lc_W3 := Bc.lt
    have cm := Bm.cell
    have fm := Bm.free
    have lm_W3 := Bm.lt
    have kaW3 : Acc w W3 := by
      refine Acc.call ?_ hb
      (repeat' (first | (with_reducible first | assumption | exact Acc.refl _ | refine Acc.drew ?_ | refine Acc.drewN ?_ _ | refine Acc.alloc ?_ _ | refine Acc.setCell ?_ ?_ _) | (refine leB ?_; omega)))
    clear hb
    cases km with
    | false =>
      obtain rfl : o = none := HE.out.symm.trans (by unfold refM; rw [E1.out (by first | rfl | trivial), Option.bind_some]; show (lT (t1, t2, t3) (c1, c2, c3)).bind _ = _; rw [show lT (t1, t2, t3) (c1, c2, c3) = none from none_of Dm.out]; rfl)
      go_wp2_with fail
      refine bodyPost_ret (v := .tuple #[.agg #[.int .i64 0, .int .i64 0, .int .i64 0], .bool false]) (by simp [results, Tryz.results12, go_sem, *]) rfl ⟨rfl, ?_⟩
      show Acc w _
      (repeat' (first | (with_reducible first | assumption | exact Acc.refl _ | refine Acc.drew ?_ | refine Acc.drewN ?_ _ | refine Acc.alloc ?_ _ | refine Acc.setCell ?_ ?_ _) | (refine leB ?_; omega)))
    | true =>
      cases kn with
      | false =>
        obtain rfl : o = none := HE.out.symm.trans (by unfold refM; rw [E1.out (by first | rfl | trivial), Option.bind_some]; show (lT (t1, t2, t3) (c1, c2, c3)).bind _ = _; rw [show lT (t1, t2, t3) (c1, c2, c3) = some (m1, m2, m3) from some_of Cm.out Dm.out, Option.bind_some]; show (sT (t1, t2, t3) (c1, c2, c3)).bind _ = _; rw [show sT (t1, t2, t3) (c1, c2, c3) = none from none_of Dn.out]; rfl)
        go_wp2_with fail
        refine bodyPost_ret (v := .tuple #[.agg #[.int .i64 0, .int .i64 0, .int .i64 0], .bool false]) (by simp [results, Tryz.results12, go_sem, *]) rfl ⟨rfl, ?_⟩
        show Acc w _
        (repeat' (first | (with_reducible first | assumption | exact Acc.refl _ | refine Acc.drew ?_ | refine Acc.drewN ?_ _ | refine Acc.alloc ?_ _ | refine Acc.setCell ?_ ?_ _) | (refine leB ?_; omega)))
      | true =>
        obtain rfl : overF m1 m2 m3 n1 n2 n3 = o := Eq.trans (Eq.symm (by unfold refM; rw [E1.out (by first | rfl | trivial), Option.bind_some]; show (lT (t1, t2, t3) (c1, c2, c3)).bind _ = _; rw [show lT (t1, t2, t3) (c1, c2, c3) = some (m1, m2, m3) from some_of Cm.out Dm.out, Option.bind_some]; show (sT (t1, t2, t3) (c1, c2, c3)).bind _ = _; rw [show sT (t1, t2, t3) (c1, c2, c3) = some (n1, n2, n3) from some_of Cn.out Dn.out, Option.bind_some]; rfl)) HE.out
        clear HE
        go_wp2_with fail
        refine (gave_any Cl.out Dl.out (specOver_any m1 m2 m3 n1 n2 n3 _)).mono ?_
        rintro e W4 ⟨rfl, hb⟩
        obtain ⟨Ba, Bb, Br, Bt, Bc, Bm, Bn⟩ : Blk W4 (w.heap.size) [.int .i64 x1, .int .i64 x2, .int .i64 x3] ∧ Blk W4 (w.heap.size + 1) [.int .i64 y1, .int .i64 y2, .int .i64 y3] ∧ Blk W4 (w.heap.size + 1 + 1) [.int .i64 0, .int .i64 0, .int .i64 0] ∧ Blk W4 (W1.heap.size) [.int .i64 t1, .int .i64 t2, .int .i64 t3] ∧ Blk W4 (W1.heap.size + 1) [.int .i64 c1, .int .i64 c2, .int .i64 c3] ∧ Blk W4 (W2.heap.size) [.int .i64 m1, .int .i64 m2, .int .i64 m3] ∧ Blk W4 (W3.heap.size) [.int .i64 n1, .int .i64 n2, .int .i64 n3] := by
          refine ⟨?_, ?_, ?_, ?_, ?_, ?_, ?_⟩ <;> refine Blk.keep hb ?_ <;> (repeat' (first | (with_reducible first | assumption | refine Blk.drew ?_ | refine Blk.drewN ?_ _ | apply Blk.set | (refine Blk.new ?_; focus (first | rfl | (simp; done))) | refine Blk.alloc ?_ _ | refine Blk.other ?_ ?_ _) | exact eqL rfl | (refine neB ?_; omega)))
        have ca := Ba.cell
        have fa := Ba.free
        have la_W4 := Ba.lt
        have cb := Bb.cell
        have fb := Bb.free
        have lb_W4 := Bb.lt
        have cr := Br.cell
        have fr := Br.free
        have lr_W4 := Br.lt
        have ct := Bt.cell
        have ft := Bt.free
        have lt_W4 := Bt.lt
        have cc := Bc.cell
        have fc := Bc.free
        have lc_W4 := Bc.lt
        have cm := Bm.cell
        have fm := Bm.free
        have lm_W4 := Bm.lt
        have cn := Bn.cell
        have fn := Bn.free
        have ln_W4 := Bn.lt
        have kaW4 : Acc w W4 := by
          refine Acc.call ?_ hb
          (repeat' (first | (with_reducible first | assumption | exact Acc.refl _ | refine Acc.drew ?_ | refine Acc.drewN ?_ _ | refine Acc.alloc ?_ _ | refine Acc.setCell ?_ ?_ _) | (refine leB ?_; omega)))
        clear hb
        go_wp2_with fail
        refine bodyPost_ret (v := .tuple #[.agg #[.int .i64 l1, .int .i64 l2, .int .i64 l3], .bool kl]) (by simp [results, Tryz.results12, go_sem, *]) rfl ⟨by rw [resV_eq, Cl.out, Dl.out], ?_⟩
        show Acc w _
        (repeat' (first | (with_reducible first | assumption | exact Acc.refl _ | refine Acc.drew ?_ | refine Acc.drewN ?_ _ | refine Acc.alloc ?_ _ | refine Acc.setCell ?_ ?_ _) | (refine leB ?_; omega)))
set_option maxRecDepth 100000 in
set_option maxHeartbeats 16000000 in
theorem specFlPas_any (a : Option Addr) (ls : List L4) (cap : Nat) (x1 x2 x3 y1 y2 y3 : Int) (w : World) (h : Lys w a ls) (hn : ls.length ≤ 1048576) : Calls Tryz.prog 13 #[.slice a ls.length cap, .agg #[.int .i64 x1, .int .i64 x2, .int .i64 x3], .agg #[.int .i64 y1, .int .i64 y2, .int .i64 y3]] w (Gave (pasM ls (x1, x2, x3) (y1, y2, y3)) w) := by
  have TE := Lib.hid fun (W : World) (ka : Acc w W) => specEnds_any a ls cap x1 x2 x3 y1 y2 y3 W (h.keep ka) hn
  clear h
  obtain ⟨o, E⟩ : ∃ o, pasM ls (x1, x2, x3) (y1, y2, y3) = o := ⟨_, rfl⟩
  rw [E]
  have HE := Lib.hid E
  clear E
  go_enter Tryz.func13, Tryz.ntmps13
  go_wp2_with fail
  refine (TE.out _ (by repeat' (first | (with_reducible first | assumption | exact Acc.refl _ | refine Acc.drew ?_ | refine Acc.drewN ?_ _ | refine Acc.alloc ?_ _ | refine Acc.setCell ?_ ?_ _) | (refine leB ?_; omega)))).mono ?_
  rintro e W1 ⟨t1, t2, t3, c1, c2, c3, ke, rfl, e1', e2', hb⟩
  have E1 := Lib.hid e1'
  have E2 := Lib.hid e2'
  clear e1' e2'
  obtain ⟨Ba, Bb, Br⟩ : Blk W1 (w.heap.size) [.int .i64 x1, .int .i64 x2, .int .i64 x3] ∧ Blk W1 (w.heap.size + 1) [.int .i64 y1, .int .i64 y2, .int .i64 y3] ∧ Blk W1 (w.heap.size + 1 + 1) [.int .i64 0, .int .i64 0, .int .i64 0] := by
    refine ⟨?_, ?_, ?_⟩ <;> refine Blk.keep hb ?_ <;> (repeat' (first | (with_reducible first | assumption | refine Blk.drew ?_ | refine Blk.drewN ?_ _ | apply Blk.set | (refine Blk.new ?_; focus (first | rfl | (simp; done))) | refine Blk.alloc ?_ _ | refine Blk.other ?_ ?_ _) | exact eqL rfl | (refine neB ?_; omega)))
  have ca := Ba.cell
  have fa := Ba.free
  have la_W1 := Ba.lt
  have cb := Bb.cell
  have fb := Bb.free
  have lb_W1 := Bb.lt
  have cr := Br.cell
  have fr := Br.free
  have lr_W1 := Br.lt
  have kaW1 : Acc w W1 := by
    refine Acc.call ?_ hb
    (repeat' (first | (with_reducible first | assumption | exact Acc.refl _ | refine Acc.drew ?_ | refine Acc.drewN ?_ _ | refine Acc.alloc ?_ _ | refine Acc.setCell ?_ ?_ _) | (refine leB ?_; omega)))
  clear hb
  cases ke with
  | false =>
    obtain rfl : o = none := HE.out.symm.trans (by unfold pasM; rw [E2.out (by first | rfl | trivial)]; rfl)
    go_wp2_with fail
    refine bodyPost_ret (v := .tuple #[.agg #[.int .i64 0, .int .i64 0, .int .i64 0], .bool false]) (by simp [results, Tryz.results13, go_sem, *]) rfl ⟨rfl, ?_⟩
    show Acc w _
    (repeat' (first | (with_reducible first | assumption | exact Acc.refl _ | refine Acc.drew ?_ | refine Acc.drewN ?_ _ | refine Acc.alloc ?_ _ | refine Acc.setCell ?_ ?_ _) | (refine leB ?_; omega)))
  | true =>
    obtain ⟨⟨m1, m2, m3⟩, hv⟩ : ∃ o, partsR (addF x1 x2 x3 x1 x2 x3) = o := ⟨_, rfl⟩
    obtain ⟨km, hk⟩ : ∃ k, okR (addF x1 x2 x3 x1 x2 x3) = k := ⟨_, rfl⟩
    have Cm := Lib.hid hv
    have Dm := Lib.hid hk
    clear hv hk
    obtain ⟨⟨n1, n2, n3⟩, hv⟩ : ∃ o, partsR (addF t1 t2 t3 c1 c2 c3) = o := ⟨_, rfl⟩
    obtain ⟨kn, hk⟩ : ∃ k, okR (addF t1 t2 t3 c1 c2 c3) = k := ⟨_, rfl⟩
    have Cn := Lib.hid hv
    have Dn := Lib.hid hk
    clear hv hk
    obtain ⟨⟨l1, l2, l3⟩, hv⟩ : ∃ o, partsR (overF m1 m2 m3 n1 n2 n3) = o := ⟨_, rfl⟩
    obtain ⟨kl, hk⟩ : ∃ k, okR (overF m1 m2 m3 n1 n2 n3) = k := ⟨_, rfl⟩
    have Cl := Lib.hid hv
    have Dl := Lib.hid hk
    clear hv hk
    go_wp2_with fail
    refine (gave_any Cm.out Dm.out (specAdd_any x1 x2 x3 x1 x2 x3 _)).mono ?_
    rintro e W2 ⟨rfl, hb⟩
    obtain ⟨Ba, Bb, Br, Bt, Bc⟩ : Blk W2 (w.heap.size) [.int .i64 x1, .int .i64 x2, .int .i64 x3] ∧ Blk W2 (w.heap.size + 1) [.int .i64 y1, .int .i64 y2, .int .i64 y3] ∧ Blk W2 (w.heap.size + 1 + 1) [.int .i64 0, .int .i64 0, .int .i64 0] ∧ Blk W2 (W1.heap.size) [.int .i64 t1, .int .i64 t2, .int .i64 t3] ∧ Blk W2 (W1.heap.size + 1) [.int .i64 c1, .int .i64 c2, .int .i64 c3] := by
      refine ⟨?_, ?_, ?_, ?_, ?_⟩ <;> refine Blk.keep hb ?_ <;> (repeat' (first | (with_reducible first | assumption | refine Blk.drew ?_ | refine Blk.drewN ?_ _ | apply Blk.set | (refine Blk.new ?_; focus (first | rfl | (simp; done))) | refine Blk.alloc ?_ _ | refine Blk.other ?_ ?_ _) | exact eqL rfl | (refine neB ?_; omega)))
    have ca := Ba.cell
    have fa := Ba.free
    have la_W2 := Ba.lt
    have cb := Bb.cell
    have fb := Bb.free
    have lb_W2 := Bb.lt
    have cr := Br.cell
    have fr := Br.free
    have lr_W2 := Br.lt
    have ct := Bt.cell
    have ft := Bt.free
    have lt_W2 := Bt.lt
    have cc := Bc.cell
    have fc := Bc.free
    have lc_W2 := Bc.lt
    have kaW2 : Acc w W2 := by
      refine Acc.call ?_ hb
      (repeat' (first | (with_reducible first | assumption | exact Acc.refl _ | refine Acc.drew ?_ | refine Acc.drewN ?_ _ | refine Acc.alloc ?_ _ | refine Acc.setCell ?_ ?_ _) | (refine leB ?_; omega)))
    clear hb
    go_wp2_with fail
    refine (gave_any Cn.out Dn.out (specAdd_any t1 t2 t3 c1 c2 c3 _)).mono ?_
    rintro e W3 ⟨rfl, hb⟩
    obtain ⟨Ba, Bb, Br, Bt, Bc, Bm⟩ : Blk W3 (w.heap.size) [.int .i64 x1, .int .i64 x2, .int .i64 x3] ∧ Blk W3 (w.heap.size + 1) [.int .i64 y1, .int .i64 y2, .int .i64 y3] ∧ Blk W3 (w.heap.size + 1 + 1) [.int .i64 0, .int .i64 0, .int .i64 0] ∧ Blk W3 (W1.heap.size) [.int .i64 t1, .int .i64 t2, .int .i64 t3] ∧ Blk W3 (W1.heap.size + 1) [.int .i64 c1, .int .i64 c2, .int .i64 c3] ∧ Blk W3 (W2.heap.size) [.int .i64 m1, .int .i64 m2, .int .i64 m3] := by
      refine ⟨?_, ?_, ?_, ?_, ?_, ?_⟩ <;> refine Blk.keep hb ?_ <;> (repeat' (first | (with_reducible first | assumption | refine Blk.drew ?_ | refine Blk.drewN ?_ _ | apply Blk.set | (refine Blk.new ?_; focus (first | rfl | (simp; done))) | refine Blk.alloc ?_ _ | refine Blk.other ?_ ?_ _) | exact eqL rfl | (refine neB ?_; omega)))
    have ca := Ba.cell
    have fa := Ba.free
    have la_W3 := Ba.lt
    have cb := Bb.cell
    have fb := Bb.free
    have lb_W3 := Bb.lt
    have cr := Br.cell
    have fr := Br.free
    have lr_W3 := Br.lt
    have ct := Bt.cell
    have ft := Bt.free
    have lt_W3 := Bt.lt
    have cc := Bc.cell
    have fc := Bc.free
    have lc_W3 := Bc.lt
    have cm := Bm.cell
    have fm := Bm.free
    have lm_W3 := Bm.lt
    have kaW3 : Acc w W3 := by
      refine Acc.call ?_ hb
      (repeat' (first | (with_reducible first | assumption | exact Acc.refl _ | refine Acc.drew ?_ | refine Acc.drewN ?_ _ | refine Acc.alloc ?_ _ | refine Acc.setCell ?_ ?_ _) | (refine leB ?_; omega)))
    clear hb
    cases km with
    | false =>
      obtain rfl : o = none := HE.out.symm.trans (by unfold pasM; rw [E1.out (by first | rfl | trivial), Option.bind_some]; show (sT (x1, x2, x3) (x1, x2, x3)).bind _ = _; rw [show sT (x1, x2, x3) (x1, x2, x3) = none from none_of Dm.out]; rfl)
      go_wp2_with fail
      refine bodyPost_ret (v := .tuple #[.agg #[.int .i64 0, .int .i64 0, .int .i64 0], .bool false]) (by simp [results, Tryz.results13, go_sem, *]) rfl ⟨rfl, ?_⟩
      show Acc w _
      (repeat' (first | (with_reducible first | assumption | exact Acc.refl _ | refine Acc.drew ?_ | refine Acc.drewN ?_ _ | refine Acc.alloc ?_ _ | refine Acc.setCell ?_ ?_ _) | (refine leB ?_; omega)))
    | true =>
      cases kn with
      | false =>
        obtain rfl : o = none := HE.out.symm.trans (by unfold pasM; rw [E1.out (by first | rfl | trivial), Option.bind_some]; show (sT (x1, x2, x3) (x1, x2, x3)).bind _ = _; rw [show sT (x1, x2, x3) (x1, x2, x3) = some (m1, m2, m3) from some_of Cm.out Dm.out, Option.bind_some]; show (sT (t1, t2, t3) (c1, c2, c3)).bind _ = _; rw [show sT (t1, t2, t3) (c1, c2, c3) = none from none_of Dn.out]; rfl)
        go_wp2_with fail
        refine bodyPost_ret (v := .tuple #[.agg #[.int .i64 0, .int .i64 0, .int .i64 0], .bool false]) (by simp [results, Tryz.results13, go_sem, *]) rfl ⟨rfl, ?_⟩
        show Acc w _
        (repeat' (first | (with_reducible first | assumption | exact Acc.refl _ | refine Acc.drew ?_ | refine Acc.drewN ?_ _ | refine Acc.alloc ?_ _ | refine Acc.setCell ?_ ?_ _) | (refine leB ?_; omega)))
      | true =>
        obtain rfl : overF m1 m2 m3 n1 n2 n3 = o := Eq.trans (Eq.symm (by unfold pasM; rw [E1.out (by first | rfl | trivial), Option.bind_some]; show (sT (x1, x2, x3) (x1, x2, x3)).bind _ = _; rw [show sT (x1, x2, x3) (x1, x2, x3) = some (m1, m2, m3) from some_of Cm.out Dm.out, Option.bind_some]; show (sT (t1, t2, t3) (c1, c2, c3)).bind _ = _; rw [show sT (t1, t2, t3) (c1, c2, c3) = some (n1, n2, n3) from some_of Cn.out Dn.out, Option.bind_some]; rfl)) HE.out
        clear HE
        go_wp2_with fail
        refine (gave_any Cl.out Dl.out (specOver_any m1 m2 m3 n1 n2 n3 _)).mono ?_
        rintro e W4 ⟨rfl, hb⟩
        obtain ⟨Ba, Bb, Br, Bt, Bc, Bm, Bn⟩ : Blk W4 (w.heap.size) [.int .i64 x1, .int .i64 x2, .int .i64 x3] ∧ Blk W4 (w.heap.size + 1) [.int .i64 y1, .int .i64 y2, .int .i64 y3] ∧ Blk W4 (w.heap.size + 1 + 1) [.int .i64 0, .int .i64 0, .int .i64 0] ∧ Blk W4 (W1.heap.size) [.int .i64 t1, .int .i64 t2, .int .i64 t3] ∧ Blk W4 (W1.heap.size + 1) [.int .i64 c1, .int .i64 c2, .int .i64 c3] ∧ Blk W4 (W2.heap.size) [.int .i64 m1, .int .i64 m2, .int .i64 m3] ∧ Blk W4 (W3.heap.size) [.int .i64 n1, .int .i64 n2, .int .i64 n3] := by
          refine ⟨?_, ?_, ?_, ?_, ?_, ?_, ?_⟩ <;> refine Blk.keep hb ?_ <;> (repeat' (first | (with_reducible first | assumption | refine Blk.drew ?_ | refine Blk.drewN ?_ _ | apply Blk.set | (refine Blk.new ?_; focus (first | rfl | (simp; done))) | refine Blk.alloc ?_ _ | refine Blk.other ?_ ?_ _) | exact eqL rfl | (refine neB ?_; omega)))
        have ca := Ba.cell
        have fa := Ba.free
        have la_W4 := Ba.lt
        have cb := Bb.cell
        have fb := Bb.free
        have lb_W4 := Bb.lt
        have cr := Br.cell
        have fr := Br.free
        have lr_W4 := Br.lt
        have ct := Bt.cell
        have ft := Bt.free
        have lt_W4 := Bt.lt
        have cc := Bc.cell
        have fc := Bc.free
        have lc_W4 := Bc.lt
        have cm := Bm.cell
        have fm := Bm.free
        have lm_W4 := Bm.lt
        have cn := Bn.cell
        have fn := Bn.free
        have ln_W4 := Bn.lt
        have kaW4 : Acc w W4 := by
          refine Acc.call ?_ hb
          (repeat' (first | (with_reducible first | assumption | exact Acc.refl _ | refine Acc.drew ?_ | refine Acc.drewN ?_ _ | refine Acc.alloc ?_ _ | refine Acc.setCell ?_ ?_ _) | (refine leB ?_; omega)))
        clear hb
        go_wp2_with fail
        refine bodyPost_ret (v := .tuple #[.agg #[.int .i64 l1, .int .i64 l2, .int .i64 l3], .bool kl]) (by simp [results, Tryz.results13, go_sem, *]) rfl ⟨by rw [resV_eq, Cl.out, Dl.out], ?_⟩
        show Acc w _
        (repeat' (first | (with_reducible first | assumption | exact Acc.refl _ | refine Acc.drew ?_ | refine Acc.drewN ?_ _ | refine Acc.alloc ?_ _ | refine Acc.setCell ?_ ?_ _) | (refine leB ?_; omega)))
end Go.Proofs.YtpgklllgmfaekaaGreatDoor
