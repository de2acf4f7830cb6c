/-
  The program: FibreOrder.
-/
import Derived.Test.YtkiggkmbgkonmaaGreatDoorImplG6
import Derived.Test.YtkiggkmbgkonmaaGreatDoorSecMath2
import Derived.Test.YtkiggkmbgkonmaaGreatDoorImplM5
import Derived.Test.YtkiggkmbgkonmaaGreatDoorSpecG5
namespace Go.Proofs.YtkiggkmbgkonmaaGreatDoor
open Go.ChangeShapes Go.WideShapes Go.ChangeAt Go.RowKit
set_option linter.unusedVariables false

set_option linter.unusedSimpArgs false
theorem alkO {X Y : F4} : ∃ o : Option Bool, alkM X Y = o.getD false ∧ ∀ (hX : okM X = true) (hY : okM Y = true) (w : World), Calls Tryz.prog 67 #[.agg #[.int .i64 X.1.1, .int .i64 X.1.2.1, .int .i64 X.1.2.2, .int .i64 X.2.1.1, .int .i64 X.2.1.2.1, .int .i64 X.2.1.2.2, .int .i64 X.2.2.1.1, .int .i64 X.2.2.1.2.1, .int .i64 X.2.2.1.2.2, .int .i64 X.2.2.2.1, .int .i64 X.2.2.2.2.1, .int .i64 X.2.2.2.2.2], .agg #[.int .i64 Y.1.1, .int .i64 Y.1.2.1, .int .i64 Y.1.2.2, .int .i64 Y.2.1.1, .int .i64 Y.2.1.2.1, .int .i64 Y.2.1.2.2, .int .i64 Y.2.2.1.1, .int .i64 Y.2.2.1.2.1, .int .i64 Y.2.2.1.2.2, .int .i64 Y.2.2.2.1, .int .i64 Y.2.2.2.2.1, .int .i64 Y.2.2.2.2.2]] w (ErredB o w) := by
  obtain ⟨⟨a1, a2, a3⟩, ⟨a4, a5, a6⟩, ⟨a7, a8, a9⟩, a10, a11, a12⟩ := X
  obtain ⟨⟨b1, b2, b3⟩, ⟨b4, b5, b6⟩, ⟨b7, b8, b9⟩, b10, b11, b12⟩ := Y
  refine ⟨_, alk_prog a1 a2 a3 a4 a5 a6 a7 a8 a9 a10 a11 a12 b1 b2 b3 b4 b5 b6 b7 b8 b9 b10 b11 b12, fun hX hY w => ?_⟩
  obtain ⟨ha1, ha2, ha3, ha4, ha5, ha6, ha7, ha8, ha9, ha10, ha11, ha12⟩ := i64N_of hX
  obtain ⟨hb1, hb2, hb3, hb4, hb5, hb6, hb7, hb8, hb9, hb10, hb11, hb12⟩ := i64N_of hY
  exact mxalike_any a1 a2 a3 a4 a5 a6 a7 a8 a9 a10 a11 a12 b1 b2 b3 b4 b5 b6 b7 b8 b9 b10 b11 b12 ha1 ha2 ha3 ha4 ha5 ha6 ha7 ha8 ha9 ha10 ha11 ha12 hb1 hb2 hb3 hb4 hb5 hb6 hb7 hb8 hb9 hb10 hb11 hb12 w
def ErredNo (o : Option Int) (w : World) (e : Ending) (w' : World) : Prop :=
  (∀ n, o = some n → e = .returned (.tuple #[.int .i64 n, .nilIface])) ∧ (o = none → ∃ s, e = .returned (.tuple #[.int .i64 0, .iface 121 (.agg #[.string s])])) ∧ Below w.heap.size w w'
set_option maxRecDepth 100000 in
set_option maxHeartbeats 16000000 in
theorem fbOrder_any (n₀ : Nat) (rs : List L4) (p : Option Addr) (w : World) (hf : Fib n₀ w.heap.size w p rs) (hok : ∀ s ∈ rs, okS s = true) (hl : Laid w) : Calls Tryz.prog 43 #[.pointer p] w (ErredNo ((fbF rs.reverse (some oneM)).bind fun m => some (ordG m 24 m)) w) := by
  have HL := Lib.hid fun W (k : Acc w W) => hl.acc k
  clear hl
  have T := Lib.hid fun (W : World) (k : Acc w W) => fbMatrix_any n₀ rs p W (hf.keep k) hok
  clear hf hok
  cases ho : fbF rs.reverse (some oneM) with
  | none =>
    have D := Lib.hid fun W k => (T.out W k).mono fun e w' h => And.intro (h.2.1 ho) h.2.2
    clear ho T
    show Calls _ _ _ _ (ErredNo none w)
    go_enter Tryz.func43, Tryz.ntmps43
    go_wp2_with fail
    refine (D.out _ (by repeat' (first | (with_reducible first | assumption | exact Acc.refl _ | refine Acc.drew ?_ | refine Acc.drewN ?_ _ | refine Acc.alloc ?_ _ | refine Acc.setCell ?_ ?_ _) | (refine leB ?_; omega)))).mono ?_
    rintro e W1 ⟨⟨s, rfl⟩, hb⟩
    have kaW1 : Acc w W1 := by
      refine Acc.call ?_ hb
      (repeat' (first | (with_reducible first | assumption | exact Acc.refl _ | refine Acc.drew ?_ | refine Acc.drewN ?_ _ | refine Acc.alloc ?_ _ | refine Acc.setCell ?_ ?_ _) | (refine leB ?_; omega)))
    clear hb
    go_wp2_with fail
    refine bodyPost_ret (by conv => lhs; simp [results, Tryz.results43, go_sem, *]) rfl ⟨fun _ h => (by cases h), fun _ => ⟨_, rfl⟩, ?_⟩
    show Acc w _
    (repeat' (first | (with_reducible first | assumption | exact Acc.refl _ | refine Acc.drew ?_ | refine Acc.drewN ?_ _ | refine Acc.alloc ?_ _ | refine Acc.setCell ?_ ?_ _) | (refine leB ?_; omega)))
  | some v =>
    obtain ⟨⟨a1, a2, a3⟩, ⟨a4, a5, a6⟩, ⟨a7, a8, a9⟩, a10, a11, a12⟩ := v
    have D := Lib.hid fun W k => (T.out W k).mono fun e w' h => And.intro (h.1 _ _ _ _ _ _ _ _ _ _ _ _ ho) h.2.2
    have OA := Lib.hid (fbF_ok ho)
    clear ho T
    show Calls _ _ _ _ (ErredNo (some (ordG ((a1, a2, a3), (a4, a5, a6), (a7, a8, a9), (a10, a11, a12)) 24 ((a1, a2, a3), (a4, a5, a6), (a7, a8, a9), (a10, a11, a12)))) w)
    obtain ⟨n, hn'⟩ : ∃ n, ordG ((a1, a2, a3), (a4, a5, a6), (a7, a8, a9), (a10, a11, a12)) 24 ((a1, a2, a3), (a4, a5, a6), (a7, a8, a9), (a10, a11, a12)) = n := ⟨_, rfl⟩
    have HN := Lib.hid hn'
    rw [hn']
    clear hn'
    go_enter Tryz.func43, Tryz.ntmps43
    go_wp2_with fail
    refine (D.out _ (by repeat' (first | (with_reducible first | assumption | exact Acc.refl _ | refine Acc.drew ?_ | refine Acc.drewN ?_ _ | refine Acc.alloc ?_ _ | refine Acc.setCell ?_ ?_ _) | (refine leB ?_; omega)))).mono ?_
    rintro e W1 ⟨rfl, hb⟩
    have kaW1 : Acc w W1 := by
      refine Acc.call ?_ hb
      (repeat' (first | (with_reducible first | assumption | exact Acc.refl _ | refine Acc.drew ?_ | refine Acc.drewN ?_ _ | refine Acc.alloc ?_ _ | refine Acc.setCell ?_ ?_ _) | (refine leB ?_; omega)))
    clear hb
    go_wp2_with fail
    have kas : w.heap.size ≤ W1.heap.size := kaW1.size
    go_loopw [7] (fun i wr => ∃ (j k : Nat) (X : F4), j + k = 24 ∧ i = .int .i64 ((j : Int) + 1) ∧ Acc w wr ∧ Blk wr (W1.heap.size) [.int .i64 a1, .int .i64 a2, .int .i64 a3, .int .i64 a4, .int .i64 a5, .int .i64 a6, .int .i64 a7, .int .i64 a8, .int .i64 a9, .int .i64 a10, .int .i64 a11, .int .i64 a12] ∧ Blk wr (W1.heap.size + 1) [.int .i64 X.1.1, .int .i64 X.1.2.1, .int .i64 X.1.2.2, .int .i64 X.2.1.1, .int .i64 X.2.1.2.1, .int .i64 X.2.1.2.2, .int .i64 X.2.2.1.1, .int .i64 X.2.2.1.2.1, .int .i64 X.2.2.1.2.2, .int .i64 X.2.2.2.1, .int .i64 X.2.2.2.2.1, .int .i64 X.2.2.2.2.2] ∧ okM X = true ∧ ordG ((a1, a2, a3), (a4, a5, a6), (a7, a8, a9), (a10, a11, a12)) k X = n) (fun i _ => 25 - (intOf i).toNat)
    case atStart => exact ⟨0, 24, ((a1, a2, a3), (a4, a5, a6), (a7, a8, a9), (a10, a11, a12)), rfl, rfl, (by show Acc w _; repeat' (first | (with_reducible first | assumption | exact Acc.refl _ | refine Acc.drew ?_ | refine Acc.drewN ?_ _ | refine Acc.alloc ?_ _ | refine Acc.setCell ?_ ?_ _) | (refine leB ?_; omega))), (by repeat' (first | (with_reducible first | assumption | refine Blk.drew ?_ | refine Blk.drewN ?_ _ | apply Blk.set | (refine Blk.new ?_; focus (first | rfl | (simp; done))) | refine Blk.alloc ?_ _ | refine Blk.other ?_ ?_ _) | exact eqL rfl | (refine neB ?_; omega))), (by repeat' (first | (with_reducible first | assumption | refine Blk.drew ?_ | refine Blk.drewN ?_ _ | apply Blk.set | (refine Blk.new ?_; focus (first | rfl | (simp; done))) | refine Blk.alloc ?_ _ | refine Blk.other ?_ ?_ _) | exact eqL rfl | (refine neB ?_; omega))), OA.out, HN.out⟩
    case round =>
      obtain ⟨j, k, X, hjk, rfl, ka, Bm, Bp, hX, hx⟩ := hrel
      have HX := Lib.hid hx
      have OX := Lib.hid hX
      clear hx hX
      obtain ⟨oa, ha, hc⟩ := alkO (X := X) (Y := oneM)
      have TA := Lib.hid fun w => hc OX.out (by decide) w
      have HA := Lib.hid ha
      clear ha hc
      obtain ⟨⟨b1, b2, b3⟩, ⟨b4, b5, b6⟩, ⟨b7, b8, b9⟩, b10, b11, b12⟩ := X
      dsimp only [oneM] at Bp TA
      have TC := Lib.hid fun w => mxT_any a1 a2 a3 a4 a5 a6 a7 a8 a9 a10 a11 a12 b1 b2 b3 b4 b5 b6 b7 b8 b9 b10 b11 b12 OA.out OX.out w
      have cm := Bm.cell
      have fm := Bm.free
      have lm_wr := Bm.lt
      have cp := Bp.cell
      have fp := Bp.free
      have lp_wr := Bp.lt
      cases k with
      | zero =>
        obtain rfl : n = 0 := HX.out.symm.trans (ordG_zero _ _)
        obtain rfl : j = 24 := by omega
        go_wp2_with fail
        refine bodyPost_ret (by conv => lhs; simp [results, Tryz.results43, go_sem, *]) rfl ⟨fun _ h => (by cases h; rfl), fun h => (by cases h), ?_⟩
        show Acc w _
        (repeat' (first | (with_reducible first | assumption | exact Acc.refl _ | refine Acc.drew ?_ | refine Acc.drewN ?_ _ | refine Acc.alloc ?_ _ | refine Acc.setCell ?_ ?_ _) | (refine leB ?_; omega)))
      | succ k =>
        have hj0 : ¬ (24 : Int) < (j : Int) + 1 := by omega
        have hj1 : (j : Int) + 1 ≤ 24 := by omega
        cases oa with
        | none =>
          have HA : RowKit.Hid (_ = false) := Lib.hid HA.out
          have E := Lib.hid fun w => (TA.out w).mono fun e w' h => And.intro (h.2.1 rfl) h.2.2
          clear TA
          go_upto_region 8 with fail
          go_region_held3 (fun w' => (∀ k, w'.cell? ⟨W1.heap.size + 1, k, none⟩ = [.int .i64 b1, .int .i64 b2, .int .i64 b3, .int .i64 b4, .int .i64 b5, .int .i64 b6, .int .i64 b7, .int .i64 b8, .int .i64 b9, .int .i64 b10, .int .i64 b11, .int .i64 b12][k]?))
            (((try dsimp only); (refine Blk.cell ?_ <;> (repeat' (first | (with_reducible first | assumption | refine Blk.drew ?_ | refine Blk.drewN ?_ _ | apply Blk.set | (refine Blk.new ?_; focus (first | rfl | (simp; done))) | refine Blk.alloc ?_ _ | refine Blk.other ?_ ?_ _) | exact eqL rfl | (refine neB ?_; omega))))))
            (first
              | (go_at_call 59; refine (unitMx_any _).mono ?_; rintro e W7 ⟨rfl, hb⟩; have Bm : Blk W7 (W1.heap.size) [.int .i64 a1, .int .i64 a2, .int .i64 a3, .int .i64 a4, .int .i64 a5, .int .i64 a6, .int .i64 a7, .int .i64 a8, .int .i64 a9, .int .i64 a10, .int .i64 a11, .int .i64 a12] := Blk.keep hb (by repeat' (first | (with_reducible first | assumption | refine Blk.drew ?_ | refine Blk.drewN ?_ _ | apply Blk.set | (refine Blk.new ?_; focus (first | rfl | (simp; done))) | refine Blk.alloc ?_ _ | refine Blk.other ?_ ?_ _) | exact eqL rfl | (refine neB ?_; omega))); have Bp : Blk W7 (W1.heap.size + 1) [.int .i64 b1, .int .i64 b2, .int .i64 b3, .int .i64 b4, .int .i64 b5, .int .i64 b6, .int .i64 b7, .int .i64 b8, .int .i64 b9, .int .i64 b10, .int .i64 b11, .int .i64 b12] := Blk.keep hb (by repeat' (first | (with_reducible first | assumption | refine Blk.drew ?_ | refine Blk.drewN ?_ _ | apply Blk.set | (refine Blk.new ?_; focus (first | rfl | (simp; done))) | refine Blk.alloc ?_ _ | refine Blk.other ?_ ?_ _) | exact eqL rfl | (refine neB ?_; omega))); have cm := Bm.cell; have fm := Bm.free; have lm_W7 := Bm.lt; have cp := Bp.cell; have fp := Bp.free; have lp_W7 := Bp.lt; have kaW7 : Acc w W7 := (by refine Acc.call ?_ hb; (repeat' (first | (with_reducible first | assumption | exact Acc.refl _ | refine Acc.drew ?_ | refine Acc.drewN ?_ _ | refine Acc.alloc ?_ _ | refine Acc.setCell ?_ ?_ _) | (refine leB ?_; omega)))); clear hb)
              | (go_at_call 67; refine (E.out _).mono ?_; rintro e W8 ⟨⟨s, rfl⟩, hb⟩; have Bm : Blk W8 (W1.heap.size) [.int .i64 a1, .int .i64 a2, .int .i64 a3, .int .i64 a4, .int .i64 a5, .int .i64 a6, .int .i64 a7, .int .i64 a8, .int .i64 a9, .int .i64 a10, .int .i64 a11, .int .i64 a12] := Blk.keep hb (by repeat' (first | (with_reducible first | assumption | refine Blk.drew ?_ | refine Blk.drewN ?_ _ | apply Blk.set | (refine Blk.new ?_; focus (first | rfl | (simp; done))) | refine Blk.alloc ?_ _ | refine Blk.other ?_ ?_ _) | exact eqL rfl | (refine neB ?_; omega))); have Bp : Blk W8 (W1.heap.size + 1) [.int .i64 b1, .int .i64 b2, .int .i64 b3, .int .i64 b4, .int .i64 b5, .int .i64 b6, .int .i64 b7, .int .i64 b8, .int .i64 b9, .int .i64 b10, .int .i64 b11, .int .i64 b12] := Blk.keep hb (by repeat' (first | (with_reducible first | assumption | refine Blk.drew ?_ | refine Blk.drewN ?_ _ | apply Blk.set | (refine Blk.new ?_; focus (first | rfl | (simp; done))) | refine Blk.alloc ?_ _ | refine Blk.other ?_ ?_ _) | exact eqL rfl | (refine neB ?_; omega))); have cm := Bm.cell; have fm := Bm.free; have lm_W8 := Bm.lt; have cp := Bp.cell; have fp := Bp.free; have lp_W8 := Bp.lt; have kaW8 : Acc w W8 := (by refine Acc.call ?_ hb; (repeat' (first | (with_reducible first | assumption | exact Acc.refl _ | refine Acc.drew ?_ | refine Acc.drewN ?_ _ | refine Acc.alloc ?_ _ | refine Acc.setCell ?_ ?_ _) | (refine leB ?_; omega)))); clear hb)
              | (go_at_call 46; refine (holds_err _ s _ (HL.out _ (by repeat' (first | (with_reducible first | assumption | exact Acc.refl _ | refine Acc.drew ?_ | refine Acc.drewN ?_ _ | refine Acc.alloc ?_ _ | refine Acc.setCell ?_ ?_ _) | (refine leB ?_; omega))))).mono ?_; rintro e W9 ⟨rfl, hb⟩; have Bm : Blk W9 (W1.heap.size) [.int .i64 a1, .int .i64 a2, .int .i64 a3, .int .i64 a4, .int .i64 a5, .int .i64 a6, .int .i64 a7, .int .i64 a8, .int .i64 a9, .int .i64 a10, .int .i64 a11, .int .i64 a12] := Blk.keep hb (by repeat' (first | (with_reducible first | assumption | refine Blk.drew ?_ | refine Blk.drewN ?_ _ | apply Blk.set | (refine Blk.new ?_; focus (first | rfl | (simp; done))) | refine Blk.alloc ?_ _ | refine Blk.other ?_ ?_ _) | exact eqL rfl | (refine neB ?_; omega))); have Bp : Blk W9 (W1.heap.size + 1) [.int .i64 b1, .int .i64 b2, .int .i64 b3, .int .i64 b4, .int .i64 b5, .int .i64 b6, .int .i64 b7, .int .i64 b8, .int .i64 b9, .int .i64 b10, .int .i64 b11, .int .i64 b12] := Blk.keep hb (by repeat' (first | (with_reducible first | assumption | refine Blk.drew ?_ | refine Blk.drewN ?_ _ | apply Blk.set | (refine Blk.new ?_; focus (first | rfl | (simp; done))) | refine Blk.alloc ?_ _ | refine Blk.other ?_ ?_ _) | exact eqL rfl | (refine neB ?_; omega))); have cm := Bm.cell; have fm := Bm.free; have lm_W9 := Bm.lt; have cp := Bp.cell; have fp := Bp.free; have lp_W9 := Bp.lt; have kaW9 : Acc w W9 := (by refine Acc.call ?_ hb; (repeat' (first | (with_reducible first | assumption | exact Acc.refl _ | refine Acc.drew ?_ | refine Acc.drewN ?_ _ | refine Acc.alloc ?_ _ | refine Acc.setCell ?_ ?_ _) | (refine leB ?_; omega)))); clear hb))
          all_goals
            go_wp2_with fail
            refine (TC.out _).mono ?_
            rintro e W10 ⟨h1, h2, hb⟩
            have Bm : Blk W10 (W1.heap.size) [.int .i64 a1, .int .i64 a2, .int .i64 a3, .int .i64 a4, .int .i64 a5, .int .i64 a6, .int .i64 a7, .int .i64 a8, .int .i64 a9, .int .i64 a10, .int .i64 a11, .int .i64 a12] := Blk.keep hb (by repeat' (first | (with_reducible first | assumption | refine Blk.drew ?_ | refine Blk.drewN ?_ _ | apply Blk.set | (refine Blk.new ?_; focus (first | rfl | (simp; done))) | refine Blk.alloc ?_ _ | refine Blk.other ?_ ?_ _) | exact eqL rfl | (refine neB ?_; omega)))
            have Bp : Blk W10 (W1.heap.size + 1) [.int .i64 b1, .int .i64 b2, .int .i64 b3, .int .i64 b4, .int .i64 b5, .int .i64 b6, .int .i64 b7, .int .i64 b8, .int .i64 b9, .int .i64 b10, .int .i64 b11, .int .i64 b12] := Blk.keep hb (by repeat' (first | (with_reducible first | assumption | refine Blk.drew ?_ | refine Blk.drewN ?_ _ | apply Blk.set | (refine Blk.new ?_; focus (first | rfl | (simp; done))) | refine Blk.alloc ?_ _ | refine Blk.other ?_ ?_ _) | exact eqL rfl | (refine neB ?_; omega)))
            have cm := Bm.cell
            have fm := Bm.free
            have lm_W10 := Bm.lt
            have cp := Bp.cell
            have fp := Bp.free
            have lp_W10 := Bp.lt
            have kaW10 : Acc w W10 := by
              refine Acc.call ?_ hb
              (repeat' (first | (with_reducible first | assumption | exact Acc.refl _ | refine Acc.drew ?_ | refine Acc.drewN ?_ _ | refine Acc.alloc ?_ _ | refine Acc.setCell ?_ ?_ _) | (refine leB ?_; omega)))
            clear hb
            cases ho : mulM ((a1, a2, a3), (a4, a5, a6), (a7, a8, a9), (a10, a11, a12)) ((b1, b2, b3), (b4, b5, b6), (b7, b8, b9), (b10, b11, b12)) with
            | none =>
              obtain ⟨s, rfl⟩ := h2 ho
              obtain rfl : n = 0 := HX.out.symm.trans (ordG_none HA.out ho)
              clear h1 h2 ho
              go_wp2_with fail
              refine bodyPost_ret (by conv => lhs; simp [results, Tryz.results43, go_sem, *]) rfl ⟨fun _ h => (by cases h; rfl), fun h => (by cases h), ?_⟩
              show Acc w _
              (repeat' (first | (with_reducible first | assumption | exact Acc.refl _ | refine Acc.drew ?_ | refine Acc.drewN ?_ _ | refine Acc.alloc ?_ _ | refine Acc.setCell ?_ ?_ _) | (refine leB ?_; omega)))
            | some v =>
              obtain ⟨⟨r1, r2, r3⟩, ⟨r4, r5, r6⟩, ⟨r7, r8, r9⟩, r10, r11, r12⟩ := v
              obtain rfl := h1 _ _ _ _ _ _ _ _ _ _ _ _ ho
              have HZ := Lib.hid ((ordG_some HA.out ho).symm.trans HX.out)
              have OC := Lib.hid (mulM_ok ho).2.2
              clear h1 h2 ho
              go_wp2_with fail
              go_roundw
              case rel => exact ⟨j + 1, k, ((r1, r2, r3), (r4, r5, r6), (r7, r8, r9), (r10, r11, r12)), by omega, by go_num, (by show Acc w _; repeat' (first | (with_reducible first | assumption | exact Acc.refl _ | refine Acc.drew ?_ | refine Acc.drewN ?_ _ | refine Acc.alloc ?_ _ | refine Acc.setCell ?_ ?_ _) | (refine leB ?_; omega))), (by repeat' (first | (with_reducible first | assumption | refine Blk.drew ?_ | refine Blk.drewN ?_ _ | apply Blk.set | (refine Blk.new ?_; focus (first | rfl | (simp; done))) | refine Blk.alloc ?_ _ | refine Blk.other ?_ ?_ _) | exact eqL rfl | (refine neB ?_; omega))), (by repeat' (first | (with_reducible first | assumption | refine Blk.drew ?_ | refine Blk.drewN ?_ _ | apply Blk.set | (refine Blk.new ?_; focus (first | rfl | (simp; done))) | refine Blk.alloc ?_ _ | refine Blk.other ?_ ?_ _) | exact eqL rfl | (refine neB ?_; omega))), OC.out, HZ.out⟩
              case measure => simp [intOf]; omega
        | some b =>
          cases b with
          | false =>
            have HA : RowKit.Hid (_ = false) := Lib.hid HA.out
            have E := Lib.hid fun w => (TA.out w).mono fun e w' h => And.intro (h.1 _ rfl) h.2.2
            clear TA
            go_upto_region 8 with fail
            go_region_held3 (fun w' => (∀ k, w'.cell? ⟨W1.heap.size + 1, k, none⟩ = [.int .i64 b1, .int .i64 b2, .int .i64 b3, .int .i64 b4, .int .i64 b5, .int .i64 b6, .int .i64 b7, .int .i64 b8, .int .i64 b9, .int .i64 b10, .int .i64 b11, .int .i64 b12][k]?))
              (((try dsimp only); (refine Blk.cell ?_ <;> (repeat' (first | (with_reducible first | assumption | refine Blk.drew ?_ | refine Blk.drewN ?_ _ | apply Blk.set | (refine Blk.new ?_; focus (first | rfl | (simp; done))) | refine Blk.alloc ?_ _ | refine Blk.other ?_ ?_ _) | exact eqL rfl | (refine neB ?_; omega))))))
              (first
                | (go_at_call 59; refine (unitMx_any _).mono ?_; rintro e W7 ⟨rfl, hb⟩; have Bm : Blk W7 (W1.heap.size) [.int .i64 a1, .int .i64 a2, .int .i64 a3, .int .i64 a4, .int .i64 a5, .int .i64 a6, .int .i64 a7, .int .i64 a8, .int .i64 a9, .int .i64 a10, .int .i64 a11, .int .i64 a12] := Blk.keep hb (by repeat' (first | (with_reducible first | assumption | refine Blk.drew ?_ | refine Blk.drewN ?_ _ | apply Blk.set | (refine Blk.new ?_; focus (first | rfl | (simp; done))) | refine Blk.alloc ?_ _ | refine Blk.other ?_ ?_ _) | exact eqL rfl | (refine neB ?_; omega))); have Bp : Blk W7 (W1.heap.size + 1) [.int .i64 b1, .int .i64 b2, .int .i64 b3, .int .i64 b4, .int .i64 b5, .int .i64 b6, .int .i64 b7, .int .i64 b8, .int .i64 b9, .int .i64 b10, .int .i64 b11, .int .i64 b12] := Blk.keep hb (by repeat' (first | (with_reducible first | assumption | refine Blk.drew ?_ | refine Blk.drewN ?_ _ | apply Blk.set | (refine Blk.new ?_; focus (first | rfl | (simp; done))) | refine Blk.alloc ?_ _ | refine Blk.other ?_ ?_ _) | exact eqL rfl | (refine neB ?_; omega))); have cm := Bm.cell; have fm := Bm.free; have lm_W7 := Bm.lt; have cp := Bp.cell; have fp := Bp.free; have lp_W7 := Bp.lt; have kaW7 : Acc w W7 := (by refine Acc.call ?_ hb; (repeat' (first | (with_reducible first | assumption | exact Acc.refl _ | refine Acc.drew ?_ | refine Acc.drewN ?_ _ | refine Acc.alloc ?_ _ | refine Acc.setCell ?_ ?_ _) | (refine leB ?_; omega)))); clear hb)
                | (go_at_call 67; refine (E.out _).mono ?_; rintro e W8 ⟨rfl, hb⟩; have Bm : Blk W8 (W1.heap.size) [.int .i64 a1, .int .i64 a2, .int .i64 a3, .int .i64 a4, .int .i64 a5, .int .i64 a6, .int .i64 a7, .int .i64 a8, .int .i64 a9, .int .i64 a10, .int .i64 a11, .int .i64 a12] := Blk.keep hb (by repeat' (first | (with_reducible first | assumption | refine Blk.drew ?_ | refine Blk.drewN ?_ _ | apply Blk.set | (refine Blk.new ?_; focus (first | rfl | (simp; done))) | refine Blk.alloc ?_ _ | refine Blk.other ?_ ?_ _) | exact eqL rfl | (refine neB ?_; omega))); have Bp : Blk W8 (W1.heap.size + 1) [.int .i64 b1, .int .i64 b2, .int .i64 b3, .int .i64 b4, .int .i64 b5, .int .i64 b6, .int .i64 b7, .int .i64 b8, .int .i64 b9, .int .i64 b10, .int .i64 b11, .int .i64 b12] := Blk.keep hb (by repeat' (first | (with_reducible first | assumption | refine Blk.drew ?_ | refine Blk.drewN ?_ _ | apply Blk.set | (refine Blk.new ?_; focus (first | rfl | (simp; done))) | refine Blk.alloc ?_ _ | refine Blk.other ?_ ?_ _) | exact eqL rfl | (refine neB ?_; omega))); have cm := Bm.cell; have fm := Bm.free; have lm_W8 := Bm.lt; have cp := Bp.cell; have fp := Bp.free; have lp_W8 := Bp.lt; have kaW8 : Acc w W8 := (by refine Acc.call ?_ hb; (repeat' (first | (with_reducible first | assumption | exact Acc.refl _ | refine Acc.drew ?_ | refine Acc.drewN ?_ _ | refine Acc.alloc ?_ _ | refine Acc.setCell ?_ ?_ _) | (refine leB ?_; omega)))); clear hb)
                | (go_at_call 46; refine (holds_ok _ _).mono ?_; rintro e W9 ⟨rfl, hb⟩; have Bm : Blk W9 (W1.heap.size) [.int .i64 a1, .int .i64 a2, .int .i64 a3, .int .i64 a4, .int .i64 a5, .int .i64 a6, .int .i64 a7, .int .i64 a8, .int .i64 a9, .int .i64 a10, .int .i64 a11, .int .i64 a12] := Blk.keep hb (by repeat' (first | (with_reducible first | assumption | refine Blk.drew ?_ | refine Blk.drewN ?_ _ | apply Blk.set | (refine Blk.new ?_; focus (first | rfl | (simp; done))) | refine Blk.alloc ?_ _ | refine Blk.other ?_ ?_ _) | exact eqL rfl | (refine neB ?_; omega))); have Bp : Blk W9 (W1.heap.size + 1) [.int .i64 b1, .int .i64 b2, .int .i64 b3, .int .i64 b4, .int .i64 b5, .int .i64 b6, .int .i64 b7, .int .i64 b8, .int .i64 b9, .int .i64 b10, .int .i64 b11, .int .i64 b12] := Blk.keep hb (by repeat' (first | (with_reducible first | assumption | refine Blk.drew ?_ | refine Blk.drewN ?_ _ | apply Blk.set | (refine Blk.new ?_; focus (first | rfl | (simp; done))) | refine Blk.alloc ?_ _ | refine Blk.other ?_ ?_ _) | exact eqL rfl | (refine neB ?_; omega))); have cm := Bm.cell; have fm := Bm.free; have lm_W9 := Bm.lt; have cp := Bp.cell; have fp := Bp.free; have lp_W9 := Bp.lt; have kaW9 : Acc w W9 := (by refine Acc.call ?_ hb; (repeat' (first | (with_reducible first | assumption | exact Acc.refl _ | refine Acc.drew ?_ | refine Acc.drewN ?_ _ | refine Acc.alloc ?_ _ | refine Acc.setCell ?_ ?_ _) | (refine leB ?_; omega)))); clear hb))
            all_goals
              go_wp2_with fail
              refine (TC.out _).mono ?_
              rintro e W10 ⟨h1, h2, hb⟩
              have Bm : Blk W10 (W1.heap.size) [.int .i64 a1, .int .i64 a2, .int .i64 a3, .int .i64 a4, .int .i64 a5, .int .i64 a6, .int .i64 a7, .int .i64 a8, .int .i64 a9, .int .i64 a10, .int .i64 a11, .int .i64 a12] := Blk.keep hb (by repeat' (first | (with_reducible first | assumption | refine Blk.drew ?_ | refine Blk.drewN ?_ _ | apply Blk.set | (refine Blk.new ?_; focus (first | rfl | (simp; done))) | refine Blk.alloc ?_ _ | refine Blk.other ?_ ?_ _) | exact eqL rfl | (refine neB ?_; omega)))
              have Bp : Blk W10 (W1.heap.size + 1) [.int .i64 b1, .int .i64 b2, .int .i64 b3, .int .i64 b4, .int .i64 b5, .int .i64 b6, .int .i64 b7, .int .i64 b8, .int .i64 b9, .int .i64 b10, .int .i64 b11, .int .i64 b12] := Blk.keep hb (by repeat' (first | (with_reducible first | assumption | refine Blk.drew ?_ | refine Blk.drewN ?_ _ | apply Blk.set | (refine Blk.new ?_; focus (first | rfl | (simp; done))) | refine Blk.alloc ?_ _ | refine Blk.other ?_ ?_ _) | exact eqL rfl | (refine neB ?_; omega)))
              have cm := Bm.cell
              have fm := Bm.free
              have lm_W10 := Bm.lt
              have cp := Bp.cell
              have fp := Bp.free
              have lp_W10 := Bp.lt
              have kaW10 : Acc w W10 := by
                refine Acc.call ?_ hb
                (repeat' (first | (with_reducible first | assumption | exact Acc.refl _ | refine Acc.drew ?_ | refine Acc.drewN ?_ _ | refine Acc.alloc ?_ _ | refine Acc.setCell ?_ ?_ _) | (refine leB ?_; omega)))
              clear hb
              cases ho : mulM ((a1, a2, a3), (a4, a5, a6), (a7, a8, a9), (a10, a11, a12)) ((b1, b2, b3), (b4, b5, b6), (b7, b8, b9), (b10, b11, b12)) with
              | none =>
                obtain ⟨s, rfl⟩ := h2 ho
                obtain rfl : n = 0 := HX.out.symm.trans (ordG_none HA.out ho)
                clear h1 h2 ho
                go_wp2_with fail
                refine bodyPost_ret (by conv => lhs; simp [results, Tryz.results43, go_sem, *]) rfl ⟨fun _ h => (by cases h; rfl), fun h => (by cases h), ?_⟩
                show Acc w _
                (repeat' (first | (with_reducible first | assumption | exact Acc.refl _ | refine Acc.drew ?_ | refine Acc.drewN ?_ _ | refine Acc.alloc ?_ _ | refine Acc.setCell ?_ ?_ _) | (refine leB ?_; omega)))
              | some v =>
                obtain ⟨⟨r1, r2, r3⟩, ⟨r4, r5, r6⟩, ⟨r7, r8, r9⟩, r10, r11, r12⟩ := v
                obtain rfl := h1 _ _ _ _ _ _ _ _ _ _ _ _ ho
                have HZ := Lib.hid ((ordG_some HA.out ho).symm.trans HX.out)
                have OC := Lib.hid (mulM_ok ho).2.2
                clear h1 h2 ho
                go_wp2_with fail
                go_roundw
                case rel => exact ⟨j + 1, k, ((r1, r2, r3), (r4, r5, r6), (r7, r8, r9), (r10, r11, r12)), by omega, by go_num, (by show Acc w _; repeat' (first | (with_reducible first | assumption | exact Acc.refl _ | refine Acc.drew ?_ | refine Acc.drewN ?_ _ | refine Acc.alloc ?_ _ | refine Acc.setCell ?_ ?_ _) | (refine leB ?_; omega))), (by repeat' (first | (with_reducible first | assumption | refine Blk.drew ?_ | refine Blk.drewN ?_ _ | apply Blk.set | (refine Blk.new ?_; focus (first | rfl | (simp; done))) | refine Blk.alloc ?_ _ | refine Blk.other ?_ ?_ _) | exact eqL rfl | (refine neB ?_; omega))), (by repeat' (first | (with_reducible first | assumption | refine Blk.drew ?_ | refine Blk.drewN ?_ _ | apply Blk.set | (refine Blk.new ?_; focus (first | rfl | (simp; done))) | refine Blk.alloc ?_ _ | refine Blk.other ?_ ?_ _) | exact eqL rfl | (refine neB ?_; omega))), OC.out, HZ.out⟩
                case measure => simp [intOf]; omega
          | true =>
            have HA : RowKit.Hid (_ = true) := Lib.hid HA.out
            have E := Lib.hid fun w => (TA.out w).mono fun e w' h => And.intro (h.1 _ rfl) h.2.2
            clear TA
            go_upto_region 8 with fail
            go_region_held3 (fun w' => (∀ k, w'.cell? ⟨W1.heap.size + 1, k, none⟩ = [.int .i64 b1, .int .i64 b2, .int .i64 b3, .int .i64 b4, .int .i64 b5, .int .i64 b6, .int .i64 b7, .int .i64 b8, .int .i64 b9, .int .i64 b10, .int .i64 b11, .int .i64 b12][k]?))
              (((try dsimp only); (refine Blk.cell ?_ <;> (repeat' (first | (with_reducible first | assumption | refine Blk.drew ?_ | refine Blk.drewN ?_ _ | apply Blk.set | (refine Blk.new ?_; focus (first | rfl | (simp; done))) | refine Blk.alloc ?_ _ | refine Blk.other ?_ ?_ _) | exact eqL rfl | (refine neB ?_; omega))))))
              (first
                | (go_at_call 59; refine (unitMx_any _).mono ?_; rintro e W7 ⟨rfl, hb⟩; have Bm : Blk W7 (W1.heap.size) [.int .i64 a1, .int .i64 a2, .int .i64 a3, .int .i64 a4, .int .i64 a5, .int .i64 a6, .int .i64 a7, .int .i64 a8, .int .i64 a9, .int .i64 a10, .int .i64 a11, .int .i64 a12] := Blk.keep hb (by repeat' (first | (with_reducible first | assumption | refine Blk.drew ?_ | refine Blk.drewN ?_ _ | apply Blk.set | (refine Blk.new ?_; focus (first | rfl | (simp; done))) | refine Blk.alloc ?_ _ | refine Blk.other ?_ ?_ _) | exact eqL rfl | (refine neB ?_; omega))); have Bp : Blk W7 (W1.heap.size + 1) [.int .i64 b1, .int .i64 b2, .int .i64 b3, .int .i64 b4, .int .i64 b5, .int .i64 b6, .int .i64 b7, .int .i64 b8, .int .i64 b9, .int .i64 b10, .int .i64 b11, .int .i64 b12] := Blk.keep hb (by repeat' (first | (with_reducible first | assumption | refine Blk.drew ?_ | refine Blk.drewN ?_ _ | apply Blk.set | (refine Blk.new ?_; focus (first | rfl | (simp; done))) | refine Blk.alloc ?_ _ | refine Blk.other ?_ ?_ _) | exact eqL rfl | (refine neB ?_; omega))); have cm := Bm.cell; have fm := Bm.free; have lm_W7 := Bm.lt; have cp := Bp.cell; have fp := Bp.free; have lp_W7 := Bp.lt; have kaW7 : Acc w W7 := (by refine Acc.call ?_ hb; (repeat' (first | (with_reducible first | assumption | exact Acc.refl _ | refine Acc.drew ?_ | refine Acc.drewN ?_ _ | refine Acc.alloc ?_ _ | refine Acc.setCell ?_ ?_ _) | (refine leB ?_; omega)))); clear hb)
                | (go_at_call 67; refine (E.out _).mono ?_; rintro e W8 ⟨rfl, hb⟩; have Bm : Blk W8 (W1.heap.size) [.int .i64 a1, .int .i64 a2, .int .i64 a3, .int .i64 a4, .int .i64 a5, .int .i64 a6, .int .i64 a7, .int .i64 a8, .int .i64 a9, .int .i64 a10, .int .i64 a11, .int .i64 a12] := Blk.keep hb (by repeat' (first | (with_reducible first | assumption | refine Blk.drew ?_ | refine Blk.drewN ?_ _ | apply Blk.set | (refine Blk.new ?_; focus (first | rfl | (simp; done))) | refine Blk.alloc ?_ _ | refine Blk.other ?_ ?_ _) | exact eqL rfl | (refine neB ?_; omega))); have Bp : Blk W8 (W1.heap.size + 1) [.int .i64 b1, .int .i64 b2, .int .i64 b3, .int .i64 b4, .int .i64 b5, .int .i64 b6, .int .i64 b7, .int .i64 b8, .int .i64 b9, .int .i64 b10, .int .i64 b11, .int .i64 b12] := Blk.keep hb (by repeat' (first | (with_reducible first | assumption | refine Blk.drew ?_ | refine Blk.drewN ?_ _ | apply Blk.set | (refine Blk.new ?_; focus (first | rfl | (simp; done))) | refine Blk.alloc ?_ _ | refine Blk.other ?_ ?_ _) | exact eqL rfl | (refine neB ?_; omega))); have cm := Bm.cell; have fm := Bm.free; have lm_W8 := Bm.lt; have cp := Bp.cell; have fp := Bp.free; have lp_W8 := Bp.lt; have kaW8 : Acc w W8 := (by refine Acc.call ?_ hb; (repeat' (first | (with_reducible first | assumption | exact Acc.refl _ | refine Acc.drew ?_ | refine Acc.drewN ?_ _ | refine Acc.alloc ?_ _ | refine Acc.setCell ?_ ?_ _) | (refine leB ?_; omega)))); clear hb)
                | (go_at_call 46; refine (holds_ok _ _).mono ?_; rintro e W9 ⟨rfl, hb⟩; have Bm : Blk W9 (W1.heap.size) [.int .i64 a1, .int .i64 a2, .int .i64 a3, .int .i64 a4, .int .i64 a5, .int .i64 a6, .int .i64 a7, .int .i64 a8, .int .i64 a9, .int .i64 a10, .int .i64 a11, .int .i64 a12] := Blk.keep hb (by repeat' (first | (with_reducible first | assumption | refine Blk.drew ?_ | refine Blk.drewN ?_ _ | apply Blk.set | (refine Blk.new ?_; focus (first | rfl | (simp; done))) | refine Blk.alloc ?_ _ | refine Blk.other ?_ ?_ _) | exact eqL rfl | (refine neB ?_; omega))); have Bp : Blk W9 (W1.heap.size + 1) [.int .i64 b1, .int .i64 b2, .int .i64 b3, .int .i64 b4, .int .i64 b5, .int .i64 b6, .int .i64 b7, .int .i64 b8, .int .i64 b9, .int .i64 b10, .int .i64 b11, .int .i64 b12] := Blk.keep hb (by repeat' (first | (with_reducible first | assumption | refine Blk.drew ?_ | refine Blk.drewN ?_ _ | apply Blk.set | (refine Blk.new ?_; focus (first | rfl | (simp; done))) | refine Blk.alloc ?_ _ | refine Blk.other ?_ ?_ _) | exact eqL rfl | (refine neB ?_; omega))); have cm := Bm.cell; have fm := Bm.free; have lm_W9 := Bm.lt; have cp := Bp.cell; have fp := Bp.free; have lp_W9 := Bp.lt; have kaW9 : Acc w W9 := (by refine Acc.call ?_ hb; (repeat' (first | (with_reducible first | assumption | exact Acc.refl _ | refine Acc.drew ?_ | refine Acc.drewN ?_ _ | refine Acc.alloc ?_ _ | refine Acc.setCell ?_ ?_ _) | (refine leB ?_; omega)))); clear hb))
            all_goals
              obtain rfl : n = (j : Int) + 1 := HX.out.symm.trans ((ordG_yes HA.out).trans (by omega))
              go_wp2_with fail
              refine bodyPost_ret (by conv => lhs; simp [results, Tryz.results43, go_sem, *]) rfl ⟨fun _ h => (by cases h; rfl), fun h => (by cases h), ?_⟩
              show Acc w _
              (repeat' (first | (with_reducible first | assumption | exact Acc.refl _ | refine Acc.drew ?_ | refine Acc.drewN ?_ _ | refine Acc.alloc ?_ _ | refine Acc.setCell ?_ ?_ _) | (refine leB ?_; omega)))
set_option maxRecDepth 100000 in
set_option maxHeartbeats 8000000 in
theorem ofFb_int (a : Option Addr) (ls : List L4) (cap : Nat) (o : Option Int) (w : World) (h : Lys w a ls) (hn : ls.length ≤ 1048576)
    (K : okFb ls = true → ∀ n₀ p W, Acc w W → Fib n₀ W.heap.size W p ls.reverse → Calls Tryz.prog 43 #[.pointer p] W (ErredNo o W)) :
    Calls Tryz.prog 42 #[.slice a ls.length cap, .func (.func 43) #[] #[]] w (ErredNo (if okFb ls = true then o else none) w) := by
  have T := Lib.hid fun (W : World) (k : Acc w W) => fibreOf_any a ls cap W (h.keep k) hn
  clear h
  obtain ⟨v, hv⟩ : ∃ v, okFb ls = v := ⟨_, rfl⟩
  rw [hv] at K ⊢
  have HV := Lib.hid hv
  clear hv
  cases v with
  | false =>
    clear K
    show Calls _ _ _ _ (ErredNo none w)
    go_enter Tryz.func42, Tryz.ntmps42
    go_wp2_with fail
    refine (T.out _ (by repeat' (first | (with_reducible first | assumption | exact Acc.refl _ | refine Acc.drew ?_ | refine Acc.drewN ?_ _ | refine Acc.alloc ?_ _ | refine Acc.setCell ?_ ?_ _) | (refine leB ?_; omega)))).mono ?_
    rintro e W1 ⟨-, h, hb⟩
    obtain ⟨s, rfl⟩ := h HV.out
    clear h
    have kaW1 : Acc w W1 := by
      refine Acc.call ?_ hb
      (repeat' (first | (with_reducible first | assumption | exact Acc.refl _ | refine Acc.drew ?_ | refine Acc.drewN ?_ _ | refine Acc.alloc ?_ _ | refine Acc.setCell ?_ ?_ _) | (refine leB ?_; omega)))
    clear hb
    go_wp2_with fail
    refine bodyPost_ret (by conv => lhs; simp [results, Tryz.results42, go_sem, *]) rfl ⟨fun _ h => (by cases h), fun _ => ⟨_, rfl⟩, ?_⟩
    show Acc w _
    (repeat' (first | (with_reducible first | assumption | exact Acc.refl _ | refine Acc.drew ?_ | refine Acc.drewN ?_ _ | refine Acc.alloc ?_ _ | refine Acc.setCell ?_ ?_ _) | (refine leB ?_; omega)))
  | true =>
    have HK := Lib.hid (K rfl)
    clear K
    show Calls _ _ _ _ (ErredNo o w)
    go_enter Tryz.func42, Tryz.ntmps42
    go_wp2_with fail
    refine (T.out _ (by repeat' (first | (with_reducible first | assumption | exact Acc.refl _ | refine Acc.drew ?_ | refine Acc.drewN ?_ _ | refine Acc.alloc ?_ _ | refine Acc.setCell ?_ ?_ _) | (refine leB ?_; omega)))).mono ?_
    rintro e W1 ⟨h, -, hb⟩
    obtain ⟨p, rfl, hf⟩ := h HV.out
    clear h
    have kaW1 : Acc w W1 := by
      refine Acc.call ?_ hb
      (repeat' (first | (with_reducible first | assumption | exact Acc.refl _ | refine Acc.drew ?_ | refine Acc.drewN ?_ _ | refine Acc.alloc ?_ _ | refine Acc.setCell ?_ ?_ _) | (refine leB ?_; omega)))
    clear hb
    have HF := Lib.hid hf
    clear hf
    go_wp2_with fail
    refine (HK.out _ _ _ (by repeat' (first | (with_reducible first | assumption | exact Acc.refl _ | refine Acc.drew ?_ | refine Acc.drewN ?_ _ | refine Acc.alloc ?_ _ | refine Acc.setCell ?_ ?_ _) | (refine leB ?_; omega))) (HF.out.keep (show Acc W1 _ by repeat' (first | (with_reducible first | assumption | exact Acc.refl _ | refine Acc.drew ?_ | refine Acc.alloc ?_ _) | (refine leB ?_; omega))))).mono ?_
    rintro e W2 ⟨h1, h2, hb⟩
    have kaW2 : Acc w W2 := by
      refine Acc.call ?_ hb
      (repeat' (first | (with_reducible first | assumption | exact Acc.refl _ | refine Acc.drew ?_ | refine Acc.drewN ?_ _ | refine Acc.alloc ?_ _ | refine Acc.setCell ?_ ?_ _) | (refine leB ?_; omega)))
    clear hb
    cases o with
    | none =>
      obtain ⟨s, rfl⟩ := h2 rfl
      clear h1 h2
      go_wp2_with fail
      refine bodyPost_ret (by conv => lhs; simp [results, Tryz.results42, go_sem, *]) rfl ⟨fun _ h => (by cases h), fun _ => ⟨_, rfl⟩, ?_⟩
      show Acc w _
      (repeat' (first | (with_reducible first | assumption | exact Acc.refl _ | refine Acc.drew ?_ | refine Acc.drewN ?_ _ | refine Acc.alloc ?_ _ | refine Acc.setCell ?_ ?_ _) | (refine leB ?_; omega)))
    | some v =>
      obtain rfl := h1 _ rfl
      clear h1 h2
      go_wp2_with fail
      refine bodyPost_ret (by conv => lhs; simp [results, Tryz.results42, go_sem, *]) rfl ⟨fun _ h => (by cases h; rfl), fun h => (by cases h), ?_⟩
      show Acc w _
      (repeat' (first | (with_reducible first | assumption | exact Acc.refl _ | refine Acc.drew ?_ | refine Acc.drewN ?_ _ | refine Acc.alloc ?_ _ | refine Acc.setCell ?_ ?_ _) | (refine leB ?_; omega)))
set_option maxHeartbeats 2000000 in
theorem toldNo_ok (n : Int) (w : World) : Calls Tryz.prog 41 #[.int .i64 n, .nilIface] w fun e w' => e = .returned (.tuple #[.int .i64 n, .bool true]) ∧ Below w.heap.size w w' := by
  go_enter Tryz.func41, Tryz.ntmps41
  go_wp2_with fail
  refine (isNone_nil _).mono ?_
  rintro e W1 ⟨rfl, hb⟩
  have kaW1 : Acc w W1 := by
    refine Acc.call ?_ hb
    (repeat' (first | (with_reducible first | assumption | exact Acc.refl _ | refine Acc.drew ?_ | refine Acc.drewN ?_ _ | refine Acc.alloc ?_ _ | refine Acc.setCell ?_ ?_ _) | (refine leB ?_; omega)))
  clear hb
  go_wp2_with fail
  refine bodyPost_ret (by conv => lhs; simp [results, Tryz.results41, go_sem, *]) rfl ⟨rfl, ?_⟩
  show Acc w _
  (repeat' (first | (with_reducible first | assumption | exact Acc.refl _ | refine Acc.drew ?_ | refine Acc.drewN ?_ _ | refine Acc.alloc ?_ _ | refine Acc.setCell ?_ ?_ _) | (refine leB ?_; omega)))
set_option maxHeartbeats 2000000 in
theorem toldNo_err (n : Int) (s : ByteArray) (w : World) (hl : Laid w) : Calls Tryz.prog 41 #[.int .i64 n, .iface 121 (.agg #[.string s])] w fun e w' => e = .returned (.tuple #[.int .i64 0, .bool false]) ∧ Below w.heap.size w w' := by
  have HL := Lib.hid fun W (k : Acc w W) => hl.acc k
  clear hl
  go_enter Tryz.func41, Tryz.ntmps41
  go_wp2_with fail
  refine (isNone_hit s _ (HL.out _ (by repeat' (first | (with_reducible first | assumption | exact Acc.refl _ | refine Acc.drew ?_ | refine Acc.drewN ?_ _ | refine Acc.alloc ?_ _ | refine Acc.setCell ?_ ?_ _) | (refine leB ?_; omega))))).mono ?_
  rintro e W1 ⟨rfl, hb⟩
  have kaW1 : Acc w W1 := by
    refine Acc.call ?_ hb
    (repeat' (first | (with_reducible first | assumption | exact Acc.refl _ | refine Acc.drew ?_ | refine Acc.drewN ?_ _ | refine Acc.alloc ?_ _ | refine Acc.setCell ?_ ?_ _) | (refine leB ?_; omega)))
  clear hb
  go_wp2_with fail
  refine bodyPost_ret (by conv => lhs; simp [results, Tryz.results41, go_sem, *]) rfl ⟨rfl, ?_⟩
  show Acc w _
  (repeat' (first | (with_reducible first | assumption | exact Acc.refl _ | refine Acc.drew ?_ | refine Acc.drewN ?_ _ | refine Acc.alloc ?_ _ | refine Acc.setCell ?_ ?_ _) | (refine leB ?_; omega)))
set_option maxRecDepth 100000 in
set_option maxHeartbeats 8000000 in
theorem implFbOrder_any (a : Option Addr) (ls : List L4) (cap : Nat) (w : World) (h : Lys w a ls) (hn : ls.length ≤ 1048576) (hl : Laid w) : Calls Tryz.prog 18 #[.slice a ls.length cap] w (GaveI (ordM ls) w) := by
  have T := Lib.hid fun (W : World) (k : Acc w W) => ofFb_int a ls cap ((fbF ls (some oneM)).bind fun m => some (ordG m 24 m)) W (h.keep k) hn (fun ok n₀ p V kV hf => by have := fbOrder_any n₀ ls.reverse p V hf (fun s hs => okFb_mem ok (List.mem_reverse.1 hs)) (hl.acc (Acc.call k kV)); rwa [List.reverse_reverse] at this)
  rw [← ordM_if] at T
  obtain ⟨o, ho⟩ : ∃ o, ordM ls = o := ⟨_, rfl⟩
  rw [ho] at T ⊢
  clear h ho
  have HL := Lib.hid fun W (k : Acc w W) => hl.acc k
  clear hl
  go_enter Tryz.func18, Tryz.ntmps18
  go_wp2_with fail
  refine (T.out _ (by repeat' (first | (with_reducible first | assumption | exact Acc.refl _ | refine Acc.drew ?_ | refine Acc.drewN ?_ _ | refine Acc.alloc ?_ _ | refine Acc.setCell ?_ ?_ _) | (refine leB ?_; omega)))).mono ?_
  rintro e W1 ⟨h1, h2, hb⟩
  have kaW1 : Acc w W1 := by
    refine Acc.call ?_ hb
    (repeat' (first | (with_reducible first | assumption | exact Acc.refl _ | refine Acc.drew ?_ | refine Acc.drewN ?_ _ | refine Acc.alloc ?_ _ | refine Acc.setCell ?_ ?_ _) | (refine leB ?_; omega)))
  clear hb
  cases o with
  | none =>
    obtain ⟨s, rfl⟩ := h2 rfl
    clear h1 h2
    go_wp2_with fail
    refine (toldNo_err _ s _ (HL.out _ (by repeat' (first | (with_reducible first | assumption | exact Acc.refl _ | refine Acc.drew ?_ | refine Acc.drewN ?_ _ | refine Acc.alloc ?_ _ | refine Acc.setCell ?_ ?_ _) | (refine leB ?_; omega))))).mono ?_
    rintro e W2 ⟨rfl, hb⟩
    have kaW2 : Acc w W2 := by
      refine Acc.call ?_ hb
      (repeat' (first | (with_reducible first | assumption | exact Acc.refl _ | refine Acc.drew ?_ | refine Acc.drewN ?_ _ | refine Acc.alloc ?_ _ | refine Acc.setCell ?_ ?_ _) | (refine leB ?_; omega)))
    clear hb
    go_wp2_with fail
    refine bodyPost_ret (by conv => lhs; simp [results, Tryz.results18, go_sem, *]) rfl ⟨fun _ h => (by cases h), fun _ => rfl, ?_⟩
    show Acc w _
    (repeat' (first | (with_reducible first | assumption | exact Acc.refl _ | refine Acc.drew ?_ | refine Acc.drewN ?_ _ | refine Acc.alloc ?_ _ | refine Acc.setCell ?_ ?_ _) | (refine leB ?_; omega)))
  | some n =>
    obtain rfl := h1 _ rfl
    clear h1 h2
    go_wp2_with fail
    refine (toldNo_ok _ _).mono ?_
    rintro e W2 ⟨rfl, hb⟩
    have kaW2 : Acc w W2 := by
      refine Acc.call ?_ hb
      (repeat' (first | (with_reducible first | assumption | exact Acc.refl _ | refine Acc.drew ?_ | refine Acc.drewN ?_ _ | refine Acc.alloc ?_ _ | refine Acc.setCell ?_ ?_ _) | (refine leB ?_; omega)))
    clear hb
    go_wp2_with fail
    refine bodyPost_ret (by conv => lhs; simp [results, Tryz.results18, go_sem, *]) rfl ⟨fun _ h => (by cases h; rfl), fun h => (by cases h), ?_⟩
    show Acc w _
    (repeat' (first | (with_reducible first | assumption | exact Acc.refl _ | refine Acc.drew ?_ | refine Acc.drewN ?_ _ | refine Acc.alloc ?_ _ | refine Acc.setCell ?_ ?_ _) | (refine leB ?_; omega)))
end Go.Proofs.YtkiggkmbgkonmaaGreatDoor
