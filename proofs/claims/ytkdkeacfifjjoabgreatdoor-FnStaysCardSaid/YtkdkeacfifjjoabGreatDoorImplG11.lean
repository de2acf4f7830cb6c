/-
  The program: FibreStays.
-/
import Derived.Test.YtkdkeacfifjjoabGreatDoorImplG9
import Derived.Test.YtkdkeacfifjjoabGreatDoorBVec
import Derived.Test.YtkdkeacfifjjoabGreatDoorBMath
namespace Go.Proofs.YtkdkeacfifjjoabGreatDoor
open Go.ChangeShapes Go.WideShapes Go.ChangeAt Go.RowKit
set_option linter.unusedVariables false

set_option linter.unusedSimpArgs false
set_option maxRecDepth 100000 in
set_option maxHeartbeats 8000000 in
theorem fbStays_any (n₀ : Nat) (rs : List L4) (p : Option Addr) (x1 x2 x3 y1 y2 y3 : Int) (hx1 : i64B x1) (hx2 : i64B x2) (hx3 : i64B x3) (hy1 : i64B y1) (hy2 : i64B y2) (hy3 : i64B y3) (w : World) (hf : Fib n₀ w.heap.size w p rs) (hok : ∀ s ∈ rs, okS s = true) : Calls Tryz.prog 48 #[.pointer p, .agg #[.int .i64 x1, .int .i64 x2, .int .i64 x3, .int .i64 y1, .int .i64 y2, .int .i64 y3]] w (ErredB ((fbF rs.reverse (some oneM)).bind fun m => (appM m ((x1, x2, x3), (y1, y2, y3))).bind fun u => (valikeF u.1.1 u.1.2.1 u.1.2.2 u.2.1 u.2.2.1 u.2.2.2 x1 x2 x3 y1 y2 y3).map fun b => b && !vdarkB x1 x2 x3 y1 y2 y3) w) := by
  have T := Lib.hid fun (W : World) (k : Acc w W) => fbRun_any n₀ rs p x1 x2 x3 y1 y2 y3 hx1 hx2 hx3 hy1 hy2 hy3 W (hf.keep k) hok
  have HV := Lib.hid fun r1 r2 r3 r4 r5 r6 hr1 hr2 hr3 hr4 hr5 hr6 w => valike_any r1 r2 r3 r4 r5 r6 x1 x2 x3 y1 y2 y3 hr1 hr2 hr3 hr4 hr5 hr6 hx1 hx2 hx3 hy1 hy2 hy3 w
  have TDk := Lib.hid fun k h w => vdark_of x1 x2 x3 y1 y2 y3 k h w
  have HO : RowKit.Hid (((fbF rs.reverse (some oneM)).bind fun m => (appM m ((x1, x2, x3), (y1, y2, y3))).bind fun u => (valikeF u.1.1 u.1.2.1 u.1.2.2 u.2.1 u.2.2.1 u.2.2.2 x1 x2 x3 y1 y2 y3).map fun b => b && !vdarkB x1 x2 x3 y1 y2 y3) = (((fbF rs.reverse (some oneM)).bind fun m => appM m ((x1, x2, x3), (y1, y2, y3))).bind fun u => (valikeF u.1.1 u.1.2.1 u.1.2.2 u.2.1 u.2.2.1 u.2.2.2 x1 x2 x3 y1 y2 y3).map fun b => b && !vdarkB x1 x2 x3 y1 y2 y3)) := Lib.hid (by cases fbF rs.reverse (some oneM) <;> rfl)
  rw [HO.out]
  clear hf hok hx1 hx2 hx3 hy1 hy2 hy3 HO
  cases ho : ((fbF rs.reverse (some oneM)).bind fun m => appM m ((x1, x2, x3), (y1, y2, y3))) with
  | none =>
    have D := Lib.hid fun W k => (T.out W k).mono fun e w' h => And.intro (h.2.1 ho) h.2.2
    clear ho T HV TDk
    show Calls _ _ _ _ (ErredB none w)
    go_enter Tryz.func48, Tryz.ntmps48
    go_wp2_with fail
    refine (D.out _ (by repeat' (first | (with_reducible first | assumption | exact Acc.refl _ | refine Acc.drew ?_ | refine Acc.drewN ?_ _ | refine Acc.alloc ?_ _ | refine Acc.setCell ?_ ?_ _) | (refine leB ?_; omega)))).mono ?_
    rintro e W1 ⟨⟨s, rfl⟩, hb⟩
    have Bv : Blk W1 (w.heap.size) [.int .i64 x1, .int .i64 x2, .int .i64 x3, .int .i64 y1, .int .i64 y2, .int .i64 y3] := Blk.keep hb (by repeat' (first | (with_reducible first | assumption | refine Blk.drew ?_ | refine Blk.drewN ?_ _ | apply Blk.set | (refine Blk.new ?_; focus (first | rfl | (simp; done))) | refine Blk.alloc ?_ _ | refine Blk.other ?_ ?_ _) | exact eqL rfl | (refine neB ?_; omega)))
    have cv := Bv.cell
    have fv := Bv.free
    have lv_W1 := Bv.lt
    have kaW1 : Acc w W1 := by
      refine Acc.call ?_ hb
      (repeat' (first | (with_reducible first | assumption | exact Acc.refl _ | refine Acc.drew ?_ | refine Acc.drewN ?_ _ | refine Acc.alloc ?_ _ | refine Acc.setCell ?_ ?_ _) | (refine leB ?_; omega)))
    clear hb
    go_wp2_with fail
    refine bodyPost_ret (by conv => lhs; simp [results, Tryz.results48, go_sem, *]) rfl ⟨fun _ h => (by cases h), fun _ => ⟨_, rfl⟩, ?_⟩
    show Acc w _
    (repeat' (first | (with_reducible first | assumption | exact Acc.refl _ | refine Acc.drew ?_ | refine Acc.drewN ?_ _ | refine Acc.alloc ?_ _ | refine Acc.setCell ?_ ?_ _) | (refine leB ?_; omega)))
  | some u =>
    obtain ⟨⟨r1, r2, r3⟩, r4, r5, r6⟩ := u
    have D := Lib.hid fun W k => (T.out W k).mono fun e w' h => And.intro (h.1 _ _ _ _ _ _ ho) h.2.2
    have hi : okT (r1, r2, r3) = true ∧ okT (r4, r5, r6) = true := by
      cases e : fbF rs.reverse (some oneM) with
      | none => rw [e] at ho; cases ho
      | some m => rw [e] at ho; exact (fbApp_ok ho).1
    obtain ⟨hr1, hr2, hr3⟩ := okF_i64 hi.1
    obtain ⟨hr4, hr5, hr6⟩ := okF_i64 hi.2
    have TV := Lib.hid fun w => HV.out r1 r2 r3 r4 r5 r6 hr1 hr2 hr3 hr4 hr5 hr6 w
    clear ho T HV hi hr1 hr2 hr3 hr4 hr5 hr6
    show Calls _ _ _ _ (ErredB ((valikeF r1 r2 r3 r4 r5 r6 x1 x2 x3 y1 y2 y3).map fun b => b && !vdarkB x1 x2 x3 y1 y2 y3) w)
    obtain ⟨d, hd⟩ : ∃ d, vdarkB x1 x2 x3 y1 y2 y3 = d := ⟨_, rfl⟩
    have TD := Lib.hid fun w => TDk.out d hd w
    rw [hd]
    clear hd TDk
    cases ho : valikeF r1 r2 r3 r4 r5 r6 x1 x2 x3 y1 y2 y3 with
    | none =>
      have E := Lib.hid fun w => (TV.out w).mono fun e w' h => And.intro (h.2.1 ho) h.2.2
      clear ho TV
      show Calls _ _ _ _ (ErredB none w)
      go_enter Tryz.func48, Tryz.ntmps48
      go_wp2_with fail
      refine (D.out _ (by repeat' (first | (with_reducible first | assumption | exact Acc.refl _ | refine Acc.drew ?_ | refine Acc.drewN ?_ _ | refine Acc.alloc ?_ _ | refine Acc.setCell ?_ ?_ _) | (refine leB ?_; omega)))).mono ?_
      rintro e W1 ⟨rfl, hb⟩
      have Bv : Blk W1 (w.heap.size) [.int .i64 x1, .int .i64 x2, .int .i64 x3, .int .i64 y1, .int .i64 y2, .int .i64 y3] := Blk.keep hb (by repeat' (first | (with_reducible first | assumption | refine Blk.drew ?_ | refine Blk.drewN ?_ _ | apply Blk.set | (refine Blk.new ?_; focus (first | rfl | (simp; done))) | refine Blk.alloc ?_ _ | refine Blk.other ?_ ?_ _) | exact eqL rfl | (refine neB ?_; omega)))
      have cv := Bv.cell
      have fv := Bv.free
      have lv_W1 := Bv.lt
      have kaW1 : Acc w W1 := by
        refine Acc.call ?_ hb
        (repeat' (first | (with_reducible first | assumption | exact Acc.refl _ | refine Acc.drew ?_ | refine Acc.drewN ?_ _ | refine Acc.alloc ?_ _ | refine Acc.setCell ?_ ?_ _) | (refine leB ?_; omega)))
      clear hb
      go_wp2_with fail
      refine (E.out _).mono ?_
      rintro e W2 ⟨⟨s, rfl⟩, hb⟩
      have Bv : Blk W2 (w.heap.size) [.int .i64 x1, .int .i64 x2, .int .i64 x3, .int .i64 y1, .int .i64 y2, .int .i64 y3] := Blk.keep hb (by repeat' (first | (with_reducible first | assumption | refine Blk.drew ?_ | refine Blk.drewN ?_ _ | apply Blk.set | (refine Blk.new ?_; focus (first | rfl | (simp; done))) | refine Blk.alloc ?_ _ | refine Blk.other ?_ ?_ _) | exact eqL rfl | (refine neB ?_; omega)))
      have Bu : Blk W2 (W1.heap.size) [.int .i64 r1, .int .i64 r2, .int .i64 r3, .int .i64 r4, .int .i64 r5, .int .i64 r6] := Blk.keep hb (by repeat' (first | (with_reducible first | assumption | refine Blk.drew ?_ | refine Blk.drewN ?_ _ | apply Blk.set | (refine Blk.new ?_; focus (first | rfl | (simp; done))) | refine Blk.alloc ?_ _ | refine Blk.other ?_ ?_ _) | exact eqL rfl | (refine neB ?_; omega)))
      have cv := Bv.cell
      have fv := Bv.free
      have lv_W2 := Bv.lt
      have cu := Bu.cell
      have fu := Bu.free
      have lu_W2 := Bu.lt
      have kaW2 : Acc w W2 := by
        refine Acc.call ?_ hb
        (repeat' (first | (with_reducible first | assumption | exact Acc.refl _ | refine Acc.drew ?_ | refine Acc.drewN ?_ _ | refine Acc.alloc ?_ _ | refine Acc.setCell ?_ ?_ _) | (refine leB ?_; omega)))
      clear hb
      go_wp2_with fail
      refine bodyPost_ret (by conv => lhs; simp [results, Tryz.results48, go_sem, *]) rfl ⟨fun _ h => (by cases h), fun _ => ⟨_, rfl⟩, ?_⟩
      show Acc w _
      (repeat' (first | (with_reducible first | assumption | exact Acc.refl _ | refine Acc.drew ?_ | refine Acc.drewN ?_ _ | refine Acc.alloc ?_ _ | refine Acc.setCell ?_ ?_ _) | (refine leB ?_; omega)))
    | some b =>
      have E := Lib.hid fun w => (TV.out w).mono fun e w' h => And.intro (h.1 _ ho) h.2.2
      clear ho TV
      show Calls _ _ _ _ (ErredB (some (b && !d)) w)
      go_enter Tryz.func48, Tryz.ntmps48
      go_wp2_with fail
      refine (D.out _ (by repeat' (first | (with_reducible first | assumption | exact Acc.refl _ | refine Acc.drew ?_ | refine Acc.drewN ?_ _ | refine Acc.alloc ?_ _ | refine Acc.setCell ?_ ?_ _) | (refine leB ?_; omega)))).mono ?_
      rintro e W1 ⟨rfl, hb⟩
      have Bv : Blk W1 (w.heap.size) [.int .i64 x1, .int .i64 x2, .int .i64 x3, .int .i64 y1, .int .i64 y2, .int .i64 y3] := Blk.keep hb (by repeat' (first | (with_reducible first | assumption | refine Blk.drew ?_ | refine Blk.drewN ?_ _ | apply Blk.set | (refine Blk.new ?_; focus (first | rfl | (simp; done))) | refine Blk.alloc ?_ _ | refine Blk.other ?_ ?_ _) | exact eqL rfl | (refine neB ?_; omega)))
      have cv := Bv.cell
      have fv := Bv.free
      have lv_W1 := Bv.lt
      have kaW1 : Acc w W1 := by
        refine Acc.call ?_ hb
        (repeat' (first | (with_reducible first | assumption | exact Acc.refl _ | refine Acc.drew ?_ | refine Acc.drewN ?_ _ | refine Acc.alloc ?_ _ | refine Acc.setCell ?_ ?_ _) | (refine leB ?_; omega)))
      clear hb
      go_wp2_with fail
      refine (E.out _).mono ?_
      rintro e W2 ⟨rfl, hb⟩
      have Bv : Blk W2 (w.heap.size) [.int .i64 x1, .int .i64 x2, .int .i64 x3, .int .i64 y1, .int .i64 y2, .int .i64 y3] := Blk.keep hb (by repeat' (first | (with_reducible first | assumption | refine Blk.drew ?_ | refine Blk.drewN ?_ _ | apply Blk.set | (refine Blk.new ?_; focus (first | rfl | (simp; done))) | refine Blk.alloc ?_ _ | refine Blk.other ?_ ?_ _) | exact eqL rfl | (refine neB ?_; omega)))
      have Bu : Blk W2 (W1.heap.size) [.int .i64 r1, .int .i64 r2, .int .i64 r3, .int .i64 r4, .int .i64 r5, .int .i64 r6] := Blk.keep hb (by repeat' (first | (with_reducible first | assumption | refine Blk.drew ?_ | refine Blk.drewN ?_ _ | apply Blk.set | (refine Blk.new ?_; focus (first | rfl | (simp; done))) | refine Blk.alloc ?_ _ | refine Blk.other ?_ ?_ _) | exact eqL rfl | (refine neB ?_; omega)))
      have cv := Bv.cell
      have fv := Bv.free
      have lv_W2 := Bv.lt
      have cu := Bu.cell
      have fu := Bu.free
      have lu_W2 := Bu.lt
      have kaW2 : Acc w W2 := by
        refine Acc.call ?_ hb
        (repeat' (first | (with_reducible first | assumption | exact Acc.refl _ | refine Acc.drew ?_ | refine Acc.drewN ?_ _ | refine Acc.alloc ?_ _ | refine Acc.setCell ?_ ?_ _) | (refine leB ?_; omega)))
      clear hb
      cases b with
      | false =>
        go_wp2_with fail
        refine bodyPost_ret (by conv => lhs; simp [results, Tryz.results48, go_sem, *]) rfl ⟨fun _ h => (by cases h; rfl), fun h => (by cases h), ?_⟩
        show Acc w _
        (repeat' (first | (with_reducible first | assumption | exact Acc.refl _ | refine Acc.drew ?_ | refine Acc.drewN ?_ _ | refine Acc.alloc ?_ _ | refine Acc.setCell ?_ ?_ _) | (refine leB ?_; omega)))
      | true =>
        go_wp2_with fail
        refine (TD.out _).mono ?_
        rintro e W3 ⟨rfl, hb⟩
        have Bv : Blk W3 (w.heap.size) [.int .i64 x1, .int .i64 x2, .int .i64 x3, .int .i64 y1, .int .i64 y2, .int .i64 y3] := Blk.keep hb (by repeat' (first | (with_reducible first | assumption | refine Blk.drew ?_ | refine Blk.drewN ?_ _ | apply Blk.set | (refine Blk.new ?_; focus (first | rfl | (simp; done))) | refine Blk.alloc ?_ _ | refine Blk.other ?_ ?_ _) | exact eqL rfl | (refine neB ?_; omega)))
        have Bu : Blk W3 (W1.heap.size) [.int .i64 r1, .int .i64 r2, .int .i64 r3, .int .i64 r4, .int .i64 r5, .int .i64 r6] := Blk.keep hb (by repeat' (first | (with_reducible first | assumption | refine Blk.drew ?_ | refine Blk.drewN ?_ _ | apply Blk.set | (refine Blk.new ?_; focus (first | rfl | (simp; done))) | refine Blk.alloc ?_ _ | refine Blk.other ?_ ?_ _) | exact eqL rfl | (refine neB ?_; omega)))
        have cv := Bv.cell
        have fv := Bv.free
        have lv_W3 := Bv.lt
        have cu := Bu.cell
        have fu := Bu.free
        have lu_W3 := Bu.lt
        have kaW3 : Acc w W3 := by
          refine Acc.call ?_ hb
          (repeat' (first | (with_reducible first | assumption | exact Acc.refl _ | refine Acc.drew ?_ | refine Acc.drewN ?_ _ | refine Acc.alloc ?_ _ | refine Acc.setCell ?_ ?_ _) | (refine leB ?_; omega)))
        clear hb
        go_wp2_with fail
        refine bodyPost_ret (by conv => lhs; simp [results, Tryz.results48, go_sem, *]) rfl ⟨fun _ h => (by cases h; cases d <;> rfl), fun h => (by cases h), ?_⟩
        show Acc w _
        (repeat' (first | (with_reducible first | assumption | exact Acc.refl _ | refine Acc.drew ?_ | refine Acc.drewN ?_ _ | refine Acc.alloc ?_ _ | refine Acc.setCell ?_ ?_ _) | (refine leB ?_; omega)))
set_option maxHeartbeats 8000000 in
theorem fbStaysC_any (n₀ : Nat) (rs : List L4) (p : Option Addr) (vb : Nat) (x1 x2 x3 y1 y2 y3 : Int) (hx1 : i64B x1) (hx2 : i64B x2) (hx3 : i64B x3) (hy1 : i64B y1) (hy2 : i64B y2) (hy3 : i64B y3) (w : World) (hf : Fib n₀ w.heap.size w p rs) (hok : ∀ s ∈ rs, okS s = true) (Bv : Blk w vb [.int .i64 x1, .int .i64 x2, .int .i64 x3, .int .i64 y1, .int .i64 y2, .int .i64 y3]) : Calls Tryz.prog 47 #[.pointer p, .pointer (some ⟨vb, 0, none⟩)] w (ErredB ((fbF rs.reverse (some oneM)).bind fun m => (appM m ((x1, x2, x3), (y1, y2, y3))).bind fun u => (valikeF u.1.1 u.1.2.1 u.1.2.2 u.2.1 u.2.2.1 u.2.2.2 x1 x2 x3 y1 y2 y3).map fun b => b && !vdarkB x1 x2 x3 y1 y2 y3) w) := by
  have cv := Bv.cell
  have fv := Bv.free
  have lv_w := Bv.lt
  have T := Lib.hid fun (W : World) (k : Acc w W) => fbStays_any n₀ rs p x1 x2 x3 y1 y2 y3 hx1 hx2 hx3 hy1 hy2 hy3 W (hf.keep k) hok
  clear hf hok hx1 hx2 hx3 hy1 hy2 hy3
  obtain ⟨o, ho⟩ : ∃ o, ((fbF rs.reverse (some oneM)).bind fun m => (appM m ((x1, x2, x3), (y1, y2, y3))).bind fun u => (valikeF u.1.1 u.1.2.1 u.1.2.2 u.2.1 u.2.2.1 u.2.2.2 x1 x2 x3 y1 y2 y3).map fun b => b && !vdarkB x1 x2 x3 y1 y2 y3) = o := ⟨_, rfl⟩
  rw [ho] at T ⊢
  clear ho
  go_enter Tryz.func47, Tryz.ntmps47
  go_wp2_with fail
  refine (vectorOf_any x1 x2 x3 y1 y2 y3 _).mono ?_
  rintro e W1 ⟨rfl, hb⟩
  have Bv : Blk W1 (vb) [.int .i64 x1, .int .i64 x2, .int .i64 x3, .int .i64 y1, .int .i64 y2, .int .i64 y3] := Blk.keep hb (by repeat' (first | (with_reducible first | assumption | refine Blk.drew ?_ | refine Blk.drewN ?_ _ | apply Blk.set | (refine Blk.new ?_; focus (first | rfl | (simp; done))) | refine Blk.alloc ?_ _ | refine Blk.other ?_ ?_ _) | exact eqL rfl | (refine neB ?_; omega)))
  have cv := Bv.cell
  have fv := Bv.free
  have lv_W1 := Bv.lt
  have kaW1 : Acc w W1 := by
    refine Acc.call ?_ hb
    (repeat' (first | (with_reducible first | assumption | exact Acc.refl _ | refine Acc.drew ?_ | refine Acc.drewN ?_ _ | refine Acc.alloc ?_ _ | refine Acc.setCell ?_ ?_ _) | (refine leB ?_; omega)))
  clear hb
  go_wp2_with fail
  refine (T.out _ (by repeat' (first | (with_reducible first | assumption | exact Acc.refl _ | refine Acc.drew ?_ | refine Acc.drewN ?_ _ | refine Acc.alloc ?_ _ | refine Acc.setCell ?_ ?_ _) | (refine leB ?_; omega)))).mono ?_
  rintro e W2 ⟨h1, h2, hb⟩
  have Bv : Blk W2 (vb) [.int .i64 x1, .int .i64 x2, .int .i64 x3, .int .i64 y1, .int .i64 y2, .int .i64 y3] := Blk.keep hb (by repeat' (first | (with_reducible first | assumption | refine Blk.drew ?_ | refine Blk.drewN ?_ _ | apply Blk.set | (refine Blk.new ?_; focus (first | rfl | (simp; done))) | refine Blk.alloc ?_ _ | refine Blk.other ?_ ?_ _) | exact eqL rfl | (refine neB ?_; omega)))
  have cv := Bv.cell
  have fv := Bv.free
  have lv_W2 := Bv.lt
  have kaW2 : Acc w W2 := by
    refine Acc.call ?_ hb
    (repeat' (first | (with_reducible first | assumption | exact Acc.refl _ | refine Acc.drew ?_ | refine Acc.drewN ?_ _ | refine Acc.alloc ?_ _ | refine Acc.setCell ?_ ?_ _) | (refine leB ?_; omega)))
  clear hb
  cases o with
  | none =>
    obtain ⟨s, rfl⟩ := h2 rfl
    clear h1 h2
    go_wp2_with fail
    refine bodyPost_ret (by conv => lhs; simp [results, Tryz.results47, go_sem, *]) rfl ⟨fun _ h => (by cases h), fun _ => ⟨_, rfl⟩, ?_⟩
    show Acc w _
    (repeat' (first | (with_reducible first | assumption | exact Acc.refl _ | refine Acc.drew ?_ | refine Acc.drewN ?_ _ | refine Acc.alloc ?_ _ | refine Acc.setCell ?_ ?_ _) | (refine leB ?_; omega)))
  | some b =>
    obtain rfl := h1 _ rfl
    clear h1 h2
    go_wp2_with fail
    refine bodyPost_ret (by conv => lhs; simp [results, Tryz.results47, go_sem, *]) rfl ⟨fun _ h => (by cases h; rfl), fun h => (by cases h), ?_⟩
    show Acc w _
    (repeat' (first | (with_reducible first | assumption | exact Acc.refl _ | refine Acc.drew ?_ | refine Acc.drewN ?_ _ | refine Acc.alloc ?_ _ | refine Acc.setCell ?_ ?_ _) | (refine leB ?_; omega)))
set_option maxRecDepth 100000 in
set_option maxHeartbeats 8000000 in
theorem ofFb_bool (a : Option Addr) (ls : List L4) (cap : Nat) (vb : Nat) (o : Option Bool) (w : World) (h : Lys w a ls) (hn : ls.length ≤ 1048576)
    (K : okFb ls = true → ∀ n₀ p W, Acc w W → Fib n₀ W.heap.size W p ls.reverse → Calls Tryz.prog 47 #[.pointer p, .pointer (some ⟨vb, 0, none⟩)] W (ErredB o W)) :
    Calls Tryz.prog 46 #[.slice a ls.length cap, .func (.func 47) #[] #[.pointer (some ⟨vb, 0, none⟩)]] w (ErredB (if okFb ls = true then o else none) w) := by
  have T := Lib.hid fun (W : World) (k : Acc w W) => fibreOf_any a ls cap W (h.keep k) hn
  clear h
  obtain ⟨v, hv⟩ : ∃ v, okFb ls = v := ⟨_, rfl⟩
  rw [hv] at K ⊢
  have HV := Lib.hid hv
  clear hv
  cases v with
  | false =>
    clear K
    show Calls _ _ _ _ (ErredB none w)
    go_enter Tryz.func46, Tryz.ntmps46
    go_wp2_with fail
    refine (T.out _ (by repeat' (first | (with_reducible first | assumption | exact Acc.refl _ | refine Acc.drew ?_ | refine Acc.drewN ?_ _ | refine Acc.alloc ?_ _ | refine Acc.setCell ?_ ?_ _) | (refine leB ?_; omega)))).mono ?_
    rintro e W1 ⟨-, h, hb⟩
    obtain ⟨s, rfl⟩ := h HV.out
    clear h
    have kaW1 : Acc w W1 := by
      refine Acc.call ?_ hb
      (repeat' (first | (with_reducible first | assumption | exact Acc.refl _ | refine Acc.drew ?_ | refine Acc.drewN ?_ _ | refine Acc.alloc ?_ _ | refine Acc.setCell ?_ ?_ _) | (refine leB ?_; omega)))
    clear hb
    go_wp2_with fail
    refine bodyPost_ret (by conv => lhs; simp [results, Tryz.results46, go_sem, *]) rfl ⟨fun _ h => (by cases h), fun _ => ⟨_, rfl⟩, ?_⟩
    show Acc w _
    (repeat' (first | (with_reducible first | assumption | exact Acc.refl _ | refine Acc.drew ?_ | refine Acc.drewN ?_ _ | refine Acc.alloc ?_ _ | refine Acc.setCell ?_ ?_ _) | (refine leB ?_; omega)))
  | true =>
    have HK := Lib.hid (K rfl)
    clear K
    show Calls _ _ _ _ (ErredB o w)
    go_enter Tryz.func46, Tryz.ntmps46
    go_wp2_with fail
    refine (T.out _ (by repeat' (first | (with_reducible first | assumption | exact Acc.refl _ | refine Acc.drew ?_ | refine Acc.drewN ?_ _ | refine Acc.alloc ?_ _ | refine Acc.setCell ?_ ?_ _) | (refine leB ?_; omega)))).mono ?_
    rintro e W1 ⟨h, -, hb⟩
    obtain ⟨p, rfl, hf⟩ := h HV.out
    clear h
    have kaW1 : Acc w W1 := by
      refine Acc.call ?_ hb
      (repeat' (first | (with_reducible first | assumption | exact Acc.refl _ | refine Acc.drew ?_ | refine Acc.drewN ?_ _ | refine Acc.alloc ?_ _ | refine Acc.setCell ?_ ?_ _) | (refine leB ?_; omega)))
    clear hb
    have HF := Lib.hid hf
    clear hf
    go_wp2_with fail
    refine (HK.out _ _ _ (by repeat' (first | (with_reducible first | assumption | exact Acc.refl _ | refine Acc.drew ?_ | refine Acc.drewN ?_ _ | refine Acc.alloc ?_ _ | refine Acc.setCell ?_ ?_ _) | (refine leB ?_; omega))) (HF.out.keep (show Acc W1 _ by repeat' (first | (with_reducible first | assumption | exact Acc.refl _ | refine Acc.drew ?_ | refine Acc.alloc ?_ _) | (refine leB ?_; omega))))).mono ?_
    rintro e W2 ⟨h1, h2, hb⟩
    have kaW2 : Acc w W2 := by
      refine Acc.call ?_ hb
      (repeat' (first | (with_reducible first | assumption | exact Acc.refl _ | refine Acc.drew ?_ | refine Acc.drewN ?_ _ | refine Acc.alloc ?_ _ | refine Acc.setCell ?_ ?_ _) | (refine leB ?_; omega)))
    clear hb
    cases o with
    | none =>
      obtain ⟨s, rfl⟩ := h2 rfl
      clear h1 h2
      go_wp2_with fail
      refine bodyPost_ret (by conv => lhs; simp [results, Tryz.results46, go_sem, *]) rfl ⟨fun _ h => (by cases h), fun _ => ⟨_, rfl⟩, ?_⟩
      show Acc w _
      (repeat' (first | (with_reducible first | assumption | exact Acc.refl _ | refine Acc.drew ?_ | refine Acc.drewN ?_ _ | refine Acc.alloc ?_ _ | refine Acc.setCell ?_ ?_ _) | (refine leB ?_; omega)))
    | some v =>
      obtain rfl := h1 _ rfl
      clear h1 h2
      go_wp2_with fail
      refine bodyPost_ret (by conv => lhs; simp [results, Tryz.results46, go_sem, *]) rfl ⟨fun _ h => (by cases h; rfl), fun h => (by cases h), ?_⟩
      show Acc w _
      (repeat' (first | (with_reducible first | assumption | exact Acc.refl _ | refine Acc.drew ?_ | refine Acc.drewN ?_ _ | refine Acc.alloc ?_ _ | refine Acc.setCell ?_ ?_ _) | (refine leB ?_; omega)))
theorem alikeF_comm (x1 x2 x3 y1 y2 y3 r1 r2 r3 r4 r5 r6 : Int) : alikeF r1 r2 r3 r4 r5 r6 x1 x2 x3 y1 y2 y3 = alikeF x1 x2 x3 y1 y2 y3 r1 r2 r3 r4 r5 r6 := by
  unfold alikeF
  rw [timesF_comm r1 r2 r3 y1 y2 y3, timesF_comm r4 r5 r6 x1 x2 x3]
  have hv : ∀ o p : Option (Int × Int × Int), vbeq o p = vbeq p o := by
    intro o p
    unfold vbeq
    rw [BEq.comm (a := (partsR o).1), BEq.comm (a := (partsR o).2.1), BEq.comm (a := (partsR o).2.2)]
  rw [hv (timesF y1 y2 y3 r1 r2 r3), Bool.and_comm (okR (timesF y1 y2 y3 r1 r2 r3)), show (darkB r1 r2 r3 r4 r5 r6 == darkB x1 x2 x3 y1 y2 y3) = (darkB x1 x2 x3 y1 y2 y3 == darkB r1 r2 r3 r4 r5 r6) from BEq.comm]
/-- What the program tells is what the model asks. -/
theorem staM_if (ls : List L4) (x1 x2 x3 y1 y2 y3 : Int) : staM ls x1 x2 x3 y1 y2 y3 = (if okFb ls = true then ((fbF ls (some oneM)).bind fun m => (appM m ((x1, x2, x3), (y1, y2, y3))).bind fun u => (valikeF u.1.1 u.1.2.1 u.1.2.2 u.2.1 u.2.2.1 u.2.2.2 x1 x2 x3 y1 y2 y3).map fun b => b && !vdarkB x1 x2 x3 y1 y2 y3) else none).getD false := by
  have e1 : (if okFb ls = true then ((fbF ls (some oneM)).bind fun m => (appM m ((x1, x2, x3), (y1, y2, y3))).bind fun u => (valikeF u.1.1 u.1.2.1 u.1.2.2 u.2.1 u.2.2.1 u.2.2.2 x1 x2 x3 y1 y2 y3).map fun b => b && !vdarkB x1 x2 x3 y1 y2 y3) else none) = (runM ls ((x1, x2, x3), (y1, y2, y3))).bind fun u => (valikeF u.1.1 u.1.2.1 u.1.2.2 u.2.1 u.2.2.1 u.2.2.2 x1 x2 x3 y1 y2 y3).map fun b => b && !vdarkB x1 x2 x3 y1 y2 y3 := by
    rw [runM_if]
    split
    · cases fbF ls (some oneM) <;> rfl
    · rfl
  rw [e1]
  unfold staM
  cases hr : runM ls ((x1, x2, x3), (y1, y2, y3)) with
  | none => rfl
  | some u =>
    obtain ⟨⟨r1, r2, r3⟩, r4, r5, r6⟩ := u
    have hv : okT (x1, x2, x3) = true ∧ okT (y1, y2, y3) = true := by
      unfold runM at hr
      cases e : fbM ls with
      | none => rw [e] at hr; cases hr
      | some m => rw [e] at hr; exact (fbApp_ok hr).2
    have hd : vdarkB x1 x2 x3 y1 y2 y3 = darkB x1 x2 x3 y1 y2 y3 := vdark_eq hv.1 hv.2
    show (!darkB x1 x2 x3 y1 y2 y3 && alikeF x1 x2 x3 y1 y2 y3 r1 r2 r3 r4 r5 r6) = ((valikeF r1 r2 r3 r4 r5 r6 x1 x2 x3 y1 y2 y3).map fun b => b && !vdarkB x1 x2 x3 y1 y2 y3).getD false
    rw [hd, ← alikeF_comm, alike_eq]
    cases valikeF r1 r2 r3 r4 r5 r6 x1 x2 x3 y1 y2 y3 with
    | none => cases darkB x1 x2 x3 y1 y2 y3 <;> rfl
    | some b => cases b <;> cases darkB x1 x2 x3 y1 y2 y3 <;> rfl
set_option maxRecDepth 100000 in
set_option maxHeartbeats 8000000 in
theorem implFbStays_any (a : Option Addr) (ls : List L4) (cap : Nat) (x1 x2 x3 y1 y2 y3 : Int) (hx1 : i64B x1) (hx2 : i64B x2) (hx3 : i64B x3) (hy1 : i64B y1) (hy2 : i64B y2) (hy3 : i64B y3) (w : World) (h : Lys w a ls) (hn : ls.length ≤ 1048576) (hl : Laid w) : Calls Tryz.prog 14 #[.slice a ls.length cap, .agg #[.int .i64 x1, .int .i64 x2, .int .i64 x3, .int .i64 y1, .int .i64 y2, .int .i64 y3]] w fun e w' => e = .returned (.bool (staM ls x1 x2 x3 y1 y2 y3)) ∧ Below w.heap.size w w' := by
  have T := Lib.hid fun (vb : Nat) (W : World) (k : Acc w W) (B : Blk W vb [.int .i64 x1, .int .i64 x2, .int .i64 x3, .int .i64 y1, .int .i64 y2, .int .i64 y3]) => ofFb_bool a ls cap vb ((fbF ls (some oneM)).bind fun m => (appM m ((x1, x2, x3), (y1, y2, y3))).bind fun u => (valikeF u.1.1 u.1.2.1 u.1.2.2 u.2.1 u.2.2.1 u.2.2.2 x1 x2 x3 y1 y2 y3).map fun b => b && !vdarkB x1 x2 x3 y1 y2 y3) W (h.keep k) hn (fun ok n₀ p V kV hf => by have := fbStaysC_any n₀ ls.reverse p vb x1 x2 x3 y1 y2 y3 hx1 hx2 hx3 hy1 hy2 hy3 V hf (fun s hs => okFb_mem ok (List.mem_reverse.1 hs)) (Blk.keep kV B); rwa [List.reverse_reverse] at this)
  rw [staM_if]
  obtain ⟨o, ho⟩ : ∃ o, (if okFb ls = true then ((fbF ls (some oneM)).bind fun m => (appM m ((x1, x2, x3), (y1, y2, y3))).bind fun u => (valikeF u.1.1 u.1.2.1 u.1.2.2 u.2.1 u.2.2.1 u.2.2.2 x1 x2 x3 y1 y2 y3).map fun b => b && !vdarkB x1 x2 x3 y1 y2 y3) else none) = o := ⟨_, rfl⟩
  rw [ho] at T ⊢
  clear h ho hx1 hx2 hx3 hy1 hy2 hy3
  have HL := Lib.hid fun W (k : Acc w W) => hl.acc k
  clear hl
  go_enter Tryz.func14, Tryz.ntmps14
  go_wp2_with fail
  refine (T.out (w.heap.size) _ (by repeat' (first | (with_reducible first | assumption | exact Acc.refl _ | refine Acc.drew ?_ | refine Acc.drewN ?_ _ | refine Acc.alloc ?_ _ | refine Acc.setCell ?_ ?_ _) | (refine leB ?_; omega))) (by repeat' (first | (with_reducible first | assumption | refine Blk.drew ?_ | refine Blk.drewN ?_ _ | apply Blk.set | (refine Blk.new ?_; focus (first | rfl | (simp; done))) | refine Blk.alloc ?_ _ | refine Blk.other ?_ ?_ _) | exact eqL rfl | (refine neB ?_; omega)))).mono ?_
  rintro e W1 ⟨h1, h2, hb⟩
  have Bv : Blk W1 (w.heap.size) [.int .i64 x1, .int .i64 x2, .int .i64 x3, .int .i64 y1, .int .i64 y2, .int .i64 y3] := Blk.keep hb (by repeat' (first | (with_reducible first | assumption | refine Blk.drew ?_ | refine Blk.drewN ?_ _ | apply Blk.set | (refine Blk.new ?_; focus (first | rfl | (simp; done))) | refine Blk.alloc ?_ _ | refine Blk.other ?_ ?_ _) | exact eqL rfl | (refine neB ?_; omega)))
  have cv := Bv.cell
  have fv := Bv.free
  have lv_W1 := Bv.lt
  have kaW1 : Acc w W1 := by
    refine Acc.call ?_ hb
    (repeat' (first | (with_reducible first | assumption | exact Acc.refl _ | refine Acc.drew ?_ | refine Acc.drewN ?_ _ | refine Acc.alloc ?_ _ | refine Acc.setCell ?_ ?_ _) | (refine leB ?_; omega)))
  clear hb
  cases o with
  | none =>
    obtain ⟨s, rfl⟩ := h2 rfl
    clear h1 h2
    go_wp2_with fail
    refine (holds_err _ s _ (HL.out _ (by repeat' (first | (with_reducible first | assumption | exact Acc.refl _ | refine Acc.drew ?_ | refine Acc.drewN ?_ _ | refine Acc.alloc ?_ _ | refine Acc.setCell ?_ ?_ _) | (refine leB ?_; omega))))).mono ?_
    rintro e W2 ⟨rfl, hb⟩
    have Bv : Blk W2 (w.heap.size) [.int .i64 x1, .int .i64 x2, .int .i64 x3, .int .i64 y1, .int .i64 y2, .int .i64 y3] := Blk.keep hb (by repeat' (first | (with_reducible first | assumption | refine Blk.drew ?_ | refine Blk.drewN ?_ _ | apply Blk.set | (refine Blk.new ?_; focus (first | rfl | (simp; done))) | refine Blk.alloc ?_ _ | refine Blk.other ?_ ?_ _) | exact eqL rfl | (refine neB ?_; omega)))
    have cv := Bv.cell
    have fv := Bv.free
    have lv_W2 := Bv.lt
    have kaW2 : Acc w W2 := by
      refine Acc.call ?_ hb
      (repeat' (first | (with_reducible first | assumption | exact Acc.refl _ | refine Acc.drew ?_ | refine Acc.drewN ?_ _ | refine Acc.alloc ?_ _ | refine Acc.setCell ?_ ?_ _) | (refine leB ?_; omega)))
    clear hb
    go_wp2_with fail
    go_ret
    refine ⟨rfl, ?_⟩
    show Acc w _
    (repeat' (first | (with_reducible first | assumption | exact Acc.refl _ | refine Acc.drew ?_ | refine Acc.drewN ?_ _ | refine Acc.alloc ?_ _ | refine Acc.setCell ?_ ?_ _) | (refine leB ?_; omega)))
  | some b =>
    obtain rfl := h1 _ rfl
    clear h1 h2
    go_wp2_with fail
    refine (holds_ok _ _).mono ?_
    rintro e W2 ⟨rfl, hb⟩
    have Bv : Blk W2 (w.heap.size) [.int .i64 x1, .int .i64 x2, .int .i64 x3, .int .i64 y1, .int .i64 y2, .int .i64 y3] := Blk.keep hb (by repeat' (first | (with_reducible first | assumption | refine Blk.drew ?_ | refine Blk.drewN ?_ _ | apply Blk.set | (refine Blk.new ?_; focus (first | rfl | (simp; done))) | refine Blk.alloc ?_ _ | refine Blk.other ?_ ?_ _) | exact eqL rfl | (refine neB ?_; omega)))
    have cv := Bv.cell
    have fv := Bv.free
    have lv_W2 := Bv.lt
    have kaW2 : Acc w W2 := by
      refine Acc.call ?_ hb
      (repeat' (first | (with_reducible first | assumption | exact Acc.refl _ | refine Acc.drew ?_ | refine Acc.drewN ?_ _ | refine Acc.alloc ?_ _ | refine Acc.setCell ?_ ?_ _) | (refine leB ?_; omega)))
    clear hb
    go_wp2_with fail
    go_ret
    refine ⟨rfl, ?_⟩
    show Acc w _
    (repeat' (first | (with_reducible first | assumption | exact Acc.refl _ | refine Acc.drew ?_ | refine Acc.drewN ?_ _ | refine Acc.alloc ?_ _ | refine Acc.setCell ?_ ?_ _) | (refine leB ?_; omega)))
end Go.Proofs.YtkdkeacfifjjoabGreatDoor
