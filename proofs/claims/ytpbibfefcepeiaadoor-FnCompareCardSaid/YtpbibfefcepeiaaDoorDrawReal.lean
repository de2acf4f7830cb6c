/-
  The draw of a real fraction, most often; of two of them.
-/
import Derived.Test.YtpbibfefcepeiaaDoorDrawTwo
namespace Go.Proofs.YtpbibfefcepeiaaDoor
open Go.ChangeShapes Go.WideShapes Go.ChangeAt Go.RowKit
set_option linter.unusedVariables false

def DrewReal (b p : Nat) (w : World) (e : Ending) (w' : World) : Prop :=
  ∃ (x y z : Int) (q : Nat), e = .returned (.agg #[.int .i64 x, .int .i64 y, .int .i64 z]) ∧ (i64B x ∧ i64B y ∧ i64B z) ∧ Only b w w' ∧ q ≤ p + 9 ∧ Rd w' b q
theorem parts_low {x y d : Int} : i64B (partsR (lowF x y d)).1 ∧ i64B (partsR (lowF x y d)).2.1 ∧ i64B (partsR (lowF x y d)).2.2 := by
  unfold lowF
  simp only
  split
  · rename_i hk
    have := okF_bd hk
    simp only [partsR, Option.getD_some]
    unfold i64B; omega
  · simp only [partsR, Option.getD_none]
    unfold i64B; omega
set_option maxHeartbeats 2000000 in
theorem real_any (b p : Nat) (w : World) (h : Rd w b p) (hp : p < 999900) :
    Calls Tryd.prog 65 #[.pointer (some ⟨b, 0, none⟩)] w (DrewReal b p w) := by
  have hbw : b < w.heap.size := h.1
  have H0 := Lib.hid (h.keep ((Below.refl _ _).alloc (by omega) (.cells #[.int .i64 0, .int .i64 0, .int .i64 0] 24)))
  clear h
  go_enter Tryd.func65, Tryd.ntmps65
  go_wp2_with fail
  refine (frac_any b p _ H0.out (by omega)).mono ?_
  rintro e w1 ⟨x, y, z, q, rfl, hd, ho, hq, hr⟩
  have HD := Lib.hid (drawn_i64 hd)
  have HR := Lib.hid (hr.keep ((Below.refl _ _).alloc (by have := hr.1; omega) (.cells #[.int .i64 x, .int .i64 y, .int .i64 z] 24)))
  have bw1 : b < w1.heap.size := hr.1
  obtain ⟨r0, r1, r2⟩ := keep3o ho (k := w.heap.size) (by omega) (x := .int .i64 0) (y := .int .i64 0) (z := .int .i64 0) (by go_simp)
  obtain ⟨f0, f1, f2⟩ := keepf3o ho (k := w.heap.size) (by omega) (by first | (simp; done) | (simp; omega) | omega) (by go_simp)
  have kz : w.heap.size < w1.heap.size := World.block_lt_of_cell? _ _ r0
  have oa : Only b w w1 := ((Only.refl b w).alloc _).trans ho
  clear ho hd hr H0
  go_wp2_with fail
  refine (pick_any b q 20 _ HR.out (by omega) (by omega) (by omega)).mono ?_
  rintro e w2 ⟨k, rfl, k0, k1, ho, hr⟩
  have HR2 := Lib.hid hr
  obtain ⟨r0, r1, r2⟩ := keep3o ho (k := w.heap.size) (by omega) (x := .int .i64 0) (y := .int .i64 0) (z := .int .i64 0) (by go_simp)
  obtain ⟨f0, f1, f2⟩ := keepf3o ho (k := w.heap.size) (by omega) (by simp; omega) (by go_simp)
  obtain ⟨c0, c1, c2⟩ := keep3o ho (k := w1.heap.size) (by omega) (x := .int .i64 x) (y := .int .i64 y) (z := .int .i64 z) (by go_simp)
  have kz : w.heap.size < w2.heap.size := World.block_lt_of_cell? _ _ r0
  have bw2 : b < w2.heap.size := hr.1
  have oa : Only b w w2 := (oa.alloc _).trans ho
  clear ho hr HR
  go_wp2_with fail
  · refine bodyPost_ret (v := .agg #[.int .i64 x, .int .i64 y, .int .i64 z]) (by simp [results, Tryd.results65, go_sem, r0, r1, r2]) rfl ⟨x, y, z, q + 1, rfl, HD.out, ?_, by omega, HR2.out.keep ?_⟩
    · (repeat' (first | assumption | exact Only.refl _ _ | refine Only.drew ?_ | refine Only.alloc ?_ _ | refine Only.setCell ?_ (by omega) _))
    · (repeat' (first | assumption | exact Below.refl _ _ | refine Below.drew ?_ | refine below_alloc ?_ (by omega) _ | refine below_set ?_ (by omega) _))
  · refine (pick_any b (q + 1) 17 _ HR2.out (by omega) (by omega) (by omega)).mono ?_
    rintro e w3 ⟨j, rfl, j0, j1, ho, hr⟩
    have HR3 := Lib.hid hr
    obtain ⟨r0, r1, r2⟩ := keep3o ho (k := w.heap.size) (by omega) ⟨r0, r1, r2⟩
    obtain ⟨f0, f1, f2⟩ := keepf3o ho (k := w.heap.size) (by omega) (by omega) ⟨f0, f1, f2⟩
    have kz : w.heap.size < w3.heap.size := World.block_lt_of_cell? _ _ r0
    have oa : Only b w w3 := oa.trans ho
    clear ho hr HR2
    go_wp2_with fail
    refine (pick_any b (q + 2) 4 _ HR3.out (by omega) (by omega) (by omega)).mono ?_
    rintro e w4 ⟨m, rfl, m0, m1, ho, hr⟩
    have HR4 := Lib.hid hr
    obtain ⟨r0, r1, r2⟩ := keep3o ho (k := w.heap.size) (by omega) ⟨r0, r1, r2⟩
    obtain ⟨f0, f1, f2⟩ := keepf3o ho (k := w.heap.size) (by omega) (by omega) ⟨f0, f1, f2⟩
    have kz : w.heap.size < w4.heap.size := World.block_lt_of_cell? _ _ r0
    have bw4 : b < w4.heap.size := hr.1
    have oa : Only b w w4 := oa.trans ho
    clear ho hr HR3
    go_wp2_with fail
    have SL := specLow_any (j - 8) 0 (1 + m) w4 (by omega) (by omega) (by omega)
    have PL := parts_low (x := j - 8) (y := 0) (d := 1 + m)
    obtain ⟨o, hoo⟩ : ∃ o, lowF (j - 8) 0 (1 + m) = o := ⟨_, rfl⟩
    rw [hoo] at SL PL
    have PL' := Lib.hid PL
    have SL' := Lib.hid SL
    clear hoo PL SL
    refine SL'.out.mono ?_
    rintro e w5 ⟨rfl, hb⟩
    rw [resV_eq]
    have oa : Only b w w5 := oa.call hb
    obtain ⟨r0, r1, r2⟩ := keep3 hb (b := w.heap.size) ⟨r0, r1, r2⟩
    obtain ⟨f0, f1, f2⟩ := keepf3 hb (b := w.heap.size) kz ⟨f0, f1, f2⟩
    have kz : w.heap.size < w5.heap.size := World.block_lt_of_cell? _ _ r0
    have HR5 := Lib.hid (HR4.out.keep (hb.mono (by omega)))
    have bw5 : b < w5.heap.size := HR5.out.1
    clear hb HR4
    go_wp2_with fail
    refine bodyPost_ret (v := .agg #[.int .i64 (partsR o).1, .int .i64 (partsR o).2.1, .int .i64 (partsR o).2.2]) (by simp [results, Tryd.results65, go_sem, r0, r1, r2, kz]) rfl ⟨_, _, _, q + 3, rfl, PL'.out, ?_, by omega, HR5.out.keep ?_⟩
    · (repeat' (first | assumption | exact Only.refl _ _ | refine Only.drew ?_ | refine Only.alloc ?_ _ | refine Only.setCell ?_ (by omega) _))
    · (repeat' (first | assumption | exact Below.refl _ _ | refine Below.drew ?_ | refine below_alloc ?_ (by omega) _ | refine below_set ?_ (by omega) _))
set_option maxHeartbeats 4000000 in
theorem drawFracCompare_any (s : Option Addr) (len cap : Nat) (w : World) (h : Code8 w s len cap) :
    Calls Tryd.prog 37 #[.slice s len cap] w (Drew2 w) := by
  have H0 := Lib.hid ((h.alloc (.cells #[.int .i64 0, .int .i64 0, .int .i64 0] 24)).alloc (.cells #[.int .i64 0, .int .i64 0, .int .i64 0] 24))
  clear h
  go_enter Tryd.func37, Tryd.ntmps37
  go_wp2_with fail
  refine (open_any s len cap _ H0.out).mono ?_
  rintro e w1 ⟨b, rfl, hb1, bel, hr⟩
  have HR := Lib.hid hr
  obtain ⟨r0, r1, r2⟩ := keep3 bel (b := w.heap.size) (x := .int .i64 0) (y := .int .i64 0) (z := .int .i64 0) (by go_simp)
  obtain ⟨f0, f1, f2⟩ := keepf3 bel (b := w.heap.size) (by simp; omega) (by go_simp)
  obtain ⟨r3, r4, r5⟩ := keep3 bel (b := w.heap.size + 1) (x := .int .i64 0) (y := .int .i64 0) (z := .int .i64 0) (by go_simp)
  obtain ⟨f3, f4, f5⟩ := keepf3 bel (b := w.heap.size + 1) (by simp) (by go_simp)
  have oa : Acc w w1 := Acc.call (((Acc.refl w).alloc _).alloc _) bel
  have hb2 : w.heap.size + 1 < b := by simp at hb1; omega
  clear hr H0 bel hb1
  go_wp2_with fail
  refine (real_any b 0 w1 HR.out (by omega)).mono ?_
  rintro e w2 ⟨x, y, z, q, rfl, hd, ho, hq, hr⟩
  have HD := Lib.hid hd
  have bw1 : b < w1.heap.size := HR.out.1
  obtain ⟨r0, r1, r2⟩ := keep3o ho (k := w.heap.size) (by omega) ⟨r0, r1, r2⟩
  obtain ⟨f0, f1, f2⟩ := keepf3o ho (k := w.heap.size) (by omega) (by omega) ⟨f0, f1, f2⟩
  obtain ⟨r3, r4, r5⟩ := keep3o ho (k := w.heap.size + 1) (by omega) ⟨r3, r4, r5⟩
  obtain ⟨f3, f4, f5⟩ := keepf3o ho (k := w.heap.size + 1) (by omega) (by omega) ⟨f3, f4, f5⟩
  have oa2 : Acc w w2 := Below.trans oa (ho.below (Below.size oa) (by omega))
  have HR2 := Lib.hid fun W (k : Below (b + 1) w2 W) => hr.keep k
  have bw2 : b < w2.heap.size := hr.1
  have kz0 : w.heap.size < w2.heap.size := by omega
  have kz1 : w.heap.size + 1 < w2.heap.size := by omega
  clear hr HR hd oa ho bw1
  go_upto_region 3 with fail
  go_region_held3 (fun w' => w'.cell? ⟨w2.heap.size, 0, none⟩ = some (.int .i64 x) ∧ w'.cell? ⟨w2.heap.size, 1, none⟩ = some (.int .i64 y) ∧ w'.cell? ⟨w2.heap.size, 2, none⟩ = some (.int .i64 z))
    (first | (go_keep; done) | ((try dsimp only); (repeat' apply And.intro) <;> first | (go_keep; done) | (go_simp; done) | (simp (disch := omega) [cell_other, *]; done)))
    ((go_at_call 65; refine (real_any b q _ (HR2.out _ (by repeat' (first | assumption | exact Below.refl _ _ | refine Below.drew ?_ | refine below_alloc ?_ (by omega) _ | refine below_set ?_ (by omega) _))) (by omega)).mono ?_; rintro e w3 ⟨a, b', c, q', rfl, hd, ho, hq', -⟩; have HD2 := Lib.hid hd; obtain ⟨r0, r1, r2⟩ := keep3o ho (k := w.heap.size) (by omega) (x := .int .i64 0) (y := .int .i64 0) (z := .int .i64 0) (by go_simp); obtain ⟨f0, f1, f2⟩ := keepf3o ho (k := w.heap.size) (by omega) (by simp; omega) (by go_simp); obtain ⟨r3, r4, r5⟩ := keep3o ho (k := w.heap.size + 1) (by omega) (x := .int .i64 0) (y := .int .i64 0) (z := .int .i64 0) (by go_simp); obtain ⟨f3, f4, f5⟩ := keepf3o ho (k := w.heap.size + 1) (by omega) (by simp; omega) (by go_simp); obtain ⟨c0, c1, c2⟩ := keep3o ho (k := w2.heap.size) (by omega) (x := .int .i64 x) (y := .int .i64 y) (z := .int .i64 z) (by go_simp); have oa3 : Below w.heap.size _ w3 := ho.below (by simp; omega) (by omega); have oa4 : Acc w w3 := (Below.trans (by (show Acc w _); (repeat' (first | assumption | exact Acc.refl _ | refine Acc.drew ?_ | refine Acc.alloc ?_ _ | refine Acc.setCell ?_ (by omega) _))) oa3); clear ho oa3 hd))
  all_goals
    go_wp2_with fail
    refine bodyPost_ret (v := .tuple #[.agg #[.int .i64 x, .int .i64 y, .int .i64 z], .agg #[.int .i64 a, .int .i64 b', .int .i64 c]]) (by simp [results, Tryd.results37, go_sem, r0, r1, r2, r3, r4, r5]) rfl ⟨x, y, z, a, b', c, rfl, HD.out.1, HD.out.2.1, HD.out.2.2, HD2.out.1, HD2.out.2.1, HD2.out.2.2, ?_⟩
    show Acc w _
    (repeat (refine Acc.setCell ?_ (by omega) _))
    assumption
end Go.Proofs.YtpbibfefcepeiaaDoor
