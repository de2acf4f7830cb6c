/-
  The draws of the laws of two fractions.
-/
import Derived.Test.YtpbibfefcepeiaaDoorDrawOne
namespace Go.Proofs.YtpbibfefcepeiaaDoor
open Go.ChangeShapes Go.WideShapes Go.ChangeAt Go.RowKit
set_option linter.unusedVariables false

set_option maxHeartbeats 4000000 in
theorem fracs_any (s : Option Addr) (len cap : Nat) (w : World) (h : Code8 w s len cap) :
    Calls Tryd.prog 57 #[.slice s len cap] w (Drew2 w) := by
  have H0 := Lib.hid ((h.alloc (.cells #[.int .i64 0, .int .i64 0, .int .i64 0] 24)).alloc (.cells #[.int .i64 0, .int .i64 0, .int .i64 0] 24))
  clear h
  go_enter Tryd.func57, Tryd.ntmps57
  go_wp2_with fail
  refine (open_any s len cap _ H0.out).mono ?_
  rintro e w1 ⟨b, rfl, hb1, bel, hr⟩
  have HR := Lib.hid hr
  obtain ⟨r0, r1, r2⟩ := keep3 bel (b := w.heap.size) (x := .int .i64 0) (y := .int .i64 0) (z := .int .i64 0) (by go_simp)
  obtain ⟨f0, f1, f2⟩ := keepf3 bel (b := w.heap.size) (by simp; omega) (by go_simp)
  obtain ⟨r3, r4, r5⟩ := keep3 bel (b := w.heap.size + 1) (x := .int .i64 0) (y := .int .i64 0) (z := .int .i64 0) (by go_simp)
  obtain ⟨f3, f4, f5⟩ := keepf3 bel (b := w.heap.size + 1) (by simp) (by go_simp)
  have oa : Acc w w1 := Acc.call (((Acc.refl w).alloc _).alloc _) bel
  have hb2 : w.heap.size + 1 < b := by simp at hb1; omega
  clear hr H0 bel hb1
  go_wp2_with fail
  refine (frac_any b 0 w1 HR.out (by omega)).mono ?_
  rintro e w2 ⟨x, y, z, q, rfl, hd, ho, hq, hr⟩
  have HD := Lib.hid (drawn_i64 hd)
  have bw1 : b < w1.heap.size := HR.out.1
  obtain ⟨r0, r1, r2⟩ := keep3o ho (k := w.heap.size) (by omega) ⟨r0, r1, r2⟩
  obtain ⟨f0, f1, f2⟩ := keepf3o ho (k := w.heap.size) (by omega) (by omega) ⟨f0, f1, f2⟩
  obtain ⟨r3, r4, r5⟩ := keep3o ho (k := w.heap.size + 1) (by omega) ⟨r3, r4, r5⟩
  obtain ⟨f3, f4, f5⟩ := keepf3o ho (k := w.heap.size + 1) (by omega) (by omega) ⟨f3, f4, f5⟩
  have oa2 : Acc w w2 := Below.trans oa (ho.below (Below.size oa) (by omega))
  have HR2 := Lib.hid fun W (k : Below (b + 1) w2 W) => hr.keep k
  have bw2 : b < w2.heap.size := hr.1
  have kz0 : w.heap.size < w2.heap.size := by omega
  have kz1 : w.heap.size + 1 < w2.heap.size := by omega
  clear hr HR hd oa ho bw1
  go_upto_region 3 with fail
  go_region_held3 (fun w' => w'.cell? ⟨w2.heap.size, 0, none⟩ = some (.int .i64 x) ∧ w'.cell? ⟨w2.heap.size, 1, none⟩ = some (.int .i64 y) ∧ w'.cell? ⟨w2.heap.size, 2, none⟩ = some (.int .i64 z))
    (first | (go_keep; done) | ((try dsimp only); (repeat' apply And.intro) <;> first | (go_keep; done) | (go_simp; done) | (simp (disch := omega) [cell_other, *]; done)))
    ((go_at_call 45; refine (frac_any b q _ (HR2.out _ (by repeat' (first | assumption | exact Below.refl _ _ | refine Below.drew ?_ | refine below_alloc ?_ (by omega) _ | refine below_set ?_ (by omega) _))) (by omega)).mono ?_; rintro e w3 ⟨a, b', c, q', rfl, hd, ho, hq', -⟩; have HD2 := Lib.hid (drawn_i64 hd); obtain ⟨r0, r1, r2⟩ := keep3o ho (k := w.heap.size) (by omega) (x := .int .i64 0) (y := .int .i64 0) (z := .int .i64 0) (by go_simp); obtain ⟨f0, f1, f2⟩ := keepf3o ho (k := w.heap.size) (by omega) (by simp; omega) (by go_simp); obtain ⟨r3, r4, r5⟩ := keep3o ho (k := w.heap.size + 1) (by omega) (x := .int .i64 0) (y := .int .i64 0) (z := .int .i64 0) (by go_simp); obtain ⟨f3, f4, f5⟩ := keepf3o ho (k := w.heap.size + 1) (by omega) (by simp; omega) (by go_simp); obtain ⟨c0, c1, c2⟩ := keep3o ho (k := w2.heap.size) (by omega) (x := .int .i64 x) (y := .int .i64 y) (z := .int .i64 z) (by go_simp); have oa3 : Below w.heap.size _ w3 := ho.below (by simp; omega) (by omega); have oa4 : Acc w w3 := (Below.trans (by (show Acc w _); (repeat' (first | assumption | exact Acc.refl _ | refine Acc.drew ?_ | refine Acc.alloc ?_ _ | refine Acc.setCell ?_ (by omega) _))) oa3); clear ho oa3 hd))
  all_goals
    go_wp2_with fail
    refine bodyPost_ret (v := .tuple #[.agg #[.int .i64 x, .int .i64 y, .int .i64 z], .agg #[.int .i64 a, .int .i64 b', .int .i64 c]]) (by simp [results, Tryd.results57, go_sem, r0, r1, r2, r3, r4, r5]) rfl ⟨x, y, z, a, b', c, rfl, HD.out.1, HD.out.2.1, HD.out.2.2, HD2.out.1, HD2.out.2.1, HD2.out.2.2, ?_⟩
    show Acc w _
    (repeat (refine Acc.setCell ?_ (by omega) _))
    assumption
set_option maxHeartbeats 1000000 in
theorem drawFracAdd_any (s : Option Addr) (len cap : Nat) (w : World) (h : Code8 w s len cap) :
    Calls Tryd.prog 20 #[.slice s len cap] w (Drew2 w) := by
  have H := Lib.hid ((h.alloc (.cells #[.int .i64 0, .int .i64 0, .int .i64 0] 24)).alloc (.cells #[.int .i64 0, .int .i64 0, .int .i64 0] 24))
  clear h
  go_enter Tryd.func20, Tryd.ntmps20
  go_wp2_with fail
  refine (fracs_any s len cap _ H.out).mono ?_
  rintro e w1 ⟨x, y, z, a, b, c, rfl, h1, h2, h3, h4, h5, h6, hb⟩
  have HD := Lib.hid (And.intro h1 (And.intro h2 (And.intro h3 (And.intro h4 (And.intro h5 h6)))))
  clear h1 h2 h3 h4 h5 h6 H
  obtain ⟨r0, r1, r2⟩ := keep3 hb (b := w.heap.size) (x := .int .i64 0) (y := .int .i64 0) (z := .int .i64 0) (by go_simp)
  obtain ⟨f0, f1, f2⟩ := keepf3 hb (b := w.heap.size) (by simp; omega) (by go_simp)
  obtain ⟨r3, r4, r5⟩ := keep3 hb (b := w.heap.size + 1) (x := .int .i64 0) (y := .int .i64 0) (z := .int .i64 0) (by go_simp)
  obtain ⟨f3, f4, f5⟩ := keepf3 hb (b := w.heap.size + 1) (by simp) (by go_simp)
  have oa : Acc w w1 := Acc.call (((Acc.refl w).alloc _).alloc _) hb
  clear hb
  go_wp2_with fail
  refine bodyPost_ret (v := .tuple #[.agg #[.int .i64 x, .int .i64 y, .int .i64 z], .agg #[.int .i64 a, .int .i64 b, .int .i64 c]]) (by simp [results, Tryd.results20, go_sem, r0, r1, r2, r3, r4, r5]) rfl ⟨x, y, z, a, b, c, rfl, HD.out.1, HD.out.2.1, HD.out.2.2.1, HD.out.2.2.2.1, HD.out.2.2.2.2.1, HD.out.2.2.2.2.2, ?_⟩
  show Acc w _
  (repeat (refine Acc.setCell ?_ (by omega) _))
  assumption
set_option maxHeartbeats 1000000 in
theorem drawFracLess_any (s : Option Addr) (len cap : Nat) (w : World) (h : Code8 w s len cap) :
    Calls Tryd.prog 23 #[.slice s len cap] w (Drew2 w) := by
  have H := Lib.hid ((h.alloc (.cells #[.int .i64 0, .int .i64 0, .int .i64 0] 24)).alloc (.cells #[.int .i64 0, .int .i64 0, .int .i64 0] 24))
  clear h
  go_enter Tryd.func23, Tryd.ntmps23
  go_wp2_with fail
  refine (fracs_any s len cap _ H.out).mono ?_
  rintro e w1 ⟨x, y, z, a, b, c, rfl, h1, h2, h3, h4, h5, h6, hb⟩
  have HD := Lib.hid (And.intro h1 (And.intro h2 (And.intro h3 (And.intro h4 (And.intro h5 h6)))))
  clear h1 h2 h3 h4 h5 h6 H
  obtain ⟨r0, r1, r2⟩ := keep3 hb (b := w.heap.size) (x := .int .i64 0) (y := .int .i64 0) (z := .int .i64 0) (by go_simp)
  obtain ⟨f0, f1, f2⟩ := keepf3 hb (b := w.heap.size) (by simp; omega) (by go_simp)
  obtain ⟨r3, r4, r5⟩ := keep3 hb (b := w.heap.size + 1) (x := .int .i64 0) (y := .int .i64 0) (z := .int .i64 0) (by go_simp)
  obtain ⟨f3, f4, f5⟩ := keepf3 hb (b := w.heap.size + 1) (by simp) (by go_simp)
  have oa : Acc w w1 := Acc.call (((Acc.refl w).alloc _).alloc _) hb
  clear hb
  go_wp2_with fail
  refine bodyPost_ret (v := .tuple #[.agg #[.int .i64 x, .int .i64 y, .int .i64 z], .agg #[.int .i64 a, .int .i64 b, .int .i64 c]]) (by simp [results, Tryd.results23, go_sem, r0, r1, r2, r3, r4, r5]) rfl ⟨x, y, z, a, b, c, rfl, HD.out.1, HD.out.2.1, HD.out.2.2.1, HD.out.2.2.2.1, HD.out.2.2.2.2.1, HD.out.2.2.2.2.2, ?_⟩
  show Acc w _
  (repeat (refine Acc.setCell ?_ (by omega) _))
  assumption
set_option maxHeartbeats 1000000 in
theorem drawFracTimes_any (s : Option Addr) (len cap : Nat) (w : World) (h : Code8 w s len cap) :
    Calls Tryd.prog 25 #[.slice s len cap] w (Drew2 w) := by
  have H := Lib.hid ((h.alloc (.cells #[.int .i64 0, .int .i64 0, .int .i64 0] 24)).alloc (.cells #[.int .i64 0, .int .i64 0, .int .i64 0] 24))
  clear h
  go_enter Tryd.func25, Tryd.ntmps25
  go_wp2_with fail
  refine (fracs_any s len cap _ H.out).mono ?_
  rintro e w1 ⟨x, y, z, a, b, c, rfl, h1, h2, h3, h4, h5, h6, hb⟩
  have HD := Lib.hid (And.intro h1 (And.intro h2 (And.intro h3 (And.intro h4 (And.intro h5 h6)))))
  clear h1 h2 h3 h4 h5 h6 H
  obtain ⟨r0, r1, r2⟩ := keep3 hb (b := w.heap.size) (x := .int .i64 0) (y := .int .i64 0) (z := .int .i64 0) (by go_simp)
  obtain ⟨f0, f1, f2⟩ := keepf3 hb (b := w.heap.size) (by simp; omega) (by go_simp)
  obtain ⟨r3, r4, r5⟩ := keep3 hb (b := w.heap.size + 1) (x := .int .i64 0) (y := .int .i64 0) (z := .int .i64 0) (by go_simp)
  obtain ⟨f3, f4, f5⟩ := keepf3 hb (b := w.heap.size + 1) (by simp) (by go_simp)
  have oa : Acc w w1 := Acc.call (((Acc.refl w).alloc _).alloc _) hb
  clear hb
  go_wp2_with fail
  refine bodyPost_ret (v := .tuple #[.agg #[.int .i64 x, .int .i64 y, .int .i64 z], .agg #[.int .i64 a, .int .i64 b, .int .i64 c]]) (by simp [results, Tryd.results25, go_sem, r0, r1, r2, r3, r4, r5]) rfl ⟨x, y, z, a, b, c, rfl, HD.out.1, HD.out.2.1, HD.out.2.2.1, HD.out.2.2.2.1, HD.out.2.2.2.2.1, HD.out.2.2.2.2.2, ?_⟩
  show Acc w _
  (repeat (refine Acc.setCell ?_ (by omega) _))
  assumption
set_option maxHeartbeats 1000000 in
theorem drawFracOver_any (s : Option Addr) (len cap : Nat) (w : World) (h : Code8 w s len cap) :
    Calls Tryd.prog 30 #[.slice s len cap] w (Drew2 w) := by
  have H := Lib.hid ((h.alloc (.cells #[.int .i64 0, .int .i64 0, .int .i64 0] 24)).alloc (.cells #[.int .i64 0, .int .i64 0, .int .i64 0] 24))
  clear h
  go_enter Tryd.func30, Tryd.ntmps30
  go_wp2_with fail
  refine (fracs_any s len cap _ H.out).mono ?_
  rintro e w1 ⟨x, y, z, a, b, c, rfl, h1, h2, h3, h4, h5, h6, hb⟩
  have HD := Lib.hid (And.intro h1 (And.intro h2 (And.intro h3 (And.intro h4 (And.intro h5 h6)))))
  clear h1 h2 h3 h4 h5 h6 H
  obtain ⟨r0, r1, r2⟩ := keep3 hb (b := w.heap.size) (x := .int .i64 0) (y := .int .i64 0) (z := .int .i64 0) (by go_simp)
  obtain ⟨f0, f1, f2⟩ := keepf3 hb (b := w.heap.size) (by simp; omega) (by go_simp)
  obtain ⟨r3, r4, r5⟩ := keep3 hb (b := w.heap.size + 1) (x := .int .i64 0) (y := .int .i64 0) (z := .int .i64 0) (by go_simp)
  obtain ⟨f3, f4, f5⟩ := keepf3 hb (b := w.heap.size + 1) (by simp) (by go_simp)
  have oa : Acc w w1 := Acc.call (((Acc.refl w).alloc _).alloc _) hb
  clear hb
  go_wp2_with fail
  refine bodyPost_ret (v := .tuple #[.agg #[.int .i64 x, .int .i64 y, .int .i64 z], .agg #[.int .i64 a, .int .i64 b, .int .i64 c]]) (by simp [results, Tryd.results30, go_sem, r0, r1, r2, r3, r4, r5]) rfl ⟨x, y, z, a, b, c, rfl, HD.out.1, HD.out.2.1, HD.out.2.2.1, HD.out.2.2.2.1, HD.out.2.2.2.2.1, HD.out.2.2.2.2.2, ?_⟩
  show Acc w _
  (repeat (refine Acc.setCell ?_ (by omega) _))
  assumption
end Go.Proofs.YtpbibfefcepeiaaDoor
