/-
  The draws of fractions.
-/
import Derived.Test.YtkdkeacfifjjoabGreatDoorBMem
import Derived.Test.YtkdkeacfifjjoabGreatDoorBSpecF
namespace Go.Proofs.YtkdkeacfifjjoabGreatDoor
open Go.ChangeShapes Go.WideShapes Go.ChangeAt Go.RowKit
set_option linter.unusedVariables false

theorem keep3o {b : Nat} {W w' : World} (hb : Only b W w') {k : Nat} (hk : k ≠ b) {x y z : Value} (h : W.cell? ⟨k, 0, none⟩ = some x ∧ W.cell? ⟨k, 1, none⟩ = some y ∧ W.cell? ⟨k, 2, none⟩ = some z) :
    w'.cell? ⟨k, 0, none⟩ = some x ∧ w'.cell? ⟨k, 1, none⟩ = some y ∧ w'.cell? ⟨k, 2, none⟩ = some z :=
  have l : k < W.heap.size := World.block_lt_of_cell? W _ h.1
  ⟨(hb.cell (p := ⟨k, 0, none⟩) l hk).trans h.1, (hb.cell (p := ⟨k, 1, none⟩) l hk).trans h.2.1, (hb.cell (p := ⟨k, 2, none⟩) l hk).trans h.2.2⟩
theorem keepf3o {b : Nat} {W w' : World} (hb : Only b W w') {k : Nat} (hk : k ≠ b) (h : k < W.heap.size) (hf : W.frozen? ⟨k, 0, none⟩ = false ∧ W.frozen? ⟨k, 1, none⟩ = false ∧ W.frozen? ⟨k, 2, none⟩ = false) :
    w'.frozen? ⟨k, 0, none⟩ = false ∧ w'.frozen? ⟨k, 1, none⟩ = false ∧ w'.frozen? ⟨k, 2, none⟩ = false :=
  ⟨(hb.frozen (p := ⟨k, 0, none⟩) h hk).trans hf.1, (hb.frozen (p := ⟨k, 1, none⟩) h hk).trans hf.2.1, (hb.frozen (p := ⟨k, 2, none⟩) h hk).trans hf.2.2⟩

/-- The reader stays where nothing up to its block changes. -/
theorem Rd.keep {w w' : World} {b p : Nat} (h : Rd w b p) (k : Below (b + 1) w w') : Rd w' b p := by
  obtain ⟨hb, hp1, hfz, hc1, hrest⟩ := h
  refine ⟨Nat.lt_of_lt_of_le hb k.size, hp1, (k.frozen (p := ⟨b, 1, none⟩) (Nat.lt_succ_self b)).trans hfz, (k.cell (p := ⟨b, 1, none⟩) (Nat.lt_succ_self b)).trans hc1, ?_⟩
  rcases hrest with ⟨a, cap, hc0⟩ | ⟨c, off, len, cap, hcb, hl0, hl, hc0, hz⟩
  · exact .inl ⟨a, cap, (k.cell (p := ⟨b, 0, none⟩) (Nat.lt_succ_self b)).trans hc0⟩
  · refine .inr ⟨c, off, len, cap, hcb, hl0, hl, (k.cell (p := ⟨b, 0, none⟩) (Nat.lt_succ_self b)).trans hc0, fun i hi => ?_⟩
    obtain ⟨z, z0, z1, hzc⟩ := hz i hi
    exact ⟨z, z0, z1, (k.cell (p := ⟨c, off + i, none⟩) (Nat.lt_succ_of_lt hcb)).trans hzc⟩

/-- A drawn fraction. -/
def DrawnF (x y z : Int) : Prop :=
  (x = 2 ∧ y = 4 ∧ z = 2) ∨ (x = 1 ∧ y = 0 ∧ z = 0) ∨ (x = 2000000000 ∧ y = 1 ∧ z = 7) ∨ (x = 0 ∧ y = 0 ∧ z = 1) ∨
  ∃ re im den : Int, (-6 ≤ re ∧ re ≤ 6) ∧ (-4 ≤ im ∧ im ≤ 4) ∧ (1 ≤ den ∧ den ≤ 5) ∧ (x, y, z) = partsR (lowF re im den)
def DrewFrac (b p : Nat) (w : World) (e : Ending) (w' : World) : Prop :=
  ∃ (x y z : Int) (q : Nat), e = .returned (.agg #[.int .i64 x, .int .i64 y, .int .i64 z]) ∧ DrawnF x y z ∧ Only b w w' ∧ q ≤ p + 5 ∧ Rd w' b q

set_option maxHeartbeats 2000000 in
theorem frac_any (b p : Nat) (w : World) (h : Rd w b p) (hp : p < 999980) :
    Calls Tryz.prog 86 #[.pointer (some ⟨b, 0, none⟩)] w (DrewFrac b p w) := by
  have hbw : b < w.heap.size := h.1
  have h0 : Rd (w.alloc (.cells #[.int .i64 0, .int .i64 0, .int .i64 0] 28)) b p := h.keep ((Below.refl _ _).alloc (by omega) _)
  have H0 := Lib.hid h0
  clear h h0
  go_enter Tryz.func86, Tryz.ntmps86
  go_wp2_with fail
  refine (pick_any b p 40 _ H0.out (by omega) (by omega) (by omega)).mono ?_
  rintro e w1 ⟨k, rfl, k0, k1, ho, hr⟩
  have HR := Lib.hid hr
  clear hr H0
  obtain ⟨r0, r1, r2⟩ := keep3o ho (k := w.heap.size) (by omega) (x := .int .i64 0) (y := .int .i64 0) (z := .int .i64 0) (by go_simp)
  have kz : w.heap.size < w1.heap.size := World.block_lt_of_cell? _ _ r0
  obtain ⟨f0, f1, f2⟩ := keepf3o ho (k := w.heap.size) (by omega) (by go_simp) (by go_simp)
  have oa : Only b w w1 := ((Only.refl b w).alloc _).trans ho
  clear ho
  have hbz : b < w1.heap.size := by omega
  go_wp2_with fail
  · skip
    refine bodyPost_ret (v := .agg #[.int .i64 2, .int .i64 4, .int .i64 2]) (by simp [results, Tryz.results86, go_sem, r0, r1, r2]) rfl ⟨_, _, _, p + 1, rfl, .inl ⟨rfl, rfl, rfl⟩, ?_, by omega, HR.out.keep ?_⟩
    · (repeat' (first | assumption | exact Only.refl _ _ | refine Only.drew ?_ | refine Only.alloc ?_ _ | refine Only.setCell ?_ (by omega) _))
    · (repeat' (first | assumption | exact Below.refl _ _ | refine Below.drew ?_ | refine below_alloc ?_ (by omega) _ | refine below_set ?_ (by omega) _))
  · skip
    refine bodyPost_ret (v := .agg #[.int .i64 1, .int .i64 0, .int .i64 0]) (by simp [results, Tryz.results86, go_sem, r0, r1, r2]) rfl ⟨_, _, _, p + 1, rfl, .inr (.inl ⟨rfl, rfl, rfl⟩), ?_, by omega, HR.out.keep ?_⟩
    · (repeat' (first | assumption | exact Only.refl _ _ | refine Only.drew ?_ | refine Only.alloc ?_ _ | refine Only.setCell ?_ (by omega) _))
    · (repeat' (first | assumption | exact Below.refl _ _ | refine Below.drew ?_ | refine below_alloc ?_ (by omega) _ | refine below_set ?_ (by omega) _))
  · skip
    refine bodyPost_ret (v := .agg #[.int .i64 2000000000, .int .i64 1, .int .i64 7]) (by simp [results, Tryz.results86, go_sem, r0, r1, r2]) rfl ⟨_, _, _, p + 1, rfl, .inr (.inr (.inl ⟨rfl, rfl, rfl⟩)), ?_, by omega, HR.out.keep ?_⟩
    · (repeat' (first | assumption | exact Only.refl _ _ | refine Only.drew ?_ | refine Only.alloc ?_ _ | refine Only.setCell ?_ (by omega) _))
    · (repeat' (first | assumption | exact Below.refl _ _ | refine Below.drew ?_ | refine below_alloc ?_ (by omega) _ | refine below_set ?_ (by omega) _))
  · skip
    refine bodyPost_ret (v := .agg #[.int .i64 0, .int .i64 0, .int .i64 1]) (by simp [results, Tryz.results86, go_sem, r0, r1, r2]) rfl ⟨_, _, _, p + 1, rfl, .inr (.inr (.inr (.inl ⟨rfl, rfl, rfl⟩))), ?_, by omega, HR.out.keep ?_⟩
    · (repeat' (first | assumption | exact Only.refl _ _ | refine Only.drew ?_ | refine Only.alloc ?_ _ | refine Only.setCell ?_ (by omega) _))
    · (repeat' (first | assumption | exact Below.refl _ _ | refine Below.drew ?_ | refine below_alloc ?_ (by omega) _ | refine below_set ?_ (by omega) _))
  · refine (pick_any b (p + 1) 13 _ HR.out (by omega) (by omega) (by omega)).mono ?_
    rintro e w2 ⟨j, rfl, j0, j1, ho, hr⟩
    have HR2 := Lib.hid hr
    clear hr HR
    obtain ⟨r0, r1, r2⟩ := keep3o ho (k := w.heap.size) (by omega) ⟨r0, r1, r2⟩
    have kz : w.heap.size < w2.heap.size := World.block_lt_of_cell? _ _ r0
    obtain ⟨f0, f1, f2⟩ := keepf3o ho (k := w.heap.size) (by omega) (by omega) ⟨f0, f1, f2⟩
    have oa : Only b w w2 := oa.trans ho
    clear ho
    go_wp2_with fail
    refine (pick_any b (p + 2) 9 _ HR2.out (by omega) (by omega) (by omega)).mono ?_
    rintro e w3 ⟨m, rfl, m0, m1, ho, hr⟩
    have HR3 := Lib.hid hr
    clear hr HR2
    obtain ⟨r0, r1, r2⟩ := keep3o ho (k := w.heap.size) (by omega) ⟨r0, r1, r2⟩
    have kz : w.heap.size < w3.heap.size := World.block_lt_of_cell? _ _ r0
    obtain ⟨f0, f1, f2⟩ := keepf3o ho (k := w.heap.size) (by omega) (by omega) ⟨f0, f1, f2⟩
    have oa : Only b w w3 := oa.trans ho
    clear ho
    go_wp2_with fail
    refine (pick_any b (p + 3) 2 _ HR3.out (by omega) (by omega) (by omega)).mono ?_
    rintro e w4 ⟨s, rfl, s0, s1, ho, hr⟩
    have HR4 := Lib.hid hr
    clear hr HR3
    obtain ⟨r0, r1, r2⟩ := keep3o ho (k := w.heap.size) (by omega) ⟨r0, r1, r2⟩
    have kz : w.heap.size < w4.heap.size := World.block_lt_of_cell? _ _ r0
    obtain ⟨f0, f1, f2⟩ := keepf3o ho (k := w.heap.size) (by omega) (by omega) ⟨f0, f1, f2⟩
    have oa : Only b w w4 := oa.trans ho
    clear ho
    have N1 : -4 ≤ (m - 4) * s := by rcases (show s = 0 ∨ s = 1 by omega) with h | h <;> rw [h] <;> omega
    have N2 : (m - 4) * s ≤ 4 := by rcases (show s = 0 ∨ s = 1 by omega) with h | h <;> rw [h] <;> omega
    go_wp2_with fail
    refine (pick_any b (p + 4) 5 _ HR4.out (by omega) (by omega) (by omega)).mono ?_
    rintro e w5 ⟨t, rfl, t0, t1, ho, hr⟩
    have HR5 := Lib.hid hr
    clear hr HR4
    obtain ⟨r0, r1, r2⟩ := keep3o ho (k := w.heap.size) (by omega) ⟨r0, r1, r2⟩
    have kz : w.heap.size < w5.heap.size := World.block_lt_of_cell? _ _ r0
    obtain ⟨f0, f1, f2⟩ := keepf3o ho (k := w.heap.size) (by omega) (by omega) ⟨f0, f1, f2⟩
    have oa : Only b w w5 := oa.trans ho
    clear ho
    go_wp2_with fail
    have SL := specLow_any (j - 6) ((m - 4) * s) (1 + t) w5 (by omega) (by omega) (by omega)
    obtain ⟨o, hoo⟩ : ∃ o, lowF (j - 6) ((m - 4) * s) (1 + t) = o := ⟨_, rfl⟩
    rw [hoo] at SL
    have DR : DrawnF (partsR o).1 (partsR o).2.1 (partsR o).2.2 := .inr (.inr (.inr (.inr ⟨j - 6, (m - 4) * s, 1 + t, by omega, by omega, by omega, by rw [hoo]⟩)))
    have DR' := Lib.hid DR
    have SL' := Lib.hid SL
    clear hoo DR SL
    refine SL'.out.mono ?_
    rintro e w6 ⟨rfl, hb⟩
    rw [resV_eq]
    have oa : Only b w w6 := oa.call hb
    obtain ⟨r0, r1, r2⟩ := keep3 hb (b := w.heap.size) ⟨r0, r1, r2⟩
    obtain ⟨f0, f1, f2⟩ := keepf3 hb (b := w.heap.size) kz ⟨f0, f1, f2⟩
    have kz : w.heap.size < w6.heap.size := World.block_lt_of_cell? _ _ r0
    have HR6 := Lib.hid (HR5.out.keep (hb.mono (by omega)))
    clear hb HR5
    go_wp2_with fail
    refine bodyPost_ret (v := .agg #[.int .i64 (partsR o).1, .int .i64 (partsR o).2.1, .int .i64 (partsR o).2.2]) (by simp [results, Tryz.results86, go_sem, r0, r1, r2, kz]) rfl ⟨_, _, _, p + 5, rfl, DR'.out, ?_, by omega, HR6.out.keep ?_⟩
    · (repeat' (first | assumption | exact Only.refl _ _ | refine Only.drew ?_ | refine Only.alloc ?_ _ | refine Only.setCell ?_ (by omega) _))
    · (repeat' (first | assumption | exact Below.refl _ _ | refine Below.drew ?_ | refine below_alloc ?_ (by omega) _ | refine below_set ?_ (by omega) _))

theorem drawn_i64 {x y z : Int} (h : DrawnF x y z) : i64B x ∧ i64B y ∧ i64B z := by
  unfold i64B
  rcases h with ⟨rfl, rfl, rfl⟩ | ⟨rfl, rfl, rfl⟩ | ⟨rfl, rfl, rfl⟩ | ⟨rfl, rfl, rfl⟩ | ⟨re, im, den, h1, h2, h3, e⟩
  · omega
  · omega
  · omega
  · omega
  · unfold lowF at e
    simp only at e
    split at e
    · rename_i hk
      simp only [partsR, Option.getD_some, Prod.mk.injEq] at e
      obtain ⟨rfl, rfl, rfl⟩ := e
      have := okF_bd hk
      omega
    · simp only [partsR, Option.getD_none, Prod.mk.injEq] at e
      omega
theorem Code8.alloc {w : World} {a : Option Addr} {len cap : Nat} (h : Code8 w a len cap) (o : Obj) : Code8 (w.alloc o) a len cap := by
  obtain ⟨h1, h2, h3⟩ := h
  refine ⟨h1, h2, ?_⟩
  rcases h3 with h3 | ⟨c, off, ha, hc, hz⟩
  · exact .inl h3
  · refine .inr ⟨c, off, ha, by simp; omega, fun i hi => ?_⟩
    obtain ⟨z, z0, z1, hzc⟩ := hz i hi
    exact ⟨z, z0, z1, (World.cell?_alloc_lt w _ ⟨c, off + i, none⟩ hc).trans hzc⟩
end Go.Proofs.YtkdkeacfifjjoabGreatDoor
