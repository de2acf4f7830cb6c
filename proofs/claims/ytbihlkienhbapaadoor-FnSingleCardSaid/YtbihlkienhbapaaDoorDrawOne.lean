/-
  The draws of the laws of fractions: one or two of them, each of ints of 64 bits.
-/
import Derived.Test.YtbihlkienhbapaaDoorDrawFrac
import Derived.Test.YtbihlkienhbapaaDoorOpenInts
namespace Go.Proofs.YtbihlkienhbapaaDoor
open Go.ChangeShapes Go.WideShapes Go.ChangeAt Go.RowKit
set_option linter.unusedVariables false

theorem drawn_i64 {x y z : Int} (h : DrawnF x y z) : i64B x ∧ i64B y ∧ i64B z := by
  unfold i64B
  rcases h with ⟨rfl, rfl, rfl⟩ | ⟨rfl, rfl, rfl⟩ | ⟨rfl, rfl, rfl⟩ | ⟨rfl, rfl, rfl⟩ | ⟨re, im, den, h1, h2, h3, e⟩
  · omega
  · omega
  · omega
  · omega
  · unfold lowF at e
    simp only at e
    split at e
    · rename_i hk
      simp only [partsR, Option.getD_some, Prod.mk.injEq] at e
      obtain ⟨rfl, rfl, rfl⟩ := e
      have := okF_bd hk
      omega
    · simp only [partsR, Option.getD_none, Prod.mk.injEq] at e
      omega
theorem Code8.alloc {w : World} {a : Option Addr} {len cap : Nat} (h : Code8 w a len cap) (o : Obj) : Code8 (w.alloc o) a len cap := by
  obtain ⟨h1, h2, h3⟩ := h
  refine ⟨h1, h2, ?_⟩
  rcases h3 with h3 | ⟨c, off, ha, hc, hz⟩
  · exact .inl h3
  · refine .inr ⟨c, off, ha, by simp; omega, fun i hi => ?_⟩
    obtain ⟨z, z0, z1, hzc⟩ := hz i hi
    exact ⟨z, z0, z1, (World.cell?_alloc_lt w _ ⟨c, off + i, none⟩ hc).trans hzc⟩
/-- One drawn fraction. -/
def Drew1 (w : World) (e : Ending) (w' : World) : Prop :=
  ∃ x y z : Int, e = .returned (.agg #[.int .i64 x, .int .i64 y, .int .i64 z]) ∧ i64B x ∧ i64B y ∧ i64B z ∧ Below w.heap.size w w'
/-- Two drawn fractions. -/
def Drew2 (w : World) (e : Ending) (w' : World) : Prop :=
  ∃ x y z a b c : Int, e = .returned (.tuple #[.agg #[.int .i64 x, .int .i64 y, .int .i64 z], .agg #[.int .i64 a, .int .i64 b, .int .i64 c]]) ∧ i64B x ∧ i64B y ∧ i64B z ∧ i64B a ∧ i64B b ∧ i64B c ∧ Below w.heap.size w w'
set_option maxHeartbeats 1000000 in
theorem drawFracSingle_any (a : Option Addr) (len cap : Nat) (w : World) (h : Code8 w a len cap) :
    Calls Tryd.prog 42 #[.slice a len cap] w (Drew1 w) := by
  have H0 := Lib.hid (h.alloc (.cells #[.int .i64 0, .int .i64 0, .int .i64 0] 27))
  clear h
  go_enter Tryd.func42, Tryd.ntmps42
  go_wp2_with fail
  refine (open_any a len cap _ H0.out).mono ?_
  rintro e w1 ⟨b, rfl, hb1, bel, hr⟩
  have HR := Lib.hid hr
  obtain ⟨r0, r1, r2⟩ := keep3 bel (b := w.heap.size) (x := .int .i64 0) (y := .int .i64 0) (z := .int .i64 0) (by go_simp)
  obtain ⟨f0, f1, f2⟩ := keepf3 bel (b := w.heap.size) (by simp) (by go_simp)
  have oa : Acc w w1 := Acc.call ((Acc.refl w).alloc _) bel
  have hb2 : w.heap.size < b := by simp at hb1; omega
  clear hr H0 bel hb1
  go_wp2_with fail
  refine (frac_any b 0 w1 HR.out (by omega)).mono ?_
  rintro e w2 ⟨x, y, z, q, rfl, hd, ho, hq, hr⟩
  have HD := Lib.hid (drawn_i64 hd)
  obtain ⟨r0, r1, r2⟩ := keep3o ho (k := w.heap.size) (by omega) ⟨r0, r1, r2⟩
  obtain ⟨f0, f1, f2⟩ := keepf3o ho (k := w.heap.size) (by omega) (by have := oa.size; have := World.block_lt_of_cell? _ _ r0; have := ho.size; have := HR.out.1; omega) ⟨f0, f1, f2⟩
  have oa2 : Acc w w2 := Below.trans oa (ho.below (Below.size oa) (by omega))
  clear hr HR hd oa ho
  go_wp2_with fail
  refine bodyPost_ret (v := .agg #[.int .i64 x, .int .i64 y, .int .i64 z]) (by simp [results, Tryd.results42, go_sem, r0, r1, r2]) rfl ⟨x, y, z, rfl, HD.out.1, HD.out.2.1, HD.out.2.2, ?_⟩
  show Acc w _
  (repeat' (first | assumption | exact Acc.refl _ | refine Acc.drew ?_ | refine Acc.alloc ?_ _ | refine Acc.setCell ?_ (by omega) _))
end Go.Proofs.YtbihlkienhbapaaDoor
