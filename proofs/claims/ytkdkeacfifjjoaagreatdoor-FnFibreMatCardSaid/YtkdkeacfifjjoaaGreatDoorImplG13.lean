/-
  The program: a fibre's sections.
-/
import Derived.Test.YtkdkeacfifjjoaaGreatDoorImplG3
import Derived.Test.YtkdkeacfifjjoaaGreatDoorSpecG7
namespace Go.Proofs.YtkdkeacfifjjoaaGreatDoor
open Go.ChangeShapes Go.WideShapes Go.ChangeAt Go.RowKit
set_option linter.unusedVariables false

set_option linter.unusedSimpArgs false
theorem accSize {w W : World} (h : Acc w W) : w.heap.size ≤ W.heap.size := h.size
theorem grownAcc {w W w' : World} {v : Value} {n : Nat} {xs : List Value} (hg : W.grownBy w' v.ownBlock) (ho : W.ownsRow w.heap.size 64 4 v n xs) (h : Acc w W) : Acc w w' := Below.grown h hg h.size (fun g e => own_rowN ho e)
theorem news4 {w : World} {b : Nat} {x0 x1 x2 x3 : Value} (h0 : w.cell? ⟨b, 0, none⟩ = some x0) (h1 : w.cell? ⟨b, 1, none⟩ = some x1) (h2 : w.cell? ⟨b, 2, none⟩ = some x2) (h3 : w.cell? ⟨b, 3, none⟩ = some x3) : ∀ j u, [x0, x1, x2, x3][j]? = some u → w.cell? ((⟨b, 0, none⟩ : Addr).add j) = some u := by
  intro j u hj
  match j, hj with
  | 0, hj => simp at hj; subst hj; simpa [Addr.add] using h0
  | 1, hj => simp at hj; subst hj; simpa [Addr.add] using h1
  | 2, hj => simp at hj; subst hj; simpa [Addr.add] using h2
  | 3, hj => simp at hj; subst hj; simpa [Addr.add] using h3
set_option maxRecDepth 100000 in
set_option maxHeartbeats 16000000 in
theorem fbSections_any (n₀ : Nat) : ∀ (rs : List L4) (p : Option Addr) (w : World), Fib n₀ w.heap.size w p rs → rs.length ≤ 8 → Calls Tryz.prog 65 #[.pointer p] w fun e w' => ∃ v, e = .returned v ∧ w'.ownsRow w.heap.size 64 4 v rs.length (layC rs.reverse) ∧ Below w.heap.size w w'
  | [], p, w, h, _ => by
    obtain rfl : p = none := h
    go_enter Tryz.func65, Tryz.ntmps65
    go_wp2_with fail
    go_ret
    exact ⟨_, rfl, World.ownsRow_nil w _ _ _, Below.refl _ _⟩
  | ((n1, n2, n3), q) :: rs, p, w, h, hn => by
    obtain ⟨b, f, rfl, hb0, hb1, Bb, hf⟩ := h
    have hn8 : rs.length ≤ 7 := by simp only [List.length_cons] at hn; omega
    clear hn
    have HI := Lib.hid fun (W : World) (k : Acc w W) => fbSections_any n₀ rs f W ((hf.mono (Nat.le_of_lt hb1)).keep k) (by omega)
    clear hf hb0
    obtain ⟨i0, hi0, hz0, hz1, hz2⟩ := info_parts info_section
    have Bb : Blk w b [.int .i64 n1, .int .i64 n2, .int .i64 n3, .int .i64 q, .pointer f] := Bb
    have HBb := Lib.hid Bb
    have cb := Bb.cell
    have fb := Bb.free
    have lb_w := Bb.lt
    go_enter Tryz.func65, Tryz.ntmps65
    go_upto_region 3 with fail
    go_region_held3 (fun w' => (∀ k, w'.cell? ⟨b, k, none⟩ = [.int .i64 n1, .int .i64 n2, .int .i64 n3, .int .i64 q, .pointer f][k]?))
      (((try dsimp only); (refine Blk.cell ?_ <;> (repeat' (first | (with_reducible first | assumption | refine Blk.drew ?_ | refine Blk.drewN ?_ _ | apply Blk.set | (refine Blk.new ?_; focus (first | rfl | (simp; done))) | refine Blk.alloc ?_ _ | refine Blk.other ?_ ?_ _) | exact eqL rfl | (refine neB ?_; omega))))))
      (first
        | (go_at_call 65; refine (HI.out _ (by repeat' (first | (with_reducible first | assumption | exact Acc.refl _ | refine Acc.drew ?_ | refine Acc.drewN ?_ _ | refine Acc.alloc ?_ _ | refine Acc.setCell ?_ ?_ _) | (refine leB ?_; omega)))).mono ?_; rintro e W9 ⟨v, rfl, ho0, hb⟩; have ho : W9.ownsRow w.heap.size 64 4 v rs.length (layC rs.reverse) := own_low ho0 (accSize (show Acc w _ by repeat' (first | (with_reducible first | assumption | exact Acc.refl _ | refine Acc.drew ?_ | refine Acc.drewN ?_ _ | refine Acc.alloc ?_ _ | refine Acc.setCell ?_ ?_ _) | (refine leB ?_; omega)))); clear ho0; (try (refine with_fact (A := Blk W9 (w.heap.size) [.int .i64 n1, .int .i64 n2, .int .i64 n3, .int .i64 q]) ?_ ?_; (focus (refine Blk.keep hb ?_; (repeat' (first | (with_reducible first | assumption | refine Blk.drew ?_ | refine Blk.drewN ?_ _ | apply Blk.set | (refine Blk.new ?_; focus (first | rfl | (simp; done))) | refine Blk.alloc ?_ _ | refine Blk.other ?_ ?_ _) | exact eqL rfl | (refine neB ?_; omega))); done)); intro Bz; have cz := Bz.cell; have fz := Bz.free; have lz := Bz.lt)); have Bb : Blk W9 (b) [.int .i64 n1, .int .i64 n2, .int .i64 n3, .int .i64 q, .pointer f] := Blk.keep hb (by repeat' (first | (with_reducible first | assumption | refine Blk.drew ?_ | refine Blk.drewN ?_ _ | apply Blk.set | (refine Blk.new ?_; focus (first | rfl | (simp; done))) | refine Blk.alloc ?_ _ | refine Blk.other ?_ ?_ _) | exact eqL rfl | (refine neB ?_; omega))); have cb := Bb.cell; have fb := Bb.free; have lb_W9 := Bb.lt; have kaW9 : Acc w W9 := (by refine Acc.call ?_ hb; (repeat' (first | (with_reducible first | assumption | exact Acc.refl _ | refine Acc.drew ?_ | refine Acc.drewN ?_ _ | refine Acc.alloc ?_ _ | refine Acc.setCell ?_ ?_ _) | (refine leB ?_; omega)))); clear hb)
        | (rw [if_pos (by rfl)]; refine wp_append_own _ _ _ 23 rfl w.heap.size 64 i0 (.agg #[.int .i64 0, .int .i64 0, .int .i64 0, .int .i64 0]) 4 32 Tryz.underlying23 hi0 hz0 hz1 hz2 rfl (by decide) _ rs.length (layC rs.reverse) rfl ?own _ 1 1 [.int .i64 n1, .int .i64 n2, .int .i64 n3, .int .i64 q] rfl rfl ?c1 ?c2 ?c3 ?c4 ?c5 ?_; (case own => first | exact ho | exact own_keep ho ((Below.refl _ _).alloc (Nat.le_refl _) _)); (case c1 => refine news4 ?_ ?_ ?_ ?_ <;> simp [*]); (case c2 => (intro u hu; simp at hu; rcases hu with rfl | rfl | rfl | rfl <;> rfl)); (case c3 => (unfold maxLen; omega)); (case c4 => omega); (case c5 => exact accSize (by repeat' (first | (with_reducible first | assumption | exact Acc.refl _ | refine Acc.drew ?_ | refine Acc.drewN ?_ _ | refine Acc.alloc ?_ _ | refine Acc.setCell ?_ ?_ _) | (refine leB ?_; omega)))); intro v' w' hown' hgrow hnil; have kav : Acc w w' := (by refine grownAcc (n := rs.length) (xs := layC rs.reverse) hgrow ?own2 ?acc2; (case own2 => first | exact ho | exact own_keep ho ((Below.refl _ _).alloc (Nat.le_refl _) _)); (case acc2 => (show Acc w _); (repeat' (first | (with_reducible first | assumption | exact Acc.refl _ | refine Acc.drew ?_ | refine Acc.drewN ?_ _ | refine Acc.alloc ?_ _ | refine Acc.setCell ?_ ?_ _) | (refine leB ?_; omega))))); clear hgrow hnil; have Bb := Blk.keep kav HBb.out; have cb := Bb.cell; have fb := Bb.free))
    all_goals
      go_wp2_with fail
      go_ret
      refine ⟨_, rfl, ?_, kav⟩
      rw [List.reverse_cons, layC_append]
      exact hown'
end Go.Proofs.YtkdkeacfifjjoaaGreatDoor
