/-
  The program's films: FilmValid, FilmMat.
-/
import Derived.Test.YtkdkeacfifjjoabDoorImplF3
import Derived.Test.YtkdkeacfifjjoabDoorImplM1
import Derived.Test.YtkdkeacfifjjoabDoorBImplF
namespace Go.Proofs.YtkdkeacfifjjoabDoor
open Go.ChangeShapes Go.WideShapes Go.ChangeAt Go.RowKit
set_option linter.unusedVariables false

set_option linter.unusedSimpArgs false
set_option maxRecDepth 100000 in
set_option maxHeartbeats 4000000 in
theorem implFlValid_any (a : Option Addr) (ls : List L4) (cap : Nat) (w : World) (h : Lys w a ls) (hn : ls.length ≤ 1048576) (hl : Laid w) : Calls Tryd.prog 5 #[.slice a ls.length cap] w fun e w' => e = .returned (.bool (okFl ls)) ∧ Below w.heap.size w w' := by
  obtain ⟨v, hv⟩ : ∃ v, okFl ls = v := ⟨_, rfl⟩
  have T := Lib.hid fun (W : World) (ka : Acc w W) => filmCheck_any a ls cap W (h.keep ka) hn
  rw [hv] at T ⊢
  clear h hv
  have HL := Lib.hid fun W (k : Acc w W) => hl.acc k
  clear hl
  go_enter Tryd.func5, Tryd.ntmps5
  go_wp2_with fail
  cases v with
  | false =>
    refine (T.out _ (by repeat' (first | (with_reducible first | assumption | exact Acc.refl _ | refine Acc.drew ?_ | refine Acc.drewN ?_ _ | refine Acc.alloc ?_ _ | refine Acc.setCell ?_ ?_ _) | (refine leB ?_; omega)))).mono ?_
    rintro e W1 ⟨-, h2, hb⟩
    obtain ⟨s, rfl⟩ := h2 rfl
    clear h2
    have kaW1 : Acc w W1 := by
      refine Acc.call ?_ hb
      (repeat' (first | (with_reducible first | assumption | exact Acc.refl _ | refine Acc.drew ?_ | refine Acc.drewN ?_ _ | refine Acc.alloc ?_ _ | refine Acc.setCell ?_ ?_ _) | (refine leB ?_; omega)))
    clear hb
    go_wp2_with fail
    refine (isNone_hit s _ (HL.out _ (by repeat' (first | (with_reducible first | assumption | exact Acc.refl _ | refine Acc.drew ?_ | refine Acc.drewN ?_ _ | refine Acc.alloc ?_ _ | refine Acc.setCell ?_ ?_ _) | (refine leB ?_; omega))))).mono ?_
    rintro e W2 ⟨rfl, hb⟩
    have kaW2 : Acc w W2 := by
      refine Acc.call ?_ hb
      (repeat' (first | (with_reducible first | assumption | exact Acc.refl _ | refine Acc.drew ?_ | refine Acc.drewN ?_ _ | refine Acc.alloc ?_ _ | refine Acc.setCell ?_ ?_ _) | (refine leB ?_; omega)))
    clear hb
    go_wp2_with fail
    go_ret
    refine ⟨rfl, ?_⟩
    show Acc w _
    (repeat' (first | (with_reducible first | assumption | exact Acc.refl _ | refine Acc.drew ?_ | refine Acc.drewN ?_ _ | refine Acc.alloc ?_ _ | refine Acc.setCell ?_ ?_ _) | (refine leB ?_; omega)))
  | true =>
    refine (T.out _ (by repeat' (first | (with_reducible first | assumption | exact Acc.refl _ | refine Acc.drew ?_ | refine Acc.drewN ?_ _ | refine Acc.alloc ?_ _ | refine Acc.setCell ?_ ?_ _) | (refine leB ?_; omega)))).mono ?_
    rintro e W1 ⟨h1, -, hb⟩
    obtain rfl := h1 rfl
    clear h1
    have kaW1 : Acc w W1 := by
      refine Acc.call ?_ hb
      (repeat' (first | (with_reducible first | assumption | exact Acc.refl _ | refine Acc.drew ?_ | refine Acc.drewN ?_ _ | refine Acc.alloc ?_ _ | refine Acc.setCell ?_ ?_ _) | (refine leB ?_; omega)))
    clear hb
    go_wp2_with fail
    refine (isNone_nil _).mono ?_
    rintro e W2 ⟨rfl, hb⟩
    have kaW2 : Acc w W2 := by
      refine Acc.call ?_ hb
      (repeat' (first | (with_reducible first | assumption | exact Acc.refl _ | refine Acc.drew ?_ | refine Acc.drewN ?_ _ | refine Acc.alloc ?_ _ | refine Acc.setCell ?_ ?_ _) | (refine leB ?_; omega)))
    clear hb
    go_wp2_with fail
    go_ret
    refine ⟨rfl, ?_⟩
    show Acc w _
    (repeat' (first | (with_reducible first | assumption | exact Acc.refl _ | refine Acc.drew ?_ | refine Acc.drewN ?_ _ | refine Acc.alloc ?_ _ | refine Acc.setCell ?_ ?_ _) | (refine leB ?_; omega)))
set_option maxRecDepth 100000 in
set_option maxHeartbeats 4000000 in
theorem implFlMat_any (a : Option Addr) (ls : List L4) (cap : Nat) (w : World) (h : Lys w a ls) (hn : ls.length ≤ 1048576) (hl : Laid w) : Calls Tryd.prog 7 #[.slice a ls.length cap] w (Gave12 (flmM ls) w) := by
  obtain ⟨o, ho⟩ : ∃ o, flmM ls = o := ⟨_, rfl⟩
  have T := Lib.hid fun (W : World) (ka : Acc w W) => filmMatrix_any a ls cap W (h.keep ka) hn
  rw [ho] at T ⊢
  clear h ho
  have HL := Lib.hid fun W (k : Acc w W) => hl.acc k
  clear hl
  go_enter Tryd.func7, Tryd.ntmps7
  go_wp2_with fail
  cases o with
  | none =>
    refine (T.out _ (by repeat' (first | (with_reducible first | assumption | exact Acc.refl _ | refine Acc.drew ?_ | refine Acc.drewN ?_ _ | refine Acc.alloc ?_ _ | refine Acc.setCell ?_ ?_ _) | (refine leB ?_; omega)))).mono ?_
    rintro e W1 ⟨-, h, hb⟩
    obtain ⟨s, rfl⟩ := h rfl
    clear h
    have Br : Blk W1 (w.heap.size) [.int .i64 0, .int .i64 0, .int .i64 0, .int .i64 0, .int .i64 0, .int .i64 0, .int .i64 0, .int .i64 0, .int .i64 0, .int .i64 0, .int .i64 0, .int .i64 0] := Blk.keep hb (by repeat' (first | (with_reducible first | assumption | refine Blk.drew ?_ | refine Blk.drewN ?_ _ | apply Blk.set | (refine Blk.new ?_; focus (first | rfl | (simp; done))) | refine Blk.alloc ?_ _ | refine Blk.other ?_ ?_ _) | exact eqL rfl | (refine neB ?_; omega)))
    have cr := Br.cell
    have fr := Br.free
    have lr_W1 := Br.lt
    have kaW1 : Acc w W1 := by
      refine Acc.call ?_ hb
      (repeat' (first | (with_reducible first | assumption | exact Acc.refl _ | refine Acc.drew ?_ | refine Acc.drewN ?_ _ | refine Acc.alloc ?_ _ | refine Acc.setCell ?_ ?_ _) | (refine leB ?_; omega)))
    clear hb
    go_wp2_with fail
    refine (toldMatrix_err 0 0 0 0 0 0 0 0 0 0 0 0 s _ (HL.out _ (by repeat' (first | (with_reducible first | assumption | exact Acc.refl _ | refine Acc.drew ?_ | refine Acc.drewN ?_ _ | refine Acc.alloc ?_ _ | refine Acc.setCell ?_ ?_ _) | (refine leB ?_; omega))))).mono ?_
    rintro e W2 ⟨rfl, hb⟩
    have Br : Blk W2 (w.heap.size) [.int .i64 0, .int .i64 0, .int .i64 0, .int .i64 0, .int .i64 0, .int .i64 0, .int .i64 0, .int .i64 0, .int .i64 0, .int .i64 0, .int .i64 0, .int .i64 0] := Blk.keep hb (by repeat' (first | (with_reducible first | assumption | refine Blk.drew ?_ | refine Blk.drewN ?_ _ | apply Blk.set | (refine Blk.new ?_; focus (first | rfl | (simp; done))) | refine Blk.alloc ?_ _ | refine Blk.other ?_ ?_ _) | exact eqL rfl | (refine neB ?_; omega)))
    have cr := Br.cell
    have fr := Br.free
    have lr_W2 := Br.lt
    have kaW2 : Acc w W2 := by
      refine Acc.call ?_ hb
      (repeat' (first | (with_reducible first | assumption | exact Acc.refl _ | refine Acc.drew ?_ | refine Acc.drewN ?_ _ | refine Acc.alloc ?_ _ | refine Acc.setCell ?_ ?_ _) | (refine leB ?_; omega)))
    clear hb
    go_wp2_with fail
    refine bodyPost_ret (v := .tuple #[.agg #[.int .i64 0, .int .i64 0, .int .i64 0, .int .i64 0, .int .i64 0, .int .i64 0, .int .i64 0, .int .i64 0, .int .i64 0, .int .i64 0, .int .i64 0, .int .i64 0], .bool false]) (by simp [results, Tryd.results7, go_sem, *]) rfl ⟨fun _ _ _ _ _ _ _ _ _ _ _ _ h => (by cases h), fun _ => rfl, ?_⟩
    show Acc w _
    (repeat' (first | (with_reducible first | assumption | exact Acc.refl _ | refine Acc.drew ?_ | refine Acc.drewN ?_ _ | refine Acc.alloc ?_ _ | refine Acc.setCell ?_ ?_ _) | (refine leB ?_; omega)))
  | some v =>
    obtain ⟨⟨r1, r2, r3⟩, ⟨r4, r5, r6⟩, ⟨r7, r8, r9⟩, r10, r11, r12⟩ := v
    refine (T.out _ (by repeat' (first | (with_reducible first | assumption | exact Acc.refl _ | refine Acc.drew ?_ | refine Acc.drewN ?_ _ | refine Acc.alloc ?_ _ | refine Acc.setCell ?_ ?_ _) | (refine leB ?_; omega)))).mono ?_
    rintro e W1 ⟨h, -, hb⟩
    obtain rfl := h _ _ _ _ _ _ _ _ _ _ _ _ rfl
    clear h
    have Br : Blk W1 (w.heap.size) [.int .i64 0, .int .i64 0, .int .i64 0, .int .i64 0, .int .i64 0, .int .i64 0, .int .i64 0, .int .i64 0, .int .i64 0, .int .i64 0, .int .i64 0, .int .i64 0] := Blk.keep hb (by repeat' (first | (with_reducible first | assumption | refine Blk.drew ?_ | refine Blk.drewN ?_ _ | apply Blk.set | (refine Blk.new ?_; focus (first | rfl | (simp; done))) | refine Blk.alloc ?_ _ | refine Blk.other ?_ ?_ _) | exact eqL rfl | (refine neB ?_; omega)))
    have cr := Br.cell
    have fr := Br.free
    have lr_W1 := Br.lt
    have kaW1 : Acc w W1 := by
      refine Acc.call ?_ hb
      (repeat' (first | (with_reducible first | assumption | exact Acc.refl _ | refine Acc.drew ?_ | refine Acc.drewN ?_ _ | refine Acc.alloc ?_ _ | refine Acc.setCell ?_ ?_ _) | (refine leB ?_; omega)))
    clear hb
    go_wp2_with fail
    refine (toldMatrix_ok r1 r2 r3 r4 r5 r6 r7 r8 r9 r10 r11 r12 _).mono ?_
    rintro e W2 ⟨rfl, hb⟩
    have Br : Blk W2 (w.heap.size) [.int .i64 0, .int .i64 0, .int .i64 0, .int .i64 0, .int .i64 0, .int .i64 0, .int .i64 0, .int .i64 0, .int .i64 0, .int .i64 0, .int .i64 0, .int .i64 0] := Blk.keep hb (by repeat' (first | (with_reducible first | assumption | refine Blk.drew ?_ | refine Blk.drewN ?_ _ | apply Blk.set | (refine Blk.new ?_; focus (first | rfl | (simp; done))) | refine Blk.alloc ?_ _ | refine Blk.other ?_ ?_ _) | exact eqL rfl | (refine neB ?_; omega)))
    have cr := Br.cell
    have fr := Br.free
    have lr_W2 := Br.lt
    have kaW2 : Acc w W2 := by
      refine Acc.call ?_ hb
      (repeat' (first | (with_reducible first | assumption | exact Acc.refl _ | refine Acc.drew ?_ | refine Acc.drewN ?_ _ | refine Acc.alloc ?_ _ | refine Acc.setCell ?_ ?_ _) | (refine leB ?_; omega)))
    clear hb
    go_wp2_with fail
    refine bodyPost_ret (v := .tuple #[.agg #[.int .i64 r1, .int .i64 r2, .int .i64 r3, .int .i64 r4, .int .i64 r5, .int .i64 r6, .int .i64 r7, .int .i64 r8, .int .i64 r9, .int .i64 r10, .int .i64 r11, .int .i64 r12], .bool true]) (by simp [results, Tryd.results7, go_sem, *]) rfl ⟨fun _ _ _ _ _ _ _ _ _ _ _ _ h => (by cases h; rfl), fun h => (by cases h), ?_⟩
    show Acc w _
    (repeat' (first | (with_reducible first | assumption | exact Acc.refl _ | refine Acc.drew ?_ | refine Acc.drewN ?_ _ | refine Acc.alloc ?_ _ | refine Acc.setCell ?_ ?_ _) | (refine leB ?_; omega)))
end Go.Proofs.YtkdkeacfifjjoabDoor
