/-
  The program's films: sides, the reflected and the passing part.
-/
import Derived.Test.YtpgklllgmfaekaaGreatDoorImplF3
import Derived.Test.YtpgklllgmfaekaaGreatDoorImplM1v
import Derived.Test.YtpgklllgmfaekaaGreatDoorBImplF
namespace Go.Proofs.YtpgklllgmfaekaaGreatDoor
open Go.ChangeShapes Go.WideShapes Go.ChangeAt Go.RowKit
set_option linter.unusedVariables false

set_option linter.unusedSimpArgs false
theorem mulsM_ok {ls : List L4} : ∀ {A B : F4}, okM A = true → mulsM A ls = some B → okM B = true := by
  induction ls with
  | nil => intro A B h e; rw [mulsM] at e; cases e; exact h
  | cons l r ih =>
    intro A B h e
    rw [mulsM_cons] at e
    cases e1 : (layM l).bind (mulM A) with
    | none => rw [e1] at e; cases e
    | some C => rw [e1] at e; exact ih (mulB_ok e1) e
theorem flmM_ok {ls : List L4} {A : F4} (h : flmM ls = some A) : okM A = true := by
  unfold flmM at h
  split at h
  · exact mulsM_ok (by decide) h
  · cases h
theorem appM_vals {A : F4} {V : F3 × F3} {u v : F3} (h : appM A V = some (u, v)) : okT u = true ∧ okT v = true := by
  obtain ⟨a, b, c, d⟩ := A
  obtain ⟨x, y⟩ := V
  obtain ⟨e1, e2⟩ := appM_some h
  exact ⟨(inT_val e1).2.2.2.2.1, (inT_val e2).2.2.2.2.1⟩
theorem sidM_vals {ls : List L4} {a b u v : F3} (h : sidM ls a b = some (u, v)) : okT a = true ∧ okT b = true ∧ okT u = true ∧ okT v = true := by
  unfold sidM at h
  split at h
  · rename_i hk
    obtain ⟨k1, k2⟩ := Bool.and_eq_true_iff.1 hk
    obtain ⟨m, hm, h⟩ := Option.bind_eq_some_iff.1 h
    obtain ⟨⟨p, q⟩, hv, h⟩ := Option.bind_eq_some_iff.1 h
    obtain ⟨x, hx, h⟩ := Option.bind_eq_some_iff.1 h
    cases h
    exact ⟨okX_ok k1, okX_ok k2, (tT_val hx).2.2.1, (appM_vals hv).2⟩
  · cases h
/-- A vector, or an error beside some vector. -/
def ErrV (o : Option (F3 × F3)) (w : World) (e : Ending) (w' : World) : Prop :=
  (∀ r1 r2 r3 r4 r5 r6, o = some ((r1, r2, r3), (r4, r5, r6)) → e = .returned (.tuple #[.agg #[.int .i64 r1, .int .i64 r2, .int .i64 r3, .int .i64 r4, .int .i64 r5, .int .i64 r6], .nilIface])) ∧ (o = none → ∃ r1 r2 r3 r4 r5 r6 : Int, ∃ s, e = .returned (.tuple #[.agg #[.int .i64 r1, .int .i64 r2, .int .i64 r3, .int .i64 r4, .int .i64 r5, .int .i64 r6], .iface 65 (.agg #[.string s])])) ∧ Below w.heap.size w w'
def betB (ls : List L4) (a b : F3) : Bool := okFl ls && okX a && okX b
set_option maxRecDepth 100000 in
set_option maxHeartbeats 8000000 in
theorem between_any (a : Option Addr) (ls : List L4) (cap : Nat) (x1 x2 x3 y1 y2 y3 : Int) (hx1 : i64B x1) (hx2 : i64B x2) (hx3 : i64B x3) (hy1 : i64B y1) (hy2 : i64B y2) (hy3 : i64B y3) (w : World) (h : Lys w a ls) (hn : ls.length ≤ 1048576) : Calls Tryz.prog 75 #[.slice a ls.length cap, .agg #[.int .i64 x1, .int .i64 x2, .int .i64 x3], .agg #[.int .i64 y1, .int .i64 y2, .int .i64 y3]] w (Checked (betB ls (x1, x2, x3) (y1, y2, y3)) w) := by
  obtain ⟨v, hv⟩ : ∃ v, okFl ls = v := ⟨_, rfl⟩
  have T1 := Lib.hid fun (W : World) (ka : Acc w W) => filmCheck_any a ls cap W (h.keep ka) hn
  rw [hv] at T1
  obtain ⟨va, ha⟩ : ∃ v, okX (x1, x2, x3) = v := ⟨_, rfl⟩
  have T2 := Lib.hid fun W => checkIndex_any x1 x2 x3 hx1 hx2 hx3 W
  rw [ha] at T2
  obtain ⟨vb, hb⟩ : ∃ v, okX (y1, y2, y3) = v := ⟨_, rfl⟩
  have T3 := Lib.hid fun W => checkIndex_any y1 y2 y3 hy1 hy2 hy3 W
  rw [hb] at T3
  rw [show betB ls (x1, x2, x3) (y1, y2, y3) = (v && va && vb) by unfold betB; rw [hv, ha, hb]]
  clear h hv ha hb hx1 hx2 hx3 hy1 hy2 hy3
  go_enter Tryz.func75, Tryz.ntmps75
  go_wp2_with fail
  cases v with
  | false =>
    refine (T1.out _ (by repeat' (first | (with_reducible first | assumption | exact Acc.refl _ | refine Acc.drew ?_ | refine Acc.drewN ?_ _ | refine Acc.alloc ?_ _ | refine Acc.setCell ?_ ?_ _) | (refine leB ?_; omega)))).mono ?_
    rintro e W1 ⟨-, h2, hb⟩
    obtain ⟨s, rfl⟩ := h2 rfl
    clear h2
    obtain ⟨Ba, Bb⟩ : Blk W1 (w.heap.size) [.int .i64 x1, .int .i64 x2, .int .i64 x3] ∧ Blk W1 (w.heap.size + 1) [.int .i64 y1, .int .i64 y2, .int .i64 y3] := by
      refine ⟨?_, ?_⟩ <;> refine Blk.keep hb ?_ <;> (repeat' (first | (with_reducible first | assumption | refine Blk.drew ?_ | refine Blk.drewN ?_ _ | apply Blk.set | (refine Blk.new ?_; focus (first | rfl | (simp; done))) | refine Blk.alloc ?_ _ | refine Blk.other ?_ ?_ _) | exact eqL rfl | (refine neB ?_; omega)))
    have ca := Ba.cell
    have fa := Ba.free
    have la_W1 := Ba.lt
    have cb := Bb.cell
    have fb := Bb.free
    have lb_W1 := Bb.lt
    have kaW1 : Acc w W1 := by
      refine Acc.call ?_ hb
      (repeat' (first | (with_reducible first | assumption | exact Acc.refl _ | refine Acc.drew ?_ | refine Acc.drewN ?_ _ | refine Acc.alloc ?_ _ | refine Acc.setCell ?_ ?_ _) | (refine leB ?_; omega)))
    clear hb
    go_wp2_with fail
    go_ret
    refine ⟨fun h => (by cases h), fun _ => ⟨_, rfl⟩, ?_⟩
    show Acc w _
    (repeat' (first | (with_reducible first | assumption | exact Acc.refl _ | refine Acc.drew ?_ | refine Acc.drewN ?_ _ | refine Acc.alloc ?_ _ | refine Acc.setCell ?_ ?_ _) | (refine leB ?_; omega)))
  | true =>
    refine (T1.out _ (by repeat' (first | (with_reducible first | assumption | exact Acc.refl _ | refine Acc.drew ?_ | refine Acc.drewN ?_ _ | refine Acc.alloc ?_ _ | refine Acc.setCell ?_ ?_ _) | (refine leB ?_; omega)))).mono ?_
    rintro e W1 ⟨h1, -, hb⟩
    obtain rfl := h1 rfl
    clear h1
    obtain ⟨Ba, Bb⟩ : Blk W1 (w.heap.size) [.int .i64 x1, .int .i64 x2, .int .i64 x3] ∧ Blk W1 (w.heap.size + 1) [.int .i64 y1, .int .i64 y2, .int .i64 y3] := by
      refine ⟨?_, ?_⟩ <;> refine Blk.keep hb ?_ <;> (repeat' (first | (with_reducible first | assumption | refine Blk.drew ?_ | refine Blk.drewN ?_ _ | apply Blk.set | (refine Blk.new ?_; focus (first | rfl | (simp; done))) | refine Blk.alloc ?_ _ | refine Blk.other ?_ ?_ _) | exact eqL rfl | (refine neB ?_; omega)))
    have ca := Ba.cell
    have fa := Ba.free
    have la_W1 := Ba.lt
    have cb := Bb.cell
    have fb := Bb.free
    have lb_W1 := Bb.lt
    have kaW1 : Acc w W1 := by
      refine Acc.call ?_ hb
      (repeat' (first | (with_reducible first | assumption | exact Acc.refl _ | refine Acc.drew ?_ | refine Acc.drewN ?_ _ | refine Acc.alloc ?_ _ | refine Acc.setCell ?_ ?_ _) | (refine leB ?_; omega)))
    clear hb
    go_wp2_with fail
    cases va with
    | false =>
      refine (T2.out _).mono ?_
      rintro e W2 ⟨-, h2, hb⟩
      obtain ⟨s, rfl⟩ := h2 rfl
      clear h2
      obtain ⟨Ba, Bb⟩ : Blk W2 (w.heap.size) [.int .i64 x1, .int .i64 x2, .int .i64 x3] ∧ Blk W2 (w.heap.size + 1) [.int .i64 y1, .int .i64 y2, .int .i64 y3] := by
        refine ⟨?_, ?_⟩ <;> refine Blk.keep hb ?_ <;> (repeat' (first | (with_reducible first | assumption | refine Blk.drew ?_ | refine Blk.drewN ?_ _ | apply Blk.set | (refine Blk.new ?_; focus (first | rfl | (simp; done))) | refine Blk.alloc ?_ _ | refine Blk.other ?_ ?_ _) | exact eqL rfl | (refine neB ?_; omega)))
      have ca := Ba.cell
      have fa := Ba.free
      have la_W2 := Ba.lt
      have cb := Bb.cell
      have fb := Bb.free
      have lb_W2 := Bb.lt
      have kaW2 : Acc w W2 := by
        refine Acc.call ?_ hb
        (repeat' (first | (with_reducible first | assumption | exact Acc.refl _ | refine Acc.drew ?_ | refine Acc.drewN ?_ _ | refine Acc.alloc ?_ _ | refine Acc.setCell ?_ ?_ _) | (refine leB ?_; omega)))
      clear hb
      go_wp2_with fail
      go_ret
      refine ⟨fun h => (by cases h), fun _ => ⟨_, rfl⟩, ?_⟩
      show Acc w _
      (repeat' (first | (with_reducible first | assumption | exact Acc.refl _ | refine Acc.drew ?_ | refine Acc.drewN ?_ _ | refine Acc.alloc ?_ _ | refine Acc.setCell ?_ ?_ _) | (refine leB ?_; omega)))
    | true =>
      refine (T2.out _).mono ?_
      rintro e W2 ⟨h1, -, hb⟩
      obtain rfl := h1 rfl
      clear h1
      obtain ⟨Ba, Bb⟩ : Blk W2 (w.heap.size) [.int .i64 x1, .int .i64 x2, .int .i64 x3] ∧ Blk W2 (w.heap.size + 1) [.int .i64 y1, .int .i64 y2, .int .i64 y3] := by
        refine ⟨?_, ?_⟩ <;> refine Blk.keep hb ?_ <;> (repeat' (first | (with_reducible first | assumption | refine Blk.drew ?_ | refine Blk.drewN ?_ _ | apply Blk.set | (refine Blk.new ?_; focus (first | rfl | (simp; done))) | refine Blk.alloc ?_ _ | refine Blk.other ?_ ?_ _) | exact eqL rfl | (refine neB ?_; omega)))
      have ca := Ba.cell
      have fa := Ba.free
      have la_W2 := Ba.lt
      have cb := Bb.cell
      have fb := Bb.free
      have lb_W2 := Bb.lt
      have kaW2 : Acc w W2 := by
        refine Acc.call ?_ hb
        (repeat' (first | (with_reducible first | assumption | exact Acc.refl _ | refine Acc.drew ?_ | refine Acc.drewN ?_ _ | refine Acc.alloc ?_ _ | refine Acc.setCell ?_ ?_ _) | (refine leB ?_; omega)))
      clear hb
      go_wp2_with fail
      cases vb with
      | false =>
        refine (T3.out _).mono ?_
        rintro e W3 ⟨-, h2, hb⟩
        obtain ⟨s, rfl⟩ := h2 rfl
        clear h2
        obtain ⟨Ba, Bb⟩ : Blk W3 (w.heap.size) [.int .i64 x1, .int .i64 x2, .int .i64 x3] ∧ Blk W3 (w.heap.size + 1) [.int .i64 y1, .int .i64 y2, .int .i64 y3] := by
          refine ⟨?_, ?_⟩ <;> refine Blk.keep hb ?_ <;> (repeat' (first | (with_reducible first | assumption | refine Blk.drew ?_ | refine Blk.drewN ?_ _ | apply Blk.set | (refine Blk.new ?_; focus (first | rfl | (simp; done))) | refine Blk.alloc ?_ _ | refine Blk.other ?_ ?_ _) | exact eqL rfl | (refine neB ?_; omega)))
        have ca := Ba.cell
        have fa := Ba.free
        have la_W3 := Ba.lt
        have cb := Bb.cell
        have fb := Bb.free
        have lb_W3 := Bb.lt
        have kaW3 : Acc w W3 := by
          refine Acc.call ?_ hb
          (repeat' (first | (with_reducible first | assumption | exact Acc.refl _ | refine Acc.drew ?_ | refine Acc.drewN ?_ _ | refine Acc.alloc ?_ _ | refine Acc.setCell ?_ ?_ _) | (refine leB ?_; omega)))
        clear hb
        go_wp2_with fail
        go_ret
        refine ⟨fun h => (by cases h), fun _ => ⟨_, rfl⟩, ?_⟩
        show Acc w _
        (repeat' (first | (with_reducible first | assumption | exact Acc.refl _ | refine Acc.drew ?_ | refine Acc.drewN ?_ _ | refine Acc.alloc ?_ _ | refine Acc.setCell ?_ ?_ _) | (refine leB ?_; omega)))
      | true =>
        refine (T3.out _).mono ?_
        rintro e W3 ⟨h1, -, hb⟩
        obtain rfl := h1 rfl
        clear h1
        obtain ⟨Ba, Bb⟩ : Blk W3 (w.heap.size) [.int .i64 x1, .int .i64 x2, .int .i64 x3] ∧ Blk W3 (w.heap.size + 1) [.int .i64 y1, .int .i64 y2, .int .i64 y3] := by
          refine ⟨?_, ?_⟩ <;> refine Blk.keep hb ?_ <;> (repeat' (first | (with_reducible first | assumption | refine Blk.drew ?_ | refine Blk.drewN ?_ _ | apply Blk.set | (refine Blk.new ?_; focus (first | rfl | (simp; done))) | refine Blk.alloc ?_ _ | refine Blk.other ?_ ?_ _) | exact eqL rfl | (refine neB ?_; omega)))
        have ca := Ba.cell
        have fa := Ba.free
        have la_W3 := Ba.lt
        have cb := Bb.cell
        have fb := Bb.free
        have lb_W3 := Bb.lt
        have kaW3 : Acc w W3 := by
          refine Acc.call ?_ hb
          (repeat' (first | (with_reducible first | assumption | exact Acc.refl _ | refine Acc.drew ?_ | refine Acc.drewN ?_ _ | refine Acc.alloc ?_ _ | refine Acc.setCell ?_ ?_ _) | (refine leB ?_; omega)))
        clear hb
        go_wp2_with fail
        go_ret
        refine ⟨fun _ => rfl, fun h => (by cases h), ?_⟩
        show Acc w _
        (repeat' (first | (with_reducible first | assumption | exact Acc.refl _ | refine Acc.drew ?_ | refine Acc.drewN ?_ _ | refine Acc.alloc ?_ _ | refine Acc.setCell ?_ ?_ _) | (refine leB ?_; omega)))
set_option maxRecDepth 100000 in
set_option maxHeartbeats 16000000 in
theorem sides_any (a : Option Addr) (ls : List L4) (cap : Nat) (x1 x2 x3 y1 y2 y3 : Int) (hx1 : i64B x1) (hx2 : i64B x2) (hx3 : i64B x3) (hy1 : i64B y1) (hy2 : i64B y2) (hy3 : i64B y3) (w : World) (h : Lys w a ls) (hn : ls.length ≤ 1048576) : Calls Tryz.prog 63 #[.slice a ls.length cap, .agg #[.int .i64 x1, .int .i64 x2, .int .i64 x3], .agg #[.int .i64 y1, .int .i64 y2, .int .i64 y3]] w (ErrV (sidM ls (x1, x2, x3) (y1, y2, y3)) w) := by
  obtain ⟨v, hv⟩ : ∃ v, betB ls (x1, x2, x3) (y1, y2, y3) = v := ⟨_, rfl⟩
  have T1 := Lib.hid fun (W : World) (ka : Acc w W) => between_any a ls cap x1 x2 x3 y1 y2 y3 hx1 hx2 hx3 hy1 hy2 hy3 W (h.keep ka) hn
  rw [hv] at T1
  have HV := Lib.hid hv
  clear hv
  obtain ⟨om, hq⟩ : ∃ o, flmM ls = o := ⟨_, rfl⟩
  have T2 := Lib.hid fun (W : World) (ka : Acc w W) => filmMatrix_any a ls cap W (h.keep ka) hn
  rw [hq] at T2
  have HM := Lib.hid hq
  clear hq h
  obtain ⟨o, E⟩ : ∃ o, sidM ls (x1, x2, x3) (y1, y2, y3) = o := ⟨_, rfl⟩
  rw [E]
  have HE := Lib.hid E
  clear E
  have HA := Lib.hid fun (a1 a2 a3 a4 a5 a6 a7 a8 a9 a10 a11 a12 : Int) (ha1 : i64B a1) (ha2 : i64B a2) (ha3 : i64B a3) (ha4 : i64B a4) (ha5 : i64B a5) (ha6 : i64B a6) (ha7 : i64B a7) (ha8 : i64B a8) (ha9 : i64B a9) (ha10 : i64B a10) (ha11 : i64B a11) (ha12 : i64B a12) W => mxapply_any a1 a2 a3 a4 a5 a6 a7 a8 a9 a10 a11 a12 1 0 1 y1 y2 y3 ha1 ha2 ha3 ha4 ha5 ha6 ha7 ha8 ha9 ha10 ha11 ha12 (by unfold i64B; omega) (by unfold i64B; omega) (by unfold i64B; omega) hy1 hy2 hy3 W
  have HT := Lib.hid fun (z1 z2 z3 : Int) (hz1 : i64B z1) (hz2 : i64B z2) (hz3 : i64B z3) W => mtimes_any x1 x2 x3 z1 z2 z3 W hx1 hx2 hx3 hz1 hz2 hz3
  clear hx1 hx2 hx3 hy1 hy2 hy3
  go_enter Tryz.func63, Tryz.ntmps63
  go_wp2_with fail
  cases v with
  | false =>
    refine (T1.out _ (by repeat' (first | (with_reducible first | assumption | exact Acc.refl _ | refine Acc.drew ?_ | refine Acc.drewN ?_ _ | refine Acc.alloc ?_ _ | refine Acc.setCell ?_ ?_ _) | (refine leB ?_; omega)))).mono ?_
    rintro e W1 ⟨-, h2, hb⟩
    obtain ⟨s, rfl⟩ := h2 rfl
    clear h2
    obtain ⟨Ba, Bb, Br⟩ : Blk W1 (w.heap.size) [.int .i64 x1, .int .i64 x2, .int .i64 x3] ∧ Blk W1 (w.heap.size + 1) [.int .i64 y1, .int .i64 y2, .int .i64 y3] ∧ Blk W1 (w.heap.size + 1 + 1) [.int .i64 0, .int .i64 0, .int .i64 0, .int .i64 0, .int .i64 0, .int .i64 0] := by
      refine ⟨?_, ?_, ?_⟩ <;> refine Blk.keep hb ?_ <;> (repeat' (first | (with_reducible first | assumption | refine Blk.drew ?_ | refine Blk.drewN ?_ _ | apply Blk.set | (refine Blk.new ?_; focus (first | rfl | (simp; done))) | refine Blk.alloc ?_ _ | refine Blk.other ?_ ?_ _) | exact eqL rfl | (refine neB ?_; omega)))
    have ca := Ba.cell
    have fa := Ba.free
    have la_W1 := Ba.lt
    have cb := Bb.cell
    have fb := Bb.free
    have lb_W1 := Bb.lt
    have cr := Br.cell
    have fr := Br.free
    have lr_W1 := Br.lt
    have kaW1 : Acc w W1 := by
      refine Acc.call ?_ hb
      (repeat' (first | (with_reducible first | assumption | exact Acc.refl _ | refine Acc.drew ?_ | refine Acc.drewN ?_ _ | refine Acc.alloc ?_ _ | refine Acc.setCell ?_ ?_ _) | (refine leB ?_; omega)))
    clear hb
    go_wp2_with fail
    obtain rfl : o = none := HE.out.symm.trans (by unfold sidM; have e := HV.out; unfold betB at e; rw [Bool.and_assoc] at e; rcases Bool.and_eq_false_iff.1 e with e | e; (rw [show flmM ls = none by unfold flmM; rw [e]; rfl]; split <;> rfl); rw [e]; rfl)
    refine bodyPost_ret (v := .tuple #[.agg #[.int .i64 0, .int .i64 0, .int .i64 0, .int .i64 0, .int .i64 0, .int .i64 0], .iface 65 (.agg #[.string s])]) (by simp [results, Tryz.results63, go_sem, *]) rfl ⟨fun _ _ _ _ _ _ h => (by cases h), fun _ => ⟨_, _, _, _, _, _, _, rfl⟩, ?_⟩
    show Acc w _
    (repeat' (first | (with_reducible first | assumption | exact Acc.refl _ | refine Acc.drew ?_ | refine Acc.drewN ?_ _ | refine Acc.alloc ?_ _ | refine Acc.setCell ?_ ?_ _) | (refine leB ?_; omega)))
  | true =>
    refine (T1.out _ (by repeat' (first | (with_reducible first | assumption | exact Acc.refl _ | refine Acc.drew ?_ | refine Acc.drewN ?_ _ | refine Acc.alloc ?_ _ | refine Acc.setCell ?_ ?_ _) | (refine leB ?_; omega)))).mono ?_
    rintro e W1 ⟨h1, -, hb⟩
    obtain rfl := h1 rfl
    clear h1
    obtain ⟨Ba, Bb, Br⟩ : Blk W1 (w.heap.size) [.int .i64 x1, .int .i64 x2, .int .i64 x3] ∧ Blk W1 (w.heap.size + 1) [.int .i64 y1, .int .i64 y2, .int .i64 y3] ∧ Blk W1 (w.heap.size + 1 + 1) [.int .i64 0, .int .i64 0, .int .i64 0, .int .i64 0, .int .i64 0, .int .i64 0] := by
      refine ⟨?_, ?_, ?_⟩ <;> refine Blk.keep hb ?_ <;> (repeat' (first | (with_reducible first | assumption | refine Blk.drew ?_ | refine Blk.drewN ?_ _ | apply Blk.set | (refine Blk.new ?_; focus (first | rfl | (simp; done))) | refine Blk.alloc ?_ _ | refine Blk.other ?_ ?_ _) | exact eqL rfl | (refine neB ?_; omega)))
    have ca := Ba.cell
    have fa := Ba.free
    have la_W1 := Ba.lt
    have cb := Bb.cell
    have fb := Bb.free
    have lb_W1 := Bb.lt
    have cr := Br.cell
    have fr := Br.free
    have lr_W1 := Br.lt
    have kaW1 : Acc w W1 := by
      refine Acc.call ?_ hb
      (repeat' (first | (with_reducible first | assumption | exact Acc.refl _ | refine Acc.drew ?_ | refine Acc.drewN ?_ _ | refine Acc.alloc ?_ _ | refine Acc.setCell ?_ ?_ _) | (refine leB ?_; omega)))
    clear hb
    go_wp2_with fail
    have HB : RowKit.Hid ((okX (x1, x2, x3) && okX (y1, y2, y3)) = true) := Lib.hid (by have e := HV.out; unfold betB at e; rw [Bool.and_assoc] at e; exact (Bool.and_eq_true_iff.1 e).2)
    cases om with
    | none =>
      refine (T2.out _ (by repeat' (first | (with_reducible first | assumption | exact Acc.refl _ | refine Acc.drew ?_ | refine Acc.drewN ?_ _ | refine Acc.alloc ?_ _ | refine Acc.setCell ?_ ?_ _) | (refine leB ?_; omega)))).mono ?_
      rintro e W2 ⟨-, h, hb⟩
      obtain ⟨s, rfl⟩ := h rfl
      clear h
      obtain ⟨Ba, Bb, Br⟩ : Blk W2 (w.heap.size) [.int .i64 x1, .int .i64 x2, .int .i64 x3] ∧ Blk W2 (w.heap.size + 1) [.int .i64 y1, .int .i64 y2, .int .i64 y3] ∧ Blk W2 (w.heap.size + 1 + 1) [.int .i64 0, .int .i64 0, .int .i64 0, .int .i64 0, .int .i64 0, .int .i64 0] := by
        refine ⟨?_, ?_, ?_⟩ <;> refine Blk.keep hb ?_ <;> (repeat' (first | (with_reducible first | assumption | refine Blk.drew ?_ | refine Blk.drewN ?_ _ | apply Blk.set | (refine Blk.new ?_; focus (first | rfl | (simp; done))) | refine Blk.alloc ?_ _ | refine Blk.other ?_ ?_ _) | exact eqL rfl | (refine neB ?_; omega)))
      have ca := Ba.cell
      have fa := Ba.free
      have la_W2 := Ba.lt
      have cb := Bb.cell
      have fb := Bb.free
      have lb_W2 := Bb.lt
      have cr := Br.cell
      have fr := Br.free
      have lr_W2 := Br.lt
      have kaW2 : Acc w W2 := by
        refine Acc.call ?_ hb
        (repeat' (first | (with_reducible first | assumption | exact Acc.refl _ | refine Acc.drew ?_ | refine Acc.drewN ?_ _ | refine Acc.alloc ?_ _ | refine Acc.setCell ?_ ?_ _) | (refine leB ?_; omega)))
      clear hb
      go_wp2_with fail
      obtain rfl : o = none := HE.out.symm.trans (by unfold sidM; rw [HB.out, HM.out]; rfl)
      refine bodyPost_ret (v := .tuple #[.agg #[.int .i64 0, .int .i64 0, .int .i64 0, .int .i64 0, .int .i64 0, .int .i64 0], .iface 65 (.agg #[.string s])]) (by simp [results, Tryz.results63, go_sem, *]) rfl ⟨fun _ _ _ _ _ _ h => (by cases h), fun _ => ⟨_, _, _, _, _, _, _, rfl⟩, ?_⟩
      show Acc w _
      (repeat' (first | (with_reducible first | assumption | exact Acc.refl _ | refine Acc.drew ?_ | refine Acc.drewN ?_ _ | refine Acc.alloc ?_ _ | refine Acc.setCell ?_ ?_ _) | (refine leB ?_; omega)))
    | some v =>
      obtain ⟨⟨a1, a2, a3⟩, ⟨a4, a5, a6⟩, ⟨a7, a8, a9⟩, a10, a11, a12⟩ := v
      have HM2 : RowKit.Hid (okM ((a1, a2, a3), (a4, a5, a6), (a7, a8, a9), (a10, a11, a12)) = true) := Lib.hid (flmM_ok HM.out)
      obtain ⟨ha1, ha2, ha3, ha4, ha5, ha6, ha7, ha8, ha9, ha10, ha11, ha12⟩ := i64M_of HM2.out
      dsimp only at ha1 ha2 ha3 ha4 ha5 ha6 ha7 ha8 ha9 ha10 ha11 ha12
      obtain ⟨ov, hq⟩ : ∃ o, appM ((a1, a2, a3), (a4, a5, a6), (a7, a8, a9), (a10, a11, a12)) ((1, 0, 1), (y1, y2, y3)) = o := ⟨_, rfl⟩
      have TA := Lib.hid fun w => HA.out a1 a2 a3 a4 a5 a6 a7 a8 a9 a10 a11 a12 ha1 ha2 ha3 ha4 ha5 ha6 ha7 ha8 ha9 ha10 ha11 ha12 w
      rw [hq] at TA
      have HAv := Lib.hid hq
      clear hq
      clear ha1 ha2 ha3 ha4 ha5 ha6 ha7 ha8 ha9 ha10 ha11 ha12 HA
      refine (T2.out _ (by repeat' (first | (with_reducible first | assumption | exact Acc.refl _ | refine Acc.drew ?_ | refine Acc.drewN ?_ _ | refine Acc.alloc ?_ _ | refine Acc.setCell ?_ ?_ _) | (refine leB ?_; omega)))).mono ?_
      rintro e W2 ⟨h, -, hb⟩
      obtain rfl := h _ _ _ _ _ _ _ _ _ _ _ _ rfl
      clear h
      obtain ⟨Ba, Bb, Br⟩ : Blk W2 (w.heap.size) [.int .i64 x1, .int .i64 x2, .int .i64 x3] ∧ Blk W2 (w.heap.size + 1) [.int .i64 y1, .int .i64 y2, .int .i64 y3] ∧ Blk W2 (w.heap.size + 1 + 1) [.int .i64 0, .int .i64 0, .int .i64 0, .int .i64 0, .int .i64 0, .int .i64 0] := by
        refine ⟨?_, ?_, ?_⟩ <;> refine Blk.keep hb ?_ <;> (repeat' (first | (with_reducible first | assumption | refine Blk.drew ?_ | refine Blk.drewN ?_ _ | apply Blk.set | (refine Blk.new ?_; focus (first | rfl | (simp; done))) | refine Blk.alloc ?_ _ | refine Blk.other ?_ ?_ _) | exact eqL rfl | (refine neB ?_; omega)))
      have ca := Ba.cell
      have fa := Ba.free
      have la_W2 := Ba.lt
      have cb := Bb.cell
      have fb := Bb.free
      have lb_W2 := Bb.lt
      have cr := Br.cell
      have fr := Br.free
      have lr_W2 := Br.lt
      have kaW2 : Acc w W2 := by
        refine Acc.call ?_ hb
        (repeat' (first | (with_reducible first | assumption | exact Acc.refl _ | refine Acc.drew ?_ | refine Acc.drewN ?_ _ | refine Acc.alloc ?_ _ | refine Acc.setCell ?_ ?_ _) | (refine leB ?_; omega)))
      clear hb
      go_wp2_with fail
      cases ov with
      | none =>
        refine (TA.out _).mono ?_
        rintro e W3 ⟨-, h, hb⟩
        obtain ⟨s, rfl⟩ := h rfl
        clear h
        obtain ⟨Ba, Bb, Br, Bm⟩ : Blk W3 (w.heap.size) [.int .i64 x1, .int .i64 x2, .int .i64 x3] ∧ Blk W3 (w.heap.size + 1) [.int .i64 y1, .int .i64 y2, .int .i64 y3] ∧ Blk W3 (w.heap.size + 1 + 1) [.int .i64 0, .int .i64 0, .int .i64 0, .int .i64 0, .int .i64 0, .int .i64 0] ∧ Blk W3 (W2.heap.size) [.int .i64 a1, .int .i64 a2, .int .i64 a3, .int .i64 a4, .int .i64 a5, .int .i64 a6, .int .i64 a7, .int .i64 a8, .int .i64 a9, .int .i64 a10, .int .i64 a11, .int .i64 a12] := by
          refine ⟨?_, ?_, ?_, ?_⟩ <;> refine Blk.keep hb ?_ <;> (repeat' (first | (with_reducible first | assumption | refine Blk.drew ?_ | refine Blk.drewN ?_ _ | apply Blk.set | (refine Blk.new ?_; focus (first | rfl | (simp; done))) | refine Blk.alloc ?_ _ | refine Blk.other ?_ ?_ _) | exact eqL rfl | (refine neB ?_; omega)))
        have ca := Ba.cell
        have fa := Ba.free
        have la_W3 := Ba.lt
        have cb := Bb.cell
        have fb := Bb.free
        have lb_W3 := Bb.lt
        have cr := Br.cell
        have fr := Br.free
        have lr_W3 := Br.lt
        have cm := Bm.cell
        have fm := Bm.free
        have lm_W3 := Bm.lt
        have kaW3 : Acc w W3 := by
          refine Acc.call ?_ hb
          (repeat' (first | (with_reducible first | assumption | exact Acc.refl _ | refine Acc.drew ?_ | refine Acc.drewN ?_ _ | refine Acc.alloc ?_ _ | refine Acc.setCell ?_ ?_ _) | (refine leB ?_; omega)))
        clear hb
        go_wp2_with fail
        obtain rfl : o = none := HE.out.symm.trans (by unfold sidM; rw [HB.out, HM.out]; show (appM ((a1, a2, a3), (a4, a5, a6), (a7, a8, a9), (a10, a11, a12)) ((1, 0, 1), (y1, y2, y3))).bind _ = _; rw [HAv.out]; rfl)
        refine bodyPost_ret (v := .tuple #[.agg #[.int .i64 0, .int .i64 0, .int .i64 0, .int .i64 0, .int .i64 0, .int .i64 0], .iface 65 (.agg #[.string s])]) (by simp [results, Tryz.results63, go_sem, *]) rfl ⟨fun _ _ _ _ _ _ h => (by cases h), fun _ => ⟨_, _, _, _, _, _, _, rfl⟩, ?_⟩
        show Acc w _
        (repeat' (first | (with_reducible first | assumption | exact Acc.refl _ | refine Acc.drew ?_ | refine Acc.drewN ?_ _ | refine Acc.alloc ?_ _ | refine Acc.setCell ?_ ?_ _) | (refine leB ?_; omega)))
      | some v =>
        obtain ⟨⟨v1, v2, v3⟩, v4, v5, v6⟩ := v
        have hvv := appM_vals HAv.out
        obtain ⟨hz1, hz2, hz3⟩ := okF_i64 hvv.1
        obtain ⟨ot, hq⟩ : ∃ o, timesF x1 x2 x3 v1 v2 v3 = o := ⟨_, rfl⟩
        have TT := Lib.hid fun w => HT.out v1 v2 v3 hz1 hz2 hz3 w
        rw [hq] at TT
        have HTt := Lib.hid hq
        clear hq
        clear hz1 hz2 hz3 hvv HT
        refine (TA.out _).mono ?_
        rintro e W3 ⟨h, -, hb⟩
        obtain rfl := h _ _ _ _ _ _ rfl
        clear h
        obtain ⟨Ba, Bb, Br, Bm⟩ : Blk W3 (w.heap.size) [.int .i64 x1, .int .i64 x2, .int .i64 x3] ∧ Blk W3 (w.heap.size + 1) [.int .i64 y1, .int .i64 y2, .int .i64 y3] ∧ Blk W3 (w.heap.size + 1 + 1) [.int .i64 0, .int .i64 0, .int .i64 0, .int .i64 0, .int .i64 0, .int .i64 0] ∧ Blk W3 (W2.heap.size) [.int .i64 a1, .int .i64 a2, .int .i64 a3, .int .i64 a4, .int .i64 a5, .int .i64 a6, .int .i64 a7, .int .i64 a8, .int .i64 a9, .int .i64 a10, .int .i64 a11, .int .i64 a12] := by
          refine ⟨?_, ?_, ?_, ?_⟩ <;> refine Blk.keep hb ?_ <;> (repeat' (first | (with_reducible first | assumption | refine Blk.drew ?_ | refine Blk.drewN ?_ _ | apply Blk.set | (refine Blk.new ?_; focus (first | rfl | (simp; done))) | refine Blk.alloc ?_ _ | refine Blk.other ?_ ?_ _) | exact eqL rfl | (refine neB ?_; omega)))
        have ca := Ba.cell
        have fa := Ba.free
        have la_W3 := Ba.lt
        have cb := Bb.cell
        have fb := Bb.free
        have lb_W3 := Bb.lt
        have cr := Br.cell
        have fr := Br.free
        have lr_W3 := Br.lt
        have cm := Bm.cell
        have fm := Bm.free
        have lm_W3 := Bm.lt
        have kaW3 : Acc w W3 := by
          refine Acc.call ?_ hb
          (repeat' (first | (with_reducible first | assumption | exact Acc.refl _ | refine Acc.drew ?_ | refine Acc.drewN ?_ _ | refine Acc.alloc ?_ _ | refine Acc.setCell ?_ ?_ _) | (refine leB ?_; omega)))
        clear hb
        go_wp2_with fail
        cases ot with
        | none =>
          refine (TT.out _).mono ?_
          rintro e W4 ⟨-, h, hb⟩
          obtain ⟨s, rfl⟩ := h rfl
          clear h
          obtain ⟨Ba, Bb, Br, Bm, Bv⟩ : Blk W4 (w.heap.size) [.int .i64 x1, .int .i64 x2, .int .i64 x3] ∧ Blk W4 (w.heap.size + 1) [.int .i64 y1, .int .i64 y2, .int .i64 y3] ∧ Blk W4 (w.heap.size + 1 + 1) [.int .i64 0, .int .i64 0, .int .i64 0, .int .i64 0, .int .i64 0, .int .i64 0] ∧ Blk W4 (W2.heap.size) [.int .i64 a1, .int .i64 a2, .int .i64 a3, .int .i64 a4, .int .i64 a5, .int .i64 a6, .int .i64 a7, .int .i64 a8, .int .i64 a9, .int .i64 a10, .int .i64 a11, .int .i64 a12] ∧ Blk W4 (W3.heap.size) [.int .i64 v1, .int .i64 v2, .int .i64 v3, .int .i64 v4, .int .i64 v5, .int .i64 v6] := by
            refine ⟨?_, ?_, ?_, ?_, ?_⟩ <;> refine Blk.keep hb ?_ <;> (repeat' (first | (with_reducible first | assumption | refine Blk.drew ?_ | refine Blk.drewN ?_ _ | apply Blk.set | (refine Blk.new ?_; focus (first | rfl | (simp; done))) | refine Blk.alloc ?_ _ | refine Blk.other ?_ ?_ _) | exact eqL rfl | (refine neB ?_; omega)))
          have ca := Ba.cell
          have fa := Ba.free
          have la_W4 := Ba.lt
          have cb := Bb.cell
          have fb := Bb.free
          have lb_W4 := Bb.lt
          have cr := Br.cell
          have fr := Br.free
          have lr_W4 := Br.lt
          have cm := Bm.cell
          have fm := Bm.free
          have lm_W4 := Bm.lt
          have cv := Bv.cell
          have fv := Bv.free
          have lv_W4 := Bv.lt
          have kaW4 : Acc w W4 := by
            refine Acc.call ?_ hb
            (repeat' (first | (with_reducible first | assumption | exact Acc.refl _ | refine Acc.drew ?_ | refine Acc.drewN ?_ _ | refine Acc.alloc ?_ _ | refine Acc.setCell ?_ ?_ _) | (refine leB ?_; omega)))
          clear hb
          go_wp2_with fail
          obtain rfl : o = none := HE.out.symm.trans (by unfold sidM; rw [HB.out, HM.out]; show (appM ((a1, a2, a3), (a4, a5, a6), (a7, a8, a9), (a10, a11, a12)) ((1, 0, 1), (y1, y2, y3))).bind _ = _; rw [HAv.out]; show (tT (x1, x2, x3) (v1, v2, v3)).bind _ = _; rw [show tT (x1, x2, x3) (v1, v2, v3) = none from HTt.out]; rfl)
          refine bodyPost_ret (v := .tuple #[.agg #[.int .i64 0, .int .i64 0, .int .i64 0, .int .i64 v4, .int .i64 v5, .int .i64 v6], .iface 65 (.agg #[.string s])]) (by simp [results, Tryz.results63, go_sem, *]) rfl ⟨fun _ _ _ _ _ _ h => (by cases h), fun _ => ⟨_, _, _, _, _, _, _, rfl⟩, ?_⟩
          show Acc w _
          (repeat' (first | (with_reducible first | assumption | exact Acc.refl _ | refine Acc.drew ?_ | refine Acc.drewN ?_ _ | refine Acc.alloc ?_ _ | refine Acc.setCell ?_ ?_ _) | (refine leB ?_; omega)))
        | some v =>
          obtain ⟨t1, t2, t3⟩ := v
          refine (TT.out _).mono ?_
          rintro e W4 ⟨h, -, hb⟩
          obtain rfl := h _ _ _ rfl
          clear h
          obtain ⟨Ba, Bb, Br, Bm, Bv⟩ : Blk W4 (w.heap.size) [.int .i64 x1, .int .i64 x2, .int .i64 x3] ∧ Blk W4 (w.heap.size + 1) [.int .i64 y1, .int .i64 y2, .int .i64 y3] ∧ Blk W4 (w.heap.size + 1 + 1) [.int .i64 0, .int .i64 0, .int .i64 0, .int .i64 0, .int .i64 0, .int .i64 0] ∧ Blk W4 (W2.heap.size) [.int .i64 a1, .int .i64 a2, .int .i64 a3, .int .i64 a4, .int .i64 a5, .int .i64 a6, .int .i64 a7, .int .i64 a8, .int .i64 a9, .int .i64 a10, .int .i64 a11, .int .i64 a12] ∧ Blk W4 (W3.heap.size) [.int .i64 v1, .int .i64 v2, .int .i64 v3, .int .i64 v4, .int .i64 v5, .int .i64 v6] := by
            refine ⟨?_, ?_, ?_, ?_, ?_⟩ <;> refine Blk.keep hb ?_ <;> (repeat' (first | (with_reducible first | assumption | refine Blk.drew ?_ | refine Blk.drewN ?_ _ | apply Blk.set | (refine Blk.new ?_; focus (first | rfl | (simp; done))) | refine Blk.alloc ?_ _ | refine Blk.other ?_ ?_ _) | exact eqL rfl | (refine neB ?_; omega)))
          have ca := Ba.cell
          have fa := Ba.free
          have la_W4 := Ba.lt
          have cb := Bb.cell
          have fb := Bb.free
          have lb_W4 := Bb.lt
          have cr := Br.cell
          have fr := Br.free
          have lr_W4 := Br.lt
          have cm := Bm.cell
          have fm := Bm.free
          have lm_W4 := Bm.lt
          have cv := Bv.cell
          have fv := Bv.free
          have lv_W4 := Bv.lt
          have kaW4 : Acc w W4 := by
            refine Acc.call ?_ hb
            (repeat' (first | (with_reducible first | assumption | exact Acc.refl _ | refine Acc.drew ?_ | refine Acc.drewN ?_ _ | refine Acc.alloc ?_ _ | refine Acc.setCell ?_ ?_ _) | (refine leB ?_; omega)))
          clear hb
          go_wp2_with fail
          obtain rfl : o = some ((t1, t2, t3), (v4, v5, v6)) := HE.out.symm.trans (by unfold sidM; rw [HB.out, HM.out]; show (appM ((a1, a2, a3), (a4, a5, a6), (a7, a8, a9), (a10, a11, a12)) ((1, 0, 1), (y1, y2, y3))).bind _ = _; rw [HAv.out]; show (tT (x1, x2, x3) (v1, v2, v3)).bind _ = _; rw [show tT (x1, x2, x3) (v1, v2, v3) = some (t1, t2, t3) from HTt.out]; rfl)
          refine bodyPost_ret (v := .tuple #[.agg #[.int .i64 t1, .int .i64 t2, .int .i64 t3, .int .i64 v4, .int .i64 v5, .int .i64 v6], .nilIface]) (by simp [results, Tryz.results63, go_sem, *]) rfl ⟨fun _ _ _ _ _ _ h => (by cases h; rfl), fun h => (by cases h), ?_⟩
          show Acc w _
          (repeat' (first | (with_reducible first | assumption | exact Acc.refl _ | refine Acc.drew ?_ | refine Acc.drewN ?_ _ | refine Acc.alloc ?_ _ | refine Acc.setCell ?_ ?_ _) | (refine leB ?_; omega)))
set_option maxRecDepth 100000 in
set_option maxHeartbeats 16000000 in
theorem reflected_any (a : Option Addr) (ls : List L4) (cap : Nat) (x1 x2 x3 y1 y2 y3 : Int) (hx1 : i64B x1) (hx2 : i64B x2) (hx3 : i64B x3) (hy1 : i64B y1) (hy2 : i64B y2) (hy3 : i64B y3) (w : World) (h : Lys w a ls) (hn : ls.length ≤ 1048576) : Calls Tryz.prog 42 #[.slice a ls.length cap, .agg #[.int .i64 x1, .int .i64 x2, .int .i64 x3], .agg #[.int .i64 y1, .int .i64 y2, .int .i64 y3]] w (Erred (refM ls (x1, x2, x3) (y1, y2, y3)) w) := by
  obtain ⟨os, hq⟩ : ∃ o, sidM ls (x1, x2, x3) (y1, y2, y3) = o := ⟨_, rfl⟩
  have TS := Lib.hid fun (W : World) (ka : Acc w W) => sides_any a ls cap x1 x2 x3 y1 y2 y3 hx1 hx2 hx3 hy1 hy2 hy3 W (h.keep ka) hn
  rw [hq] at TS
  have HS := Lib.hid hq
  clear hq h
  obtain ⟨o, E⟩ : ∃ o, refM ls (x1, x2, x3) (y1, y2, y3) = o := ⟨_, rfl⟩
  rw [E]
  have HE := Lib.hid E
  clear E
  go_enter Tryz.func42, Tryz.ntmps42
  go_wp2_with fail
  cases os with
  | none =>
    refine (TS.out _ (by repeat' (first | (with_reducible first | assumption | exact Acc.refl _ | refine Acc.drew ?_ | refine Acc.drewN ?_ _ | refine Acc.alloc ?_ _ | refine Acc.setCell ?_ ?_ _) | (refine leB ?_; omega)))).mono ?_
    rintro e W1 ⟨-, h, hb⟩
    obtain ⟨u1, u2, u3, u4, u5, u6, s, rfl⟩ := h rfl
    clear h
    obtain ⟨Ba, Bb, Br⟩ : Blk W1 (w.heap.size) [.int .i64 x1, .int .i64 x2, .int .i64 x3] ∧ Blk W1 (w.heap.size + 1) [.int .i64 y1, .int .i64 y2, .int .i64 y3] ∧ Blk W1 (w.heap.size + 1 + 1) [.int .i64 0, .int .i64 0, .int .i64 0] := by
      refine ⟨?_, ?_, ?_⟩ <;> refine Blk.keep hb ?_ <;> (repeat' (first | (with_reducible first | assumption | refine Blk.drew ?_ | refine Blk.drewN ?_ _ | apply Blk.set | (refine Blk.new ?_; focus (first | rfl | (simp; done))) | refine Blk.alloc ?_ _ | refine Blk.other ?_ ?_ _) | exact eqL rfl | (refine neB ?_; omega)))
    have ca := Ba.cell
    have fa := Ba.free
    have la_W1 := Ba.lt
    have cb := Bb.cell
    have fb := Bb.free
    have lb_W1 := Bb.lt
    have cr := Br.cell
    have fr := Br.free
    have lr_W1 := Br.lt
    have kaW1 : Acc w W1 := by
      refine Acc.call ?_ hb
      (repeat' (first | (with_reducible first | assumption | exact Acc.refl _ | refine Acc.drew ?_ | refine Acc.drewN ?_ _ | refine Acc.alloc ?_ _ | refine Acc.setCell ?_ ?_ _) | (refine leB ?_; omega)))
    clear hb
    go_wp2_with fail
    obtain rfl : o = none := HE.out.symm.trans (by unfold refM; rw [HS.out]; rfl)
    refine bodyPost_ret (v := .tuple #[.agg #[.int .i64 0, .int .i64 0, .int .i64 0], .iface 65 (.agg #[.string s])]) (by simp [results, Tryz.results42, go_sem, *]) rfl ⟨fun _ _ _ h => (by cases h), fun _ => ⟨_, rfl⟩, ?_⟩
    show Acc w _
    (repeat' (first | (with_reducible first | assumption | exact Acc.refl _ | refine Acc.drew ?_ | refine Acc.drewN ?_ _ | refine Acc.alloc ?_ _ | refine Acc.setCell ?_ ?_ _) | (refine leB ?_; omega)))
  | some v =>
    obtain ⟨⟨t1, t2, t3⟩, c1, c2, c3⟩ := v
    obtain ⟨ok1, -, ok2, ok3⟩ := sidM_vals HS.out
    have okx := okF_i64 ok1
    have okt := okF_i64 ok2
    have okc := okF_i64 ok3
    obtain ⟨om, hq⟩ : ∃ o, sumF (-1) t1 t2 t3 c1 c2 c3 = o := ⟨_, rfl⟩
    have TM := Lib.hid fun w => minus_any t1 t2 t3 c1 c2 c3 w okt.1 okt.2.1 okt.2.2 okc.1 okc.2.1 okc.2.2
    rw [hq] at TM
    have HM := Lib.hid hq
    clear hq
    obtain ⟨on, hq⟩ : ∃ o, sumF 1 t1 t2 t3 c1 c2 c3 = o := ⟨_, rfl⟩
    have TN := Lib.hid fun w => plus_any t1 t2 t3 c1 c2 c3 w okt.1 okt.2.1 okt.2.2 okc.1 okc.2.1 okc.2.2
    rw [hq] at TN
    have HN := Lib.hid hq
    clear hq
    clear ok1 ok2 ok3 okx okt okc
    refine (TS.out _ (by repeat' (first | (with_reducible first | assumption | exact Acc.refl _ | refine Acc.drew ?_ | refine Acc.drewN ?_ _ | refine Acc.alloc ?_ _ | refine Acc.setCell ?_ ?_ _) | (refine leB ?_; omega)))).mono ?_
    rintro e W1 ⟨h, -, hb⟩
    obtain rfl := h _ _ _ _ _ _ rfl
    clear h
    obtain ⟨Ba, Bb, Br⟩ : Blk W1 (w.heap.size) [.int .i64 x1, .int .i64 x2, .int .i64 x3] ∧ Blk W1 (w.heap.size + 1) [.int .i64 y1, .int .i64 y2, .int .i64 y3] ∧ Blk W1 (w.heap.size + 1 + 1) [.int .i64 0, .int .i64 0, .int .i64 0] := by
      refine ⟨?_, ?_, ?_⟩ <;> refine Blk.keep hb ?_ <;> (repeat' (first | (with_reducible first | assumption | refine Blk.drew ?_ | refine Blk.drewN ?_ _ | apply Blk.set | (refine Blk.new ?_; focus (first | rfl | (simp; done))) | refine Blk.alloc ?_ _ | refine Blk.other ?_ ?_ _) | exact eqL rfl | (refine neB ?_; omega)))
    have ca := Ba.cell
    have fa := Ba.free
    have la_W1 := Ba.lt
    have cb := Bb.cell
    have fb := Bb.free
    have lb_W1 := Bb.lt
    have cr := Br.cell
    have fr := Br.free
    have lr_W1 := Br.lt
    have kaW1 : Acc w W1 := by
      refine Acc.call ?_ hb
      (repeat' (first | (with_reducible first | assumption | exact Acc.refl _ | refine Acc.drew ?_ | refine Acc.drewN ?_ _ | refine Acc.alloc ?_ _ | refine Acc.setCell ?_ ?_ _) | (refine leB ?_; omega)))
    clear hb
    go_wp2_with fail
    cases om with
    | none =>
      refine (TM.out _).mono ?_
      rintro e W2 ⟨-, h, hb⟩
      obtain ⟨s, rfl⟩ := h rfl
      clear h
      obtain ⟨Ba, Bb, Br, Bs⟩ : Blk W2 (w.heap.size) [.int .i64 x1, .int .i64 x2, .int .i64 x3] ∧ Blk W2 (w.heap.size + 1) [.int .i64 y1, .int .i64 y2, .int .i64 y3] ∧ Blk W2 (w.heap.size + 1 + 1) [.int .i64 0, .int .i64 0, .int .i64 0] ∧ Blk W2 (W1.heap.size) [.int .i64 t1, .int .i64 t2, .int .i64 t3, .int .i64 c1, .int .i64 c2, .int .i64 c3] := by
        refine ⟨?_, ?_, ?_, ?_⟩ <;> refine Blk.keep hb ?_ <;> (repeat' (first | (with_reducible first | assumption | refine Blk.drew ?_ | refine Blk.drewN ?_ _ | apply Blk.set | (refine Blk.new ?_; focus (first | rfl | (simp; done))) | refine Blk.alloc ?_ _ | refine Blk.other ?_ ?_ _) | exact eqL rfl | (refine neB ?_; omega)))
      have ca := Ba.cell
      have fa := Ba.free
      have la_W2 := Ba.lt
      have cb := Bb.cell
      have fb := Bb.free
      have lb_W2 := Bb.lt
      have cr := Br.cell
      have fr := Br.free
      have lr_W2 := Br.lt
      have cs := Bs.cell
      have fs := Bs.free
      have ls_W2 := Bs.lt
      have kaW2 : Acc w W2 := by
        refine Acc.call ?_ hb
        (repeat' (first | (with_reducible first | assumption | exact Acc.refl _ | refine Acc.drew ?_ | refine Acc.drewN ?_ _ | refine Acc.alloc ?_ _ | refine Acc.setCell ?_ ?_ _) | (refine leB ?_; omega)))
      clear hb
      go_wp2_with fail
      obtain rfl : o = none := HE.out.symm.trans (by unfold refM; rw [HS.out]; show (lT (t1, t2, t3) (c1, c2, c3)).bind _ = _; rw [show lT (t1, t2, t3) (c1, c2, c3) = none from HM.out]; rfl)
      refine bodyPost_ret (v := .tuple #[.agg #[.int .i64 0, .int .i64 0, .int .i64 0], .iface 65 (.agg #[.string s])]) (by simp [results, Tryz.results42, go_sem, *]) rfl ⟨fun _ _ _ h => (by cases h), fun _ => ⟨_, rfl⟩, ?_⟩
      show Acc w _
      (repeat' (first | (with_reducible first | assumption | exact Acc.refl _ | refine Acc.drew ?_ | refine Acc.drewN ?_ _ | refine Acc.alloc ?_ _ | refine Acc.setCell ?_ ?_ _) | (refine leB ?_; omega)))
    | some v =>
      obtain ⟨m1, m2, m3⟩ := v
      refine (TM.out _).mono ?_
      rintro e W2 ⟨h, -, hb⟩
      obtain rfl := h _ _ _ rfl
      clear h
      obtain ⟨Ba, Bb, Br, Bs⟩ : Blk W2 (w.heap.size) [.int .i64 x1, .int .i64 x2, .int .i64 x3] ∧ Blk W2 (w.heap.size + 1) [.int .i64 y1, .int .i64 y2, .int .i64 y3] ∧ Blk W2 (w.heap.size + 1 + 1) [.int .i64 0, .int .i64 0, .int .i64 0] ∧ Blk W2 (W1.heap.size) [.int .i64 t1, .int .i64 t2, .int .i64 t3, .int .i64 c1, .int .i64 c2, .int .i64 c3] := by
        refine ⟨?_, ?_, ?_, ?_⟩ <;> refine Blk.keep hb ?_ <;> (repeat' (first | (with_reducible first | assumption | refine Blk.drew ?_ | refine Blk.drewN ?_ _ | apply Blk.set | (refine Blk.new ?_; focus (first | rfl | (simp; done))) | refine Blk.alloc ?_ _ | refine Blk.other ?_ ?_ _) | exact eqL rfl | (refine neB ?_; omega)))
      have ca := Ba.cell
      have fa := Ba.free
      have la_W2 := Ba.lt
      have cb := Bb.cell
      have fb := Bb.free
      have lb_W2 := Bb.lt
      have cr := Br.cell
      have fr := Br.free
      have lr_W2 := Br.lt
      have cs := Bs.cell
      have fs := Bs.free
      have ls_W2 := Bs.lt
      have kaW2 : Acc w W2 := by
        refine Acc.call ?_ hb
        (repeat' (first | (with_reducible first | assumption | exact Acc.refl _ | refine Acc.drew ?_ | refine Acc.drewN ?_ _ | refine Acc.alloc ?_ _ | refine Acc.setCell ?_ ?_ _) | (refine leB ?_; omega)))
      clear hb
      go_wp2_with fail
      cases on with
      | none =>
        refine (TN.out _).mono ?_
        rintro e W3 ⟨-, h, hb⟩
        obtain ⟨s, rfl⟩ := h rfl
        clear h
        obtain ⟨Ba, Bb, Br, Bs, Bm⟩ : Blk W3 (w.heap.size) [.int .i64 x1, .int .i64 x2, .int .i64 x3] ∧ Blk W3 (w.heap.size + 1) [.int .i64 y1, .int .i64 y2, .int .i64 y3] ∧ Blk W3 (w.heap.size + 1 + 1) [.int .i64 0, .int .i64 0, .int .i64 0] ∧ Blk W3 (W1.heap.size) [.int .i64 t1, .int .i64 t2, .int .i64 t3, .int .i64 c1, .int .i64 c2, .int .i64 c3] ∧ Blk W3 (W2.heap.size) [.int .i64 m1, .int .i64 m2, .int .i64 m3] := by
          refine ⟨?_, ?_, ?_, ?_, ?_⟩ <;> refine Blk.keep hb ?_ <;> (repeat' (first | (with_reducible first | assumption | refine Blk.drew ?_ | refine Blk.drewN ?_ _ | apply Blk.set | (refine Blk.new ?_; focus (first | rfl | (simp; done))) | refine Blk.alloc ?_ _ | refine Blk.other ?_ ?_ _) | exact eqL rfl | (refine neB ?_; omega)))
        have ca := Ba.cell
        have fa := Ba.free
        have la_W3 := Ba.lt
        have cb := Bb.cell
        have fb := Bb.free
        have lb_W3 := Bb.lt
        have cr := Br.cell
        have fr := Br.free
        have lr_W3 := Br.lt
        have cs := Bs.cell
        have fs := Bs.free
        have ls_W3 := Bs.lt
        have cm := Bm.cell
        have fm := Bm.free
        have lm_W3 := Bm.lt
        have kaW3 : Acc w W3 := by
          refine Acc.call ?_ hb
          (repeat' (first | (with_reducible first | assumption | exact Acc.refl _ | refine Acc.drew ?_ | refine Acc.drewN ?_ _ | refine Acc.alloc ?_ _ | refine Acc.setCell ?_ ?_ _) | (refine leB ?_; omega)))
        clear hb
        go_wp2_with fail
        obtain rfl : o = none := HE.out.symm.trans (by unfold refM; rw [HS.out]; show (lT (t1, t2, t3) (c1, c2, c3)).bind _ = _; rw [show lT (t1, t2, t3) (c1, c2, c3) = some (m1, m2, m3) from HM.out]; show (sT (t1, t2, t3) (c1, c2, c3)).bind _ = _; rw [show sT (t1, t2, t3) (c1, c2, c3) = none from HN.out]; rfl)
        refine bodyPost_ret (v := .tuple #[.agg #[.int .i64 0, .int .i64 0, .int .i64 0], .iface 65 (.agg #[.string s])]) (by simp [results, Tryz.results42, go_sem, *]) rfl ⟨fun _ _ _ h => (by cases h), fun _ => ⟨_, rfl⟩, ?_⟩
        show Acc w _
        (repeat' (first | (with_reducible first | assumption | exact Acc.refl _ | refine Acc.drew ?_ | refine Acc.drewN ?_ _ | refine Acc.alloc ?_ _ | refine Acc.setCell ?_ ?_ _) | (refine leB ?_; omega)))
      | some v =>
        obtain ⟨n1, n2, n3⟩ := v
        have okm := okF_i64 ((lT_val (show lT (t1, t2, t3) (c1, c2, c3) = some (m1, m2, m3) from HM.out)).2.2.1)
        have okn := okF_i64 (sT_val (show sT (t1, t2, t3) (c1, c2, c3) = some (n1, n2, n3) from HN.out)).2.2.1
        have TO := Lib.hid fun w => mover_any m1 m2 m3 n1 n2 n3 w okm.1 okm.2.1 okm.2.2 okn.1 okn.2.1 okn.2.2
        clear okm okn
        obtain rfl : overF m1 m2 m3 n1 n2 n3 = o := Eq.trans (Eq.symm (by unfold refM; rw [HS.out]; show (lT (t1, t2, t3) (c1, c2, c3)).bind _ = _; rw [show lT (t1, t2, t3) (c1, c2, c3) = some (m1, m2, m3) from HM.out]; show (sT (t1, t2, t3) (c1, c2, c3)).bind _ = _; rw [show sT (t1, t2, t3) (c1, c2, c3) = some (n1, n2, n3) from HN.out]; rfl)) HE.out
        clear HE
        refine (TN.out _).mono ?_
        rintro e W3 ⟨h, -, hb⟩
        obtain rfl := h _ _ _ rfl
        clear h
        obtain ⟨Ba, Bb, Br, Bs, Bm⟩ : Blk W3 (w.heap.size) [.int .i64 x1, .int .i64 x2, .int .i64 x3] ∧ Blk W3 (w.heap.size + 1) [.int .i64 y1, .int .i64 y2, .int .i64 y3] ∧ Blk W3 (w.heap.size + 1 + 1) [.int .i64 0, .int .i64 0, .int .i64 0] ∧ Blk W3 (W1.heap.size) [.int .i64 t1, .int .i64 t2, .int .i64 t3, .int .i64 c1, .int .i64 c2, .int .i64 c3] ∧ Blk W3 (W2.heap.size) [.int .i64 m1, .int .i64 m2, .int .i64 m3] := by
          refine ⟨?_, ?_, ?_, ?_, ?_⟩ <;> refine Blk.keep hb ?_ <;> (repeat' (first | (with_reducible first | assumption | refine Blk.drew ?_ | refine Blk.drewN ?_ _ | apply Blk.set | (refine Blk.new ?_; focus (first | rfl | (simp; done))) | refine Blk.alloc ?_ _ | refine Blk.other ?_ ?_ _) | exact eqL rfl | (refine neB ?_; omega)))
        have ca := Ba.cell
        have fa := Ba.free
        have la_W3 := Ba.lt
        have cb := Bb.cell
        have fb := Bb.free
        have lb_W3 := Bb.lt
        have cr := Br.cell
        have fr := Br.free
        have lr_W3 := Br.lt
        have cs := Bs.cell
        have fs := Bs.free
        have ls_W3 := Bs.lt
        have cm := Bm.cell
        have fm := Bm.free
        have lm_W3 := Bm.lt
        have kaW3 : Acc w W3 := by
          refine Acc.call ?_ hb
          (repeat' (first | (with_reducible first | assumption | exact Acc.refl _ | refine Acc.drew ?_ | refine Acc.drewN ?_ _ | refine Acc.alloc ?_ _ | refine Acc.setCell ?_ ?_ _) | (refine leB ?_; omega)))
        clear hb
        go_wp2_with fail
        refine (TO.out _).mono ?_
        rintro e W4 ⟨h1, h2, hb⟩
        obtain ⟨Ba, Bb, Br, Bs, Bm, Bn⟩ : Blk W4 (w.heap.size) [.int .i64 x1, .int .i64 x2, .int .i64 x3] ∧ Blk W4 (w.heap.size + 1) [.int .i64 y1, .int .i64 y2, .int .i64 y3] ∧ Blk W4 (w.heap.size + 1 + 1) [.int .i64 0, .int .i64 0, .int .i64 0] ∧ Blk W4 (W1.heap.size) [.int .i64 t1, .int .i64 t2, .int .i64 t3, .int .i64 c1, .int .i64 c2, .int .i64 c3] ∧ Blk W4 (W2.heap.size) [.int .i64 m1, .int .i64 m2, .int .i64 m3] ∧ Blk W4 (W3.heap.size) [.int .i64 n1, .int .i64 n2, .int .i64 n3] := by
          refine ⟨?_, ?_, ?_, ?_, ?_, ?_⟩ <;> refine Blk.keep hb ?_ <;> (repeat' (first | (with_reducible first | assumption | refine Blk.drew ?_ | refine Blk.drewN ?_ _ | apply Blk.set | (refine Blk.new ?_; focus (first | rfl | (simp; done))) | refine Blk.alloc ?_ _ | refine Blk.other ?_ ?_ _) | exact eqL rfl | (refine neB ?_; omega)))
        have ca := Ba.cell
        have fa := Ba.free
        have la_W4 := Ba.lt
        have cb := Bb.cell
        have fb := Bb.free
        have lb_W4 := Bb.lt
        have cr := Br.cell
        have fr := Br.free
        have lr_W4 := Br.lt
        have cs := Bs.cell
        have fs := Bs.free
        have ls_W4 := Bs.lt
        have cm := Bm.cell
        have fm := Bm.free
        have lm_W4 := Bm.lt
        have cn := Bn.cell
        have fn := Bn.free
        have ln_W4 := Bn.lt
        have kaW4 : Acc w W4 := by
          refine Acc.call ?_ hb
          (repeat' (first | (with_reducible first | assumption | exact Acc.refl _ | refine Acc.drew ?_ | refine Acc.drewN ?_ _ | refine Acc.alloc ?_ _ | refine Acc.setCell ?_ ?_ _) | (refine leB ?_; omega)))
        clear hb
        cases ho : overF m1 m2 m3 n1 n2 n3 with
        | none =>
          obtain ⟨s, rfl⟩ := h2 ho
          clear h1 h2
          have HO := Lib.hid ho
          clear ho
          go_wp2_with fail
          refine bodyPost_ret (v := .tuple #[.agg #[.int .i64 0, .int .i64 0, .int .i64 0], .iface 65 (.agg #[.string s])]) (by simp [results, Tryz.results42, go_sem, *]) rfl ⟨fun _ _ _ h => (by rw [HO.out] at h; cases h), fun _ => ⟨_, rfl⟩, ?_⟩
          show Acc w _
          (repeat' (first | (with_reducible first | assumption | exact Acc.refl _ | refine Acc.drew ?_ | refine Acc.drewN ?_ _ | refine Acc.alloc ?_ _ | refine Acc.setCell ?_ ?_ _) | (refine leB ?_; omega)))
        | some v =>
          obtain ⟨l1, l2, l3⟩ := v
          obtain rfl := h1 _ _ _ ho
          clear h1 h2
          have HO := Lib.hid ho
          clear ho
          go_wp2_with fail
          refine bodyPost_ret (v := .tuple #[.agg #[.int .i64 l1, .int .i64 l2, .int .i64 l3], .nilIface]) (by simp [results, Tryz.results42, go_sem, *]) rfl ⟨fun _ _ _ h => (by rw [HO.out] at h; cases h; rfl), fun h => (by rw [HO.out] at h; cases h), ?_⟩
          show Acc w _
          (repeat' (first | (with_reducible first | assumption | exact Acc.refl _ | refine Acc.drew ?_ | refine Acc.drewN ?_ _ | refine Acc.alloc ?_ _ | refine Acc.setCell ?_ ?_ _) | (refine leB ?_; omega)))
set_option maxRecDepth 100000 in
set_option maxHeartbeats 16000000 in
theorem passing_any (a : Option Addr) (ls : List L4) (cap : Nat) (x1 x2 x3 y1 y2 y3 : Int) (hx1 : i64B x1) (hx2 : i64B x2) (hx3 : i64B x3) (hy1 : i64B y1) (hy2 : i64B y2) (hy3 : i64B y3) (w : World) (h : Lys w a ls) (hn : ls.length ≤ 1048576) : Calls Tryz.prog 43 #[.slice a ls.length cap, .agg #[.int .i64 x1, .int .i64 x2, .int .i64 x3], .agg #[.int .i64 y1, .int .i64 y2, .int .i64 y3]] w (Erred (pasM ls (x1, x2, x3) (y1, y2, y3)) w) := by
  obtain ⟨os, hq⟩ : ∃ o, sidM ls (x1, x2, x3) (y1, y2, y3) = o := ⟨_, rfl⟩
  have TS := Lib.hid fun (W : World) (ka : Acc w W) => sides_any a ls cap x1 x2 x3 y1 y2 y3 hx1 hx2 hx3 hy1 hy2 hy3 W (h.keep ka) hn
  rw [hq] at TS
  have HS := Lib.hid hq
  clear hq h
  obtain ⟨o, E⟩ : ∃ o, pasM ls (x1, x2, x3) (y1, y2, y3) = o := ⟨_, rfl⟩
  rw [E]
  have HE := Lib.hid E
  clear E
  go_enter Tryz.func43, Tryz.ntmps43
  go_wp2_with fail
  cases os with
  | none =>
    refine (TS.out _ (by repeat' (first | (with_reducible first | assumption | exact Acc.refl _ | refine Acc.drew ?_ | refine Acc.drewN ?_ _ | refine Acc.alloc ?_ _ | refine Acc.setCell ?_ ?_ _) | (refine leB ?_; omega)))).mono ?_
    rintro e W1 ⟨-, h, hb⟩
    obtain ⟨u1, u2, u3, u4, u5, u6, s, rfl⟩ := h rfl
    clear h
    obtain ⟨Ba, Bb, Br⟩ : Blk W1 (w.heap.size) [.int .i64 x1, .int .i64 x2, .int .i64 x3] ∧ Blk W1 (w.heap.size + 1) [.int .i64 y1, .int .i64 y2, .int .i64 y3] ∧ Blk W1 (w.heap.size + 1 + 1) [.int .i64 0, .int .i64 0, .int .i64 0] := by
      refine ⟨?_, ?_, ?_⟩ <;> refine Blk.keep hb ?_ <;> (repeat' (first | (with_reducible first | assumption | refine Blk.drew ?_ | refine Blk.drewN ?_ _ | apply Blk.set | (refine Blk.new ?_; focus (first | rfl | (simp; done))) | refine Blk.alloc ?_ _ | refine Blk.other ?_ ?_ _) | exact eqL rfl | (refine neB ?_; omega)))
    have ca := Ba.cell
    have fa := Ba.free
    have la_W1 := Ba.lt
    have cb := Bb.cell
    have fb := Bb.free
    have lb_W1 := Bb.lt
    have cr := Br.cell
    have fr := Br.free
    have lr_W1 := Br.lt
    have kaW1 : Acc w W1 := by
      refine Acc.call ?_ hb
      (repeat' (first | (with_reducible first | assumption | exact Acc.refl _ | refine Acc.drew ?_ | refine Acc.drewN ?_ _ | refine Acc.alloc ?_ _ | refine Acc.setCell ?_ ?_ _) | (refine leB ?_; omega)))
    clear hb
    go_wp2_with fail
    obtain rfl : o = none := HE.out.symm.trans (by unfold pasM; rw [HS.out]; rfl)
    refine bodyPost_ret (v := .tuple #[.agg #[.int .i64 0, .int .i64 0, .int .i64 0], .iface 65 (.agg #[.string s])]) (by simp [results, Tryz.results43, go_sem, *]) rfl ⟨fun _ _ _ h => (by cases h), fun _ => ⟨_, rfl⟩, ?_⟩
    show Acc w _
    (repeat' (first | (with_reducible first | assumption | exact Acc.refl _ | refine Acc.drew ?_ | refine Acc.drewN ?_ _ | refine Acc.alloc ?_ _ | refine Acc.setCell ?_ ?_ _) | (refine leB ?_; omega)))
  | some v =>
    obtain ⟨⟨t1, t2, t3⟩, c1, c2, c3⟩ := v
    obtain ⟨ok1, -, ok2, ok3⟩ := sidM_vals HS.out
    have okx := okF_i64 ok1
    have okt := okF_i64 ok2
    have okc := okF_i64 ok3
    obtain ⟨om, hq⟩ : ∃ o, timesF x1 x2 x3 2 0 1 = o := ⟨_, rfl⟩
    have TM := Lib.hid fun w => mtimes_any x1 x2 x3 2 0 1 w okx.1 okx.2.1 okx.2.2 (by unfold i64B; omega) (by unfold i64B; omega) (by unfold i64B; omega)
    rw [hq] at TM
    have HM := Lib.hid hq
    clear hq
    have HW := Lib.hid (twice_eq (a := (x1, x2, x3)) ok1)
    obtain ⟨on, hq⟩ : ∃ o, sumF 1 t1 t2 t3 c1 c2 c3 = o := ⟨_, rfl⟩
    have TN := Lib.hid fun w => plus_any t1 t2 t3 c1 c2 c3 w okt.1 okt.2.1 okt.2.2 okc.1 okc.2.1 okc.2.2
    rw [hq] at TN
    have HN := Lib.hid hq
    clear hq
    clear ok1 ok2 ok3 okx okt okc
    refine (TS.out _ (by repeat' (first | (with_reducible first | assumption | exact Acc.refl _ | refine Acc.drew ?_ | refine Acc.drewN ?_ _ | refine Acc.alloc ?_ _ | refine Acc.setCell ?_ ?_ _) | (refine leB ?_; omega)))).mono ?_
    rintro e W1 ⟨h, -, hb⟩
    obtain rfl := h _ _ _ _ _ _ rfl
    clear h
    obtain ⟨Ba, Bb, Br⟩ : Blk W1 (w.heap.size) [.int .i64 x1, .int .i64 x2, .int .i64 x3] ∧ Blk W1 (w.heap.size + 1) [.int .i64 y1, .int .i64 y2, .int .i64 y3] ∧ Blk W1 (w.heap.size + 1 + 1) [.int .i64 0, .int .i64 0, .int .i64 0] := by
      refine ⟨?_, ?_, ?_⟩ <;> refine Blk.keep hb ?_ <;> (repeat' (first | (with_reducible first | assumption | refine Blk.drew ?_ | refine Blk.drewN ?_ _ | apply Blk.set | (refine Blk.new ?_; focus (first | rfl | (simp; done))) | refine Blk.alloc ?_ _ | refine Blk.other ?_ ?_ _) | exact eqL rfl | (refine neB ?_; omega)))
    have ca := Ba.cell
    have fa := Ba.free
    have la_W1 := Ba.lt
    have cb := Bb.cell
    have fb := Bb.free
    have lb_W1 := Bb.lt
    have cr := Br.cell
    have fr := Br.free
    have lr_W1 := Br.lt
    have kaW1 : Acc w W1 := by
      refine Acc.call ?_ hb
      (repeat' (first | (with_reducible first | assumption | exact Acc.refl _ | refine Acc.drew ?_ | refine Acc.drewN ?_ _ | refine Acc.alloc ?_ _ | refine Acc.setCell ?_ ?_ _) | (refine leB ?_; omega)))
    clear hb
    go_wp2_with fail
    cases om with
    | none =>
      refine (TM.out _).mono ?_
      rintro e W2 ⟨-, h, hb⟩
      obtain ⟨s, rfl⟩ := h rfl
      clear h
      obtain ⟨Ba, Bb, Br, Bs⟩ : Blk W2 (w.heap.size) [.int .i64 x1, .int .i64 x2, .int .i64 x3] ∧ Blk W2 (w.heap.size + 1) [.int .i64 y1, .int .i64 y2, .int .i64 y3] ∧ Blk W2 (w.heap.size + 1 + 1) [.int .i64 0, .int .i64 0, .int .i64 0] ∧ Blk W2 (W1.heap.size) [.int .i64 t1, .int .i64 t2, .int .i64 t3, .int .i64 c1, .int .i64 c2, .int .i64 c3] := by
        refine ⟨?_, ?_, ?_, ?_⟩ <;> refine Blk.keep hb ?_ <;> (repeat' (first | (with_reducible first | assumption | refine Blk.drew ?_ | refine Blk.drewN ?_ _ | apply Blk.set | (refine Blk.new ?_; focus (first | rfl | (simp; done))) | refine Blk.alloc ?_ _ | refine Blk.other ?_ ?_ _) | exact eqL rfl | (refine neB ?_; omega)))
      have ca := Ba.cell
      have fa := Ba.free
      have la_W2 := Ba.lt
      have cb := Bb.cell
      have fb := Bb.free
      have lb_W2 := Bb.lt
      have cr := Br.cell
      have fr := Br.free
      have lr_W2 := Br.lt
      have cs := Bs.cell
      have fs := Bs.free
      have ls_W2 := Bs.lt
      have kaW2 : Acc w W2 := by
        refine Acc.call ?_ hb
        (repeat' (first | (with_reducible first | assumption | exact Acc.refl _ | refine Acc.drew ?_ | refine Acc.drewN ?_ _ | refine Acc.alloc ?_ _ | refine Acc.setCell ?_ ?_ _) | (refine leB ?_; omega)))
      clear hb
      go_wp2_with fail
      obtain rfl : o = none := HE.out.symm.trans (by unfold pasM; rw [HS.out]; show (sT (x1, x2, x3) (x1, x2, x3)).bind _ = _; rw [show sT (x1, x2, x3) (x1, x2, x3) = none from HW.out.symm.trans HM.out]; rfl)
      refine bodyPost_ret (v := .tuple #[.agg #[.int .i64 0, .int .i64 0, .int .i64 0], .iface 65 (.agg #[.string s])]) (by simp [results, Tryz.results43, go_sem, *]) rfl ⟨fun _ _ _ h => (by cases h), fun _ => ⟨_, rfl⟩, ?_⟩
      show Acc w _
      (repeat' (first | (with_reducible first | assumption | exact Acc.refl _ | refine Acc.drew ?_ | refine Acc.drewN ?_ _ | refine Acc.alloc ?_ _ | refine Acc.setCell ?_ ?_ _) | (refine leB ?_; omega)))
    | some v =>
      obtain ⟨m1, m2, m3⟩ := v
      refine (TM.out _).mono ?_
      rintro e W2 ⟨h, -, hb⟩
      obtain rfl := h _ _ _ rfl
      clear h
      obtain ⟨Ba, Bb, Br, Bs⟩ : Blk W2 (w.heap.size) [.int .i64 x1, .int .i64 x2, .int .i64 x3] ∧ Blk W2 (w.heap.size + 1) [.int .i64 y1, .int .i64 y2, .int .i64 y3] ∧ Blk W2 (w.heap.size + 1 + 1) [.int .i64 0, .int .i64 0, .int .i64 0] ∧ Blk W2 (W1.heap.size) [.int .i64 t1, .int .i64 t2, .int .i64 t3, .int .i64 c1, .int .i64 c2, .int .i64 c3] := by
        refine ⟨?_, ?_, ?_, ?_⟩ <;> refine Blk.keep hb ?_ <;> (repeat' (first | (with_reducible first | assumption | refine Blk.drew ?_ | refine Blk.drewN ?_ _ | apply Blk.set | (refine Blk.new ?_; focus (first | rfl | (simp; done))) | refine Blk.alloc ?_ _ | refine Blk.other ?_ ?_ _) | exact eqL rfl | (refine neB ?_; omega)))
      have ca := Ba.cell
      have fa := Ba.free
      have la_W2 := Ba.lt
      have cb := Bb.cell
      have fb := Bb.free
      have lb_W2 := Bb.lt
      have cr := Br.cell
      have fr := Br.free
      have lr_W2 := Br.lt
      have cs := Bs.cell
      have fs := Bs.free
      have ls_W2 := Bs.lt
      have kaW2 : Acc w W2 := by
        refine Acc.call ?_ hb
        (repeat' (first | (with_reducible first | assumption | exact Acc.refl _ | refine Acc.drew ?_ | refine Acc.drewN ?_ _ | refine Acc.alloc ?_ _ | refine Acc.setCell ?_ ?_ _) | (refine leB ?_; omega)))
      clear hb
      go_wp2_with fail
      cases on with
      | none =>
        refine (TN.out _).mono ?_
        rintro e W3 ⟨-, h, hb⟩
        obtain ⟨s, rfl⟩ := h rfl
        clear h
        obtain ⟨Ba, Bb, Br, Bs, Bm⟩ : Blk W3 (w.heap.size) [.int .i64 x1, .int .i64 x2, .int .i64 x3] ∧ Blk W3 (w.heap.size + 1) [.int .i64 y1, .int .i64 y2, .int .i64 y3] ∧ Blk W3 (w.heap.size + 1 + 1) [.int .i64 0, .int .i64 0, .int .i64 0] ∧ Blk W3 (W1.heap.size) [.int .i64 t1, .int .i64 t2, .int .i64 t3, .int .i64 c1, .int .i64 c2, .int .i64 c3] ∧ Blk W3 (W2.heap.size) [.int .i64 m1, .int .i64 m2, .int .i64 m3] := by
          refine ⟨?_, ?_, ?_, ?_, ?_⟩ <;> refine Blk.keep hb ?_ <;> (repeat' (first | (with_reducible first | assumption | refine Blk.drew ?_ | refine Blk.drewN ?_ _ | apply Blk.set | (refine Blk.new ?_; focus (first | rfl | (simp; done))) | refine Blk.alloc ?_ _ | refine Blk.other ?_ ?_ _) | exact eqL rfl | (refine neB ?_; omega)))
        have ca := Ba.cell
        have fa := Ba.free
        have la_W3 := Ba.lt
        have cb := Bb.cell
        have fb := Bb.free
        have lb_W3 := Bb.lt
        have cr := Br.cell
        have fr := Br.free
        have lr_W3 := Br.lt
        have cs := Bs.cell
        have fs := Bs.free
        have ls_W3 := Bs.lt
        have cm := Bm.cell
        have fm := Bm.free
        have lm_W3 := Bm.lt
        have kaW3 : Acc w W3 := by
          refine Acc.call ?_ hb
          (repeat' (first | (with_reducible first | assumption | exact Acc.refl _ | refine Acc.drew ?_ | refine Acc.drewN ?_ _ | refine Acc.alloc ?_ _ | refine Acc.setCell ?_ ?_ _) | (refine leB ?_; omega)))
        clear hb
        go_wp2_with fail
        obtain rfl : o = none := HE.out.symm.trans (by unfold pasM; rw [HS.out]; show (sT (x1, x2, x3) (x1, x2, x3)).bind _ = _; rw [show sT (x1, x2, x3) (x1, x2, x3) = some (m1, m2, m3) from HW.out.symm.trans HM.out]; show (sT (t1, t2, t3) (c1, c2, c3)).bind _ = _; rw [show sT (t1, t2, t3) (c1, c2, c3) = none from HN.out]; rfl)
        refine bodyPost_ret (v := .tuple #[.agg #[.int .i64 0, .int .i64 0, .int .i64 0], .iface 65 (.agg #[.string s])]) (by simp [results, Tryz.results43, go_sem, *]) rfl ⟨fun _ _ _ h => (by cases h), fun _ => ⟨_, rfl⟩, ?_⟩
        show Acc w _
        (repeat' (first | (with_reducible first | assumption | exact Acc.refl _ | refine Acc.drew ?_ | refine Acc.drewN ?_ _ | refine Acc.alloc ?_ _ | refine Acc.setCell ?_ ?_ _) | (refine leB ?_; omega)))
      | some v =>
        obtain ⟨n1, n2, n3⟩ := v
        have okm := okF_i64 ((sT_val (show sT (x1, x2, x3) (x1, x2, x3) = some (m1, m2, m3) from HW.out.symm.trans HM.out)).2.2.1)
        have okn := okF_i64 (sT_val (show sT (t1, t2, t3) (c1, c2, c3) = some (n1, n2, n3) from HN.out)).2.2.1
        have TO := Lib.hid fun w => mover_any m1 m2 m3 n1 n2 n3 w okm.1 okm.2.1 okm.2.2 okn.1 okn.2.1 okn.2.2
        clear okm okn
        obtain rfl : overF m1 m2 m3 n1 n2 n3 = o := Eq.trans (Eq.symm (by unfold pasM; rw [HS.out]; show (sT (x1, x2, x3) (x1, x2, x3)).bind _ = _; rw [show sT (x1, x2, x3) (x1, x2, x3) = some (m1, m2, m3) from HW.out.symm.trans HM.out]; show (sT (t1, t2, t3) (c1, c2, c3)).bind _ = _; rw [show sT (t1, t2, t3) (c1, c2, c3) = some (n1, n2, n3) from HN.out]; rfl)) HE.out
        clear HE
        refine (TN.out _).mono ?_
        rintro e W3 ⟨h, -, hb⟩
        obtain rfl := h _ _ _ rfl
        clear h
        obtain ⟨Ba, Bb, Br, Bs, Bm⟩ : Blk W3 (w.heap.size) [.int .i64 x1, .int .i64 x2, .int .i64 x3] ∧ Blk W3 (w.heap.size + 1) [.int .i64 y1, .int .i64 y2, .int .i64 y3] ∧ Blk W3 (w.heap.size + 1 + 1) [.int .i64 0, .int .i64 0, .int .i64 0] ∧ Blk W3 (W1.heap.size) [.int .i64 t1, .int .i64 t2, .int .i64 t3, .int .i64 c1, .int .i64 c2, .int .i64 c3] ∧ Blk W3 (W2.heap.size) [.int .i64 m1, .int .i64 m2, .int .i64 m3] := by
          refine ⟨?_, ?_, ?_, ?_, ?_⟩ <;> refine Blk.keep hb ?_ <;> (repeat' (first | (with_reducible first | assumption | refine Blk.drew ?_ | refine Blk.drewN ?_ _ | apply Blk.set | (refine Blk.new ?_; focus (first | rfl | (simp; done))) | refine Blk.alloc ?_ _ | refine Blk.other ?_ ?_ _) | exact eqL rfl | (refine neB ?_; omega)))
        have ca := Ba.cell
        have fa := Ba.free
        have la_W3 := Ba.lt
        have cb := Bb.cell
        have fb := Bb.free
        have lb_W3 := Bb.lt
        have cr := Br.cell
        have fr := Br.free
        have lr_W3 := Br.lt
        have cs := Bs.cell
        have fs := Bs.free
        have ls_W3 := Bs.lt
        have cm := Bm.cell
        have fm := Bm.free
        have lm_W3 := Bm.lt
        have kaW3 : Acc w W3 := by
          refine Acc.call ?_ hb
          (repeat' (first | (with_reducible first | assumption | exact Acc.refl _ | refine Acc.drew ?_ | refine Acc.drewN ?_ _ | refine Acc.alloc ?_ _ | refine Acc.setCell ?_ ?_ _) | (refine leB ?_; omega)))
        clear hb
        go_wp2_with fail
        refine (TO.out _).mono ?_
        rintro e W4 ⟨h1, h2, hb⟩
        obtain ⟨Ba, Bb, Br, Bs, Bm, Bn⟩ : Blk W4 (w.heap.size) [.int .i64 x1, .int .i64 x2, .int .i64 x3] ∧ Blk W4 (w.heap.size + 1) [.int .i64 y1, .int .i64 y2, .int .i64 y3] ∧ Blk W4 (w.heap.size + 1 + 1) [.int .i64 0, .int .i64 0, .int .i64 0] ∧ Blk W4 (W1.heap.size) [.int .i64 t1, .int .i64 t2, .int .i64 t3, .int .i64 c1, .int .i64 c2, .int .i64 c3] ∧ Blk W4 (W2.heap.size) [.int .i64 m1, .int .i64 m2, .int .i64 m3] ∧ Blk W4 (W3.heap.size) [.int .i64 n1, .int .i64 n2, .int .i64 n3] := by
          refine ⟨?_, ?_, ?_, ?_, ?_, ?_⟩ <;> refine Blk.keep hb ?_ <;> (repeat' (first | (with_reducible first | assumption | refine Blk.drew ?_ | refine Blk.drewN ?_ _ | apply Blk.set | (refine Blk.new ?_; focus (first | rfl | (simp; done))) | refine Blk.alloc ?_ _ | refine Blk.other ?_ ?_ _) | exact eqL rfl | (refine neB ?_; omega)))
        have ca := Ba.cell
        have fa := Ba.free
        have la_W4 := Ba.lt
        have cb := Bb.cell
        have fb := Bb.free
        have lb_W4 := Bb.lt
        have cr := Br.cell
        have fr := Br.free
        have lr_W4 := Br.lt
        have cs := Bs.cell
        have fs := Bs.free
        have ls_W4 := Bs.lt
        have cm := Bm.cell
        have fm := Bm.free
        have lm_W4 := Bm.lt
        have cn := Bn.cell
        have fn := Bn.free
        have ln_W4 := Bn.lt
        have kaW4 : Acc w W4 := by
          refine Acc.call ?_ hb
          (repeat' (first | (with_reducible first | assumption | exact Acc.refl _ | refine Acc.drew ?_ | refine Acc.drewN ?_ _ | refine Acc.alloc ?_ _ | refine Acc.setCell ?_ ?_ _) | (refine leB ?_; omega)))
        clear hb
        cases ho : overF m1 m2 m3 n1 n2 n3 with
        | none =>
          obtain ⟨s, rfl⟩ := h2 ho
          clear h1 h2
          have HO := Lib.hid ho
          clear ho
          go_wp2_with fail
          refine bodyPost_ret (v := .tuple #[.agg #[.int .i64 0, .int .i64 0, .int .i64 0], .iface 65 (.agg #[.string s])]) (by simp [results, Tryz.results43, go_sem, *]) rfl ⟨fun _ _ _ h => (by rw [HO.out] at h; cases h), fun _ => ⟨_, rfl⟩, ?_⟩
          show Acc w _
          (repeat' (first | (with_reducible first | assumption | exact Acc.refl _ | refine Acc.drew ?_ | refine Acc.drewN ?_ _ | refine Acc.alloc ?_ _ | refine Acc.setCell ?_ ?_ _) | (refine leB ?_; omega)))
        | some v =>
          obtain ⟨l1, l2, l3⟩ := v
          obtain rfl := h1 _ _ _ ho
          clear h1 h2
          have HO := Lib.hid ho
          clear ho
          go_wp2_with fail
          refine bodyPost_ret (v := .tuple #[.agg #[.int .i64 l1, .int .i64 l2, .int .i64 l3], .nilIface]) (by simp [results, Tryz.results43, go_sem, *]) rfl ⟨fun _ _ _ h => (by rw [HO.out] at h; cases h; rfl), fun h => (by rw [HO.out] at h; cases h), ?_⟩
          show Acc w _
          (repeat' (first | (with_reducible first | assumption | exact Acc.refl _ | refine Acc.drew ?_ | refine Acc.drewN ?_ _ | refine Acc.alloc ?_ _ | refine Acc.setCell ?_ ?_ _) | (refine leB ?_; omega)))
end Go.Proofs.YtpgklllgmfaekaaGreatDoor
