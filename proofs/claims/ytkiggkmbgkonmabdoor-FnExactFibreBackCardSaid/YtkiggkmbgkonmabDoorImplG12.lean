/-
  The program: a fibre undone.
-/
import Derived.Test.YtkiggkmbgkonmabDoorImplG3
import Derived.Test.YtkiggkmbgkonmabDoorBFib
namespace Go.Proofs.YtkiggkmbgkonmabDoor
open Go.ChangeShapes Go.WideShapes Go.ChangeAt Go.RowKit
set_option linter.unusedVariables false

set_option linter.unusedSimpArgs false
set_option maxHeartbeats 4000000 in
theorem undoing_any (n1 n2 n3 q : Int) (h0 : 0 ≤ n3) (h3 : n3 ≤ 3) (w : World) : Calls Tryd.prog 50 #[.agg #[.int .i64 n1, .int .i64 n2, .int .i64 n3, .int .i64 q]] w fun e w' => e = .returned (.agg #[.int .i64 n1, .int .i64 n2, .int .i64 (-n3 % 4), .int .i64 q]) ∧ Below w.heap.size w w' := by
  go_enter Tryd.func50, Tryd.ntmps50
  go_wp2_with fail
  refine bodyPost_ret (v := .agg #[.int .i64 n1, .int .i64 n2, .int .i64 (-n3 % 4), .int .i64 q]) (by simp [results, Tryd.results50, go_sem, *]) rfl ⟨rfl, ?_⟩
  show Acc w _
  (repeat' (first | (with_reducible first | assumption | exact Acc.refl _ | refine Acc.drew ?_ | refine Acc.drewN ?_ _ | refine Acc.alloc ?_ _ | refine Acc.setCell ?_ ?_ _) | (refine leB ?_; omega)))
/-- A pointer's measure. -/
def ptrM : Value → Nat
  | .pointer (some a) => a.block + 1
  | _ => 0
theorem undo_ok {l : L4} (h : okS l = true) : okS (undo l) = true := by
  obtain ⟨⟨p, q, k⟩, t⟩ := l
  have hk := pha_in (okS_out h).2.1
  unfold okS undo at *
  simp only [Bool.and_eq_true] at h ⊢
  refine ⟨⟨h.1.1, ?_⟩, h.2⟩
  rcases hk with rfl | rfl | rfl | rfl <;> decide
set_option maxRecDepth 100000 in
set_option maxHeartbeats 8000000 in
theorem fbBack_any (n₀ : Nat) (rs : List L4) (p : Option Addr) (w : World) (hf : Fib n₀ w.heap.size w p rs) (hok : ∀ s ∈ rs, okS s = true) : Calls Tryd.prog 31 #[.pointer p] w fun e w' => ∃ q, e = .returned (.pointer q) ∧ Fib w.heap.size w'.heap.size w' q (rs.map undo).reverse ∧ Below w.heap.size w w' := by
  have HF := Lib.hid hf
  have HK := Lib.hid hok
  clear hf hok
  go_enter Tryd.func31, Tryd.ntmps31
  go_wp2_with fail
  go_loopw [0, 3] (fun u v wr => ∃ (f b : Option Addr) (rem acc : List L4), u = .pointer f ∧ v = .pointer b ∧ Acc w wr ∧ (∃ n₁, n₁ ≤ w.heap.size ∧ Fib n₀ n₁ wr f rem) ∧ Fib w.heap.size wr.heap.size wr b acc ∧ (∀ s ∈ rem, okS s = true) ∧ (rs.map undo).reverse = (rem.map undo).reverse ++ acc) (fun u _ _ => ptrM u)
  case atStart => exact ⟨p, none, rs, [], rfl, rfl, Acc.refl _, ⟨_, Nat.le_refl _, HF.out⟩, rfl, HK.out, (List.append_nil _).symm⟩
  case round =>
    clear HF HK
    obtain ⟨f, b, rem, acc, rfl, rfl, ka, ⟨n₁, hn1, hf⟩, hb, hok, he⟩ := hrel
    have HB := Lib.hid hb
    have HK := Lib.hid hok
    have HE := Lib.hid he
    clear hb hok he
    cases rem with
    | nil =>
      obtain rfl : f = none := hf
      have HR : RowKit.Hid (Fib w.heap.size wr.heap.size wr b (rs.map undo).reverse) := Lib.hid (by rw [HE.out]; exact HB.out)
      clear HE HB HK
      go_wp2_with fail
      go_ret
      exact ⟨b, rfl, HR.out, ka⟩
    | cons s r =>
      obtain ⟨⟨n1, n2, n3⟩, q⟩ := s
      obtain ⟨b1, f1, rfl, hb0, hb1, Bb, hf1⟩ := hf
      have HS := HK.out _ (List.mem_cons_self ..)
      have HI := inB_bd (okS_out HS).2.1
      obtain ⟨h0, h3⟩ := HI
      have HF := Lib.hid hf1
      have Bb : Blk wr b1 [.int .i64 n1, .int .i64 n2, .int .i64 n3, .int .i64 q, .pointer f1] := Bb
      have kas : w.heap.size ≤ wr.heap.size := ka.size
      have hlt : b1 < w.heap.size := by omega
      clear hf1 HS
      have cb := Bb.cell
      have fb := Bb.free
      have lb_wr := Bb.lt
      have K0 := Lib.hid ka
      have kaw : Acc wr wr := Acc.refl _
      clear ka
      go_wp2_with fail
      refine (undoing_any n1 n2 n3 q h0 h3 _).mono ?_
      rintro e W1 ⟨rfl, hb⟩
      have Bb : Blk W1 (b1) [.int .i64 n1, .int .i64 n2, .int .i64 n3, .int .i64 q, .pointer f1] := Blk.keep hb (by repeat' (first | (with_reducible first | assumption | refine Blk.drew ?_ | refine Blk.drewN ?_ _ | apply Blk.set | (refine Blk.new ?_; focus (first | rfl | (simp; done))) | refine Blk.alloc ?_ _ | refine Blk.other ?_ ?_ _) | exact eqL rfl | (refine neB ?_; omega)))
      have cb := Bb.cell
      have fb := Bb.free
      have lb_W1 := Bb.lt
      have kaW1 : Acc wr W1 := by
        refine Acc.call ?_ hb
        (repeat' (first | (with_reducible first | assumption | exact Acc.refl _ | refine Acc.drew ?_ | refine Acc.drewN ?_ _ | refine Acc.alloc ?_ _ | refine Acc.setCell ?_ ?_ _) | (refine leB ?_; omega)))
      clear hb
      go_wp2_with fail
      go_roundw
      case rel =>
        refine ⟨f1, some ⟨W1.heap.size, 0, none⟩, r, undo ((n1, n2, n3), q) :: acc, rfl, rfl, Acc.call K0.out (show Acc wr _ by repeat' (first | (with_reducible first | assumption | exact Acc.refl _ | refine Acc.drew ?_ | refine Acc.drewN ?_ _ | refine Acc.alloc ?_ _ | refine Acc.setCell ?_ ?_ _) | (refine leB ?_; omega))), ⟨b1, Nat.le_of_lt hlt, HF.out.below (Below.mono (show Acc wr _ by repeat' (first | (with_reducible first | assumption | exact Acc.refl _ | refine Acc.drew ?_ | refine Acc.drewN ?_ _ | refine Acc.alloc ?_ _ | refine Acc.setCell ?_ ?_ _) | (refine leB ?_; omega))) (Nat.le_of_lt lb_wr))⟩, ?_, fun s hs => HK.out s (List.mem_cons_of_mem _ hs), ?_⟩
        · exact Fib.cons ((HB.out.below (show Acc wr _ by repeat' (first | (with_reducible first | assumption | exact Acc.refl _ | refine Acc.drew ?_ | refine Acc.drewN ?_ _ | refine Acc.alloc ?_ _ | refine Acc.setCell ?_ ?_ _) | (refine leB ?_; omega)))).mono kaW1.size) (Nat.le_trans kas kaW1.size) (show Blk _ _ [.int .i64 n1, .int .i64 n2, .int .i64 (-n3 % 4), .int .i64 q, .pointer b] by repeat' (first | (with_reducible first | assumption | refine Blk.drew ?_ | refine Blk.drewN ?_ _ | apply Blk.set | (refine Blk.new ?_; focus (first | rfl | (simp; done))) | refine Blk.alloc ?_ _ | refine Blk.other ?_ ?_ _) | exact eqL rfl | (refine neB ?_; omega)))
        · rw [HE.out, List.map_cons, List.reverse_cons, List.append_assoc]
          rfl
      case measure =>
        cases f1 with
        | none => simp [ptrM]
        | some f1 =>
          have : f1.block < b1 := by
            cases r with
            | nil => cases HF.out
            | cons s r =>
              obtain ⟨b2, f2, e, h1, h2, h3, h4⟩ := HF.out
              cases e
              exact h2
          simp only [ptrM]
          omega
end Go.Proofs.YtkiggkmbgkonmabDoor
