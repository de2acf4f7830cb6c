/-
  The program: FibreShort.
-/
import Derived.Test.YtkiggkmbgkonmabDoorImplG13
import Derived.Test.YtkiggkmbgkonmabDoorImplG8
import Derived.Test.YtkiggkmbgkonmabDoorImplG17
namespace Go.Proofs.YtkiggkmbgkonmabDoor
open Go.ChangeShapes Go.WideShapes Go.ChangeAt Go.RowKit
set_option linter.unusedVariables false

set_option linter.unusedSimpArgs false
set_option maxRecDepth 100000 in
set_option maxHeartbeats 8000000 in
theorem toldSec_short (a : Option Addr) (ls : List L4) (cap : Nat) (w : World) (h : Lys w a ls) (hn : ls.length ≤ 1048576) (hl : Laid w)
    (K : okFb ls = true → ∀ n₀ p W, w.heap.size ≤ n₀ → n₀ ≤ W.heap.size → Acc w W → Fib n₀ W.heap.size W p ls.reverse → Calls Tryd.prog 33 #[.pointer p] W fun e w' => ∃ q, e = .returned (.pointer q) ∧ (∃ n', Fib n' w'.heap.size w' q (shoE ls)) ∧ Below n₀ W w') (h8 : okFb ls = true → (shoE ls).length ≤ 8) (hi : okFb ls = true → ∀ l ∈ (shoE ls).reverse, i64L l) :
    Calls Tryd.prog 30 #[.slice a ls.length cap, .func (.func 33) #[] #[]] w (GaveP (if okFb ls = true then (shoE ls).reverse else []) (okFb ls) w) := by
  have T := Lib.hid fun (W : World) (k : Acc w W) => fibreOf_any a ls cap W (h.keep k) hn
  clear h
  have HL := Lib.hid fun W (k : Acc w W) => hl.acc k
  clear hl
  obtain ⟨v, hv⟩ : ∃ v, okFb ls = v := ⟨_, rfl⟩
  rw [hv] at K h8 hi ⊢
  have HV := Lib.hid hv
  clear hv
  cases v with
  | false =>
    clear K h8 hi
    show Calls _ _ _ _ (GaveP [] false w)
    go_enter Tryd.func30, Tryd.ntmps30
    go_wp2_with fail
    refine (T.out _ (by repeat' (first | (with_reducible first | assumption | exact Acc.refl _ | refine Acc.drew ?_ | refine Acc.drewN ?_ _ | refine Acc.alloc ?_ _ | refine Acc.setCell ?_ ?_ _) | (refine leB ?_; omega)))).mono ?_
    rintro e W1 ⟨-, h, hb⟩
    obtain ⟨s, rfl⟩ := h HV.out
    clear h
    have kaW1 : Acc w W1 := by
      refine Acc.call ?_ hb
      (repeat' (first | (with_reducible first | assumption | exact Acc.refl _ | refine Acc.drew ?_ | refine Acc.drewN ?_ _ | refine Acc.alloc ?_ _ | refine Acc.setCell ?_ ?_ _) | (refine leB ?_; omega)))
    clear hb
    go_wp2_with fail
    refine (toldFb_err _ s _ (HL.out _ (by repeat' (first | (with_reducible first | assumption | exact Acc.refl _ | refine Acc.drew ?_ | refine Acc.drewN ?_ _ | refine Acc.alloc ?_ _ | refine Acc.setCell ?_ ?_ _) | (refine leB ?_; omega))))).mono ?_
    rintro e W2 ⟨rfl, hb⟩
    have kaW2 : Acc w W2 := by
      refine Acc.call ?_ hb
      (repeat' (first | (with_reducible first | assumption | exact Acc.refl _ | refine Acc.drew ?_ | refine Acc.drewN ?_ _ | refine Acc.alloc ?_ _ | refine Acc.setCell ?_ ?_ _) | (refine leB ?_; omega)))
    clear hb
    go_wp2_with fail
    refine bodyPost_ret (by conv => lhs; simp [results, Tryd.results30, go_sem, *]) rfl ?_
    exact ⟨_, _, rfl, Nat.le_refl _, ⟨none, 0, rfl, (fun l h => by cases h), .inl rfl⟩, (show Acc w _ by repeat' (first | (with_reducible first | assumption | exact Acc.refl _ | refine Acc.drew ?_ | refine Acc.drewN ?_ _ | refine Acc.alloc ?_ _ | refine Acc.setCell ?_ ?_ _) | (refine leB ?_; omega)))⟩
  | true =>
    have HK := Lib.hid (K rfl)
    have H8 := Lib.hid (h8 rfl)
    have HI := Lib.hid (hi rfl)
    clear K h8 hi
    obtain ⟨RS, hRS⟩ : ∃ RS, shoE ls = RS := ⟨_, rfl⟩
    rw [hRS] at HK H8 HI
    show Calls _ _ _ _ (GaveP (shoE ls).reverse true w)
    rw [hRS]
    clear hRS
    go_enter Tryd.func30, Tryd.ntmps30
    go_wp2_with fail
    refine (T.out _ (by repeat' (first | (with_reducible first | assumption | exact Acc.refl _ | refine Acc.drew ?_ | refine Acc.drewN ?_ _ | refine Acc.alloc ?_ _ | refine Acc.setCell ?_ ?_ _) | (refine leB ?_; omega)))).mono ?_
    rintro e W1 ⟨h, -, hb⟩
    obtain ⟨p, rfl, hf⟩ := h HV.out
    clear h
    have hn₀ : w.heap.size ≤ w.heap.size := Nat.le_refl _
    have ls1 := hb.size
    have kaW1 : Acc w W1 := by
      refine Acc.call ?_ hb
      (repeat' (first | (with_reducible first | assumption | exact Acc.refl _ | refine Acc.drew ?_ | refine Acc.drewN ?_ _ | refine Acc.alloc ?_ _ | refine Acc.setCell ?_ ?_ _) | (refine leB ?_; omega)))
    clear hb
    have HF := Lib.hid hf
    clear hf
    go_wp2_with fail
    refine (toldFb_ok _ _).mono ?_
    rintro e W2 ⟨rfl, hb⟩
    have hbb := Lib.hid hb
    have kaW2 : Acc w W2 := by
      refine Acc.call ?_ hb
      (repeat' (first | (with_reducible first | assumption | exact Acc.refl _ | refine Acc.drew ?_ | refine Acc.drewN ?_ _ | refine Acc.alloc ?_ _ | refine Acc.setCell ?_ ?_ _) | (refine leB ?_; omega)))
    clear hb
    go_wp2_with fail
    refine (HK.out w.heap.size _ _ (Nat.le_refl _) (accSize (by repeat' (first | (with_reducible first | assumption | exact Acc.refl _ | refine Acc.drew ?_ | refine Acc.drewN ?_ _ | refine Acc.alloc ?_ _ | refine Acc.setCell ?_ ?_ _) | (refine leB ?_; omega)))) (show Acc w _ by repeat' (first | (with_reducible first | assumption | exact Acc.refl _ | refine Acc.drew ?_ | refine Acc.drewN ?_ _ | refine Acc.alloc ?_ _ | refine Acc.setCell ?_ ?_ _) | (refine leB ?_; omega))) (HF.out.keep hbb.out)).mono ?_
    rintro e W3 ⟨q, rfl, ⟨n', hq⟩, hb⟩
    have hb' := hb
    have kaW3 : Acc w W3 := Below.trans (show Acc w _ by repeat' (first | (with_reducible first | assumption | exact Acc.refl _ | refine Acc.drew ?_ | refine Acc.drewN ?_ _ | refine Acc.alloc ?_ _ | refine Acc.setCell ?_ ?_ _) | (refine leB ?_; omega))) hb
    have HQ := Lib.hid hq
    clear hb hb' hq
    go_wp2_with fail
    refine (fbSections_any n' _ _ _ HQ.out H8.out).mono ?_
    rintro e W4 ⟨v, rfl, ho, hb⟩
    have kaW4 : Acc w W4 := Acc.call kaW3 hb
    have HO : RowKit.Hid (W4.ownsRow w.heap.size 26 4 v RS.reverse.length (layC RS.reverse)) := Lib.hid (by rw [List.length_reverse]; exact own_low ho kaW3.size)
    clear ho hb
    go_wp2_with fail
    refine bodyPost_ret (by conv => lhs; simp [results, Tryd.results30, go_sem, *]) rfl ?_
    obtain ⟨g, hg1, hg2⟩ := Wr.of_own HI.out HO.out
    exact ⟨_, g, rfl, hg1, hg2, kaW4⟩
set_option maxHeartbeats 4000000 in
theorem implFbShort_any (a : Option Addr) (ls : List L4) (cap : Nat) (w : World) (h : Lys w a ls) (hn : ls.length ≤ 1048576) (hl : Laid w) : Calls Tryd.prog 19 #[.slice a ls.length cap] w (GaveP (if okFb ls = true then (shoE ls).reverse else []) (okFb ls) w) := by
  have HI := h.1
  have T := toldSec_short a ls cap w h hn hl (fun ok n₀ p W h0 h1 ka hf => (fbShort_any n₀ ls.reverse W.heap.size p W hf (Nat.le_refl _) (fun s hs => okFb_mem ok (List.mem_reverse.1 hs))).mono fun e w' h => by obtain ⟨q, he, hq, hc⟩ := h; rw [List.reverse_reverse] at hq; exact ⟨q, he, ⟨_, hq.top⟩, hc.below h1⟩) (fun ok => Nat.le_trans (shoE_ok (fun s hs => okFb_mem ok hs)).2 (okFb_all ok).2) (fun ok l hl => okS_i64 ((shoE_ok (fun s hs => okFb_mem ok hs)).1 l (List.mem_reverse.1 hl)))
  have HT := Lib.hid T
  clear T HI
  obtain ⟨RS, hRS⟩ : ∃ RS, (if okFb ls = true then (shoE ls).reverse else []) = RS := ⟨_, rfl⟩
  obtain ⟨vv, hvv⟩ : ∃ v, okFb ls = v := ⟨_, rfl⟩
  rw [hRS, hvv] at HT
  rw [hRS, hvv]
  clear hvv hRS
  go_enter Tryd.func19, Tryd.ntmps19
  go_wp2_with fail
  refine HT.out.mono ?_
  rintro e W1 ⟨v, g, rfl, hg, hw, hb⟩
  have HW := Lib.hid hw
  clear hw
  go_wp2_with fail
  refine bodyPost_ret (by conv => lhs; simp [results, Tryd.results19, go_sem, *]) rfl ?_
  exact ⟨_, g, rfl, hg, HW.out, hb⟩
end Go.Proofs.YtkiggkmbgkonmabDoor
