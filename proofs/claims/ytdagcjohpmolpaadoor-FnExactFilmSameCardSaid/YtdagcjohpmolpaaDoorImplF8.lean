/-
  The program's films: films compared.
-/
import Derived.Test.YtdagcjohpmolpaaDoorSpecF6
import Derived.Test.YtdagcjohpmolpaaDoorImplF3
import Derived.Test.YtdagcjohpmolpaaDoorImplM5
import Derived.Test.YtdagcjohpmolpaaDoorBVec
namespace Go.Proofs.YtdagcjohpmolpaaDoor
open Go.ChangeShapes Go.WideShapes Go.ChangeAt Go.RowKit
set_option linter.unusedVariables false

set_option linter.unusedSimpArgs false
theorem mulsM_ok {ls : List L4} : ∀ {A B : F4}, okM A = true → mulsM A ls = some B → okM B = true := by
  induction ls with
  | nil => intro A B h e; rw [mulsM] at e; cases e; exact h
  | cons l r ih =>
    intro A B h e
    rw [mulsM_cons] at e
    cases e1 : (layM l).bind (mulM A) with
    | none => rw [e1] at e; cases e
    | some C => rw [e1] at e; exact ih (mulB_ok e1) e
theorem flmM_ok {ls : List L4} {A : F4} (h : flmM ls = some A) : okM A = true := by
  unfold flmM at h
  split at h
  · exact mulsM_ok (by decide) h
  · cases h
/-- Two films compared: alike or not, or an error. -/
def ErrS (k : Bool) (w : World) (e : Ending) (w' : World) : Prop :=
  (e = .returned (.tuple #[.bool k, .nilIface]) ∨ ∃ s, k = false ∧ e = .returned (.tuple #[.bool false, .iface 75 (.agg #[.string s])]) ) ∧ Below w.heap.size w w'
theorem errS_of {o : Option Bool} {w : World} {e : Ending} {w' : World} (h : ErredB o w e w') : ErrS (o.getD false) w e w' := by
  obtain ⟨h1, h2, h3⟩ := h
  cases o with
  | none => obtain ⟨s, e⟩ := h2 rfl; exact ⟨.inr ⟨s, rfl, e⟩, h3⟩
  | some k => exact ⟨.inl (h1 k rfl), h3⟩
set_option maxRecDepth 100000 in
set_option maxHeartbeats 16000000 in
theorem filmSame_any (a b : Option Addr) (ls ms : List L4) (cap cap' : Nat) (w : World) (h : Lys w a ls) (h' : Lys w b ms) (hn : ls.length ≤ 1048576) (hm : ms.length ≤ 1048576) : Calls Tryd.prog 38 #[.slice a ls.length cap, .slice b ms.length cap'] w (ErrS (samM ls ms) w) := by
  obtain ⟨om, hq⟩ : ∃ o, flmM ls = o := ⟨_, rfl⟩
  have TM := Lib.hid fun (W : World) (ka : Acc w W) => filmMatrix_any a ls cap W (h.keep ka) hn
  rw [hq] at TM
  have HM := Lib.hid hq
  clear hq h
  obtain ⟨on, hq⟩ : ∃ o, flmM ms = o := ⟨_, rfl⟩
  have TN := Lib.hid fun (W : World) (ka : Acc w W) => filmMatrix_any b ms cap' W (h'.keep ka) hm
  rw [hq] at TN
  have HN := Lib.hid hq
  clear hq h'
  obtain ⟨o, E⟩ : ∃ o, samM ls ms = o := ⟨_, rfl⟩
  rw [E]
  have HE := Lib.hid E
  clear E
  go_enter Tryd.func38, Tryd.ntmps38
  go_wp2_with fail
  cases om with
  | none =>
    refine (TM.out _ (by repeat' (first | (with_reducible first | assumption | exact Acc.refl _ | refine Acc.drew ?_ | refine Acc.drewN ?_ _ | refine Acc.alloc ?_ _ | refine Acc.setCell ?_ ?_ _) | (refine leB ?_; omega)))).mono ?_
    rintro e W1 ⟨-, h, hb⟩
    obtain ⟨s, rfl⟩ := h rfl
    clear h
    have kaW1 : Acc w W1 := by
      refine Acc.call ?_ hb
      (repeat' (first | (with_reducible first | assumption | exact Acc.refl _ | refine Acc.drew ?_ | refine Acc.drewN ?_ _ | refine Acc.alloc ?_ _ | refine Acc.setCell ?_ ?_ _) | (refine leB ?_; omega)))
    clear hb
    go_wp2_with fail
    obtain rfl : o = false := HE.out.symm.trans (samM_1 HM.out)
    refine bodyPost_ret (v := .tuple #[.bool false, .iface 75 (.agg #[.string s])]) (by simp [results, Tryd.results38, go_sem, *]) rfl ⟨.inr ⟨_, rfl, rfl⟩, ?_⟩
    show Acc w _
    (repeat' (first | (with_reducible first | assumption | exact Acc.refl _ | refine Acc.drew ?_ | refine Acc.drewN ?_ _ | refine Acc.alloc ?_ _ | refine Acc.setCell ?_ ?_ _) | (refine leB ?_; omega)))
  | some v =>
    obtain ⟨⟨a1, a2, a3⟩, ⟨a4, a5, a6⟩, ⟨a7, a8, a9⟩, a10, a11, a12⟩ := v
    refine (TM.out _ (by repeat' (first | (with_reducible first | assumption | exact Acc.refl _ | refine Acc.drew ?_ | refine Acc.drewN ?_ _ | refine Acc.alloc ?_ _ | refine Acc.setCell ?_ ?_ _) | (refine leB ?_; omega)))).mono ?_
    rintro e W1 ⟨h, -, hb⟩
    obtain rfl := h _ _ _ _ _ _ _ _ _ _ _ _ rfl
    clear h
    have kaW1 : Acc w W1 := by
      refine Acc.call ?_ hb
      (repeat' (first | (with_reducible first | assumption | exact Acc.refl _ | refine Acc.drew ?_ | refine Acc.drewN ?_ _ | refine Acc.alloc ?_ _ | refine Acc.setCell ?_ ?_ _) | (refine leB ?_; omega)))
    clear hb
    go_wp2_with fail
    cases on with
    | none =>
      refine (TN.out _ (by repeat' (first | (with_reducible first | assumption | exact Acc.refl _ | refine Acc.drew ?_ | refine Acc.drewN ?_ _ | refine Acc.alloc ?_ _ | refine Acc.setCell ?_ ?_ _) | (refine leB ?_; omega)))).mono ?_
      rintro e W2 ⟨-, h, hb⟩
      obtain ⟨s, rfl⟩ := h rfl
      clear h
      have Bm : Blk W2 (W1.heap.size) [.int .i64 a1, .int .i64 a2, .int .i64 a3, .int .i64 a4, .int .i64 a5, .int .i64 a6, .int .i64 a7, .int .i64 a8, .int .i64 a9, .int .i64 a10, .int .i64 a11, .int .i64 a12] := Blk.keep hb (by repeat' (first | (with_reducible first | assumption | refine Blk.drew ?_ | refine Blk.drewN ?_ _ | apply Blk.set | (refine Blk.new ?_; focus (first | rfl | (simp; done))) | refine Blk.alloc ?_ _ | refine Blk.other ?_ ?_ _) | exact eqL rfl | (refine neB ?_; omega)))
      have cm := Bm.cell
      have fm := Bm.free
      have lm_W2 := Bm.lt
      have kaW2 : Acc w W2 := by
        refine Acc.call ?_ hb
        (repeat' (first | (with_reducible first | assumption | exact Acc.refl _ | refine Acc.drew ?_ | refine Acc.drewN ?_ _ | refine Acc.alloc ?_ _ | refine Acc.setCell ?_ ?_ _) | (refine leB ?_; omega)))
      clear hb
      go_wp2_with fail
      obtain rfl : o = false := HE.out.symm.trans (samM_2 HN.out)
      refine bodyPost_ret (v := .tuple #[.bool false, .iface 75 (.agg #[.string s])]) (by simp [results, Tryd.results38, go_sem, *]) rfl ⟨.inr ⟨_, rfl, rfl⟩, ?_⟩
      show Acc w _
      (repeat' (first | (with_reducible first | assumption | exact Acc.refl _ | refine Acc.drew ?_ | refine Acc.drewN ?_ _ | refine Acc.alloc ?_ _ | refine Acc.setCell ?_ ?_ _) | (refine leB ?_; omega)))
    | some v =>
      obtain ⟨⟨b1, b2, b3⟩, ⟨b4, b5, b6⟩, ⟨b7, b8, b9⟩, b10, b11, b12⟩ := v
      refine (TN.out _ (by repeat' (first | (with_reducible first | assumption | exact Acc.refl _ | refine Acc.drew ?_ | refine Acc.drewN ?_ _ | refine Acc.alloc ?_ _ | refine Acc.setCell ?_ ?_ _) | (refine leB ?_; omega)))).mono ?_
      rintro e W2 ⟨h, -, hb⟩
      obtain rfl := h _ _ _ _ _ _ _ _ _ _ _ _ rfl
      clear h
      have Bm : Blk W2 (W1.heap.size) [.int .i64 a1, .int .i64 a2, .int .i64 a3, .int .i64 a4, .int .i64 a5, .int .i64 a6, .int .i64 a7, .int .i64 a8, .int .i64 a9, .int .i64 a10, .int .i64 a11, .int .i64 a12] := Blk.keep hb (by repeat' (first | (with_reducible first | assumption | refine Blk.drew ?_ | refine Blk.drewN ?_ _ | apply Blk.set | (refine Blk.new ?_; focus (first | rfl | (simp; done))) | refine Blk.alloc ?_ _ | refine Blk.other ?_ ?_ _) | exact eqL rfl | (refine neB ?_; omega)))
      have cm := Bm.cell
      have fm := Bm.free
      have lm_W2 := Bm.lt
      have kaW2 : Acc w W2 := by
        refine Acc.call ?_ hb
        (repeat' (first | (with_reducible first | assumption | exact Acc.refl _ | refine Acc.drew ?_ | refine Acc.drewN ?_ _ | refine Acc.alloc ?_ _ | refine Acc.setCell ?_ ?_ _) | (refine leB ?_; omega)))
      clear hb
      go_wp2_with fail
      have HA := Lib.hid (i64M_of (flmM_ok HM.out))
      have HB := Lib.hid (i64M_of (flmM_ok HN.out))
      have HK := Lib.hid (samM_3 HM.out HN.out)
      refine (mxalike_any a1 a2 a3 a4 a5 a6 a7 a8 a9 a10 a11 a12 b1 b2 b3 b4 b5 b6 b7 b8 b9 b10 b11 b12 HA.out.1 HA.out.2.1 HA.out.2.2.1 HA.out.2.2.2.1 HA.out.2.2.2.2.1 HA.out.2.2.2.2.2.1 HA.out.2.2.2.2.2.2.1 HA.out.2.2.2.2.2.2.2.1 HA.out.2.2.2.2.2.2.2.2.1 HA.out.2.2.2.2.2.2.2.2.2.1 HA.out.2.2.2.2.2.2.2.2.2.2.1 HA.out.2.2.2.2.2.2.2.2.2.2.2 HB.out.1 HB.out.2.1 HB.out.2.2.1 HB.out.2.2.2.1 HB.out.2.2.2.2.1 HB.out.2.2.2.2.2.1 HB.out.2.2.2.2.2.2.1 HB.out.2.2.2.2.2.2.2.1 HB.out.2.2.2.2.2.2.2.2.1 HB.out.2.2.2.2.2.2.2.2.2.1 HB.out.2.2.2.2.2.2.2.2.2.2.1 HB.out.2.2.2.2.2.2.2.2.2.2.2 _).mono ?_
      rintro e W3 h9
      obtain ⟨h9, hb⟩ := errS_of h9
      rw [← alk_prog, ← HK.out, HE.out] at h9
      obtain ⟨Bm, Bn⟩ : Blk W3 (W1.heap.size) [.int .i64 a1, .int .i64 a2, .int .i64 a3, .int .i64 a4, .int .i64 a5, .int .i64 a6, .int .i64 a7, .int .i64 a8, .int .i64 a9, .int .i64 a10, .int .i64 a11, .int .i64 a12] ∧ Blk W3 (W2.heap.size) [.int .i64 b1, .int .i64 b2, .int .i64 b3, .int .i64 b4, .int .i64 b5, .int .i64 b6, .int .i64 b7, .int .i64 b8, .int .i64 b9, .int .i64 b10, .int .i64 b11, .int .i64 b12] := by
        refine ⟨?_, ?_⟩ <;> refine Blk.keep hb ?_ <;> (repeat' (first | (with_reducible first | assumption | refine Blk.drew ?_ | refine Blk.drewN ?_ _ | apply Blk.set | (refine Blk.new ?_; focus (first | rfl | (simp; done))) | refine Blk.alloc ?_ _ | refine Blk.other ?_ ?_ _) | exact eqL rfl | (refine neB ?_; omega)))
      have cm := Bm.cell
      have fm := Bm.free
      have lm_W3 := Bm.lt
      have cn := Bn.cell
      have fn := Bn.free
      have ln_W3 := Bn.lt
      have kaW3 : Acc w W3 := by
        refine Acc.call ?_ hb
        (repeat' (first | (with_reducible first | assumption | exact Acc.refl _ | refine Acc.drew ?_ | refine Acc.drewN ?_ _ | refine Acc.alloc ?_ _ | refine Acc.setCell ?_ ?_ _) | (refine leB ?_; omega)))
      clear hb
      rcases h9 with rfl | ⟨s, hk, rfl⟩
      ·
        go_wp2_with fail
        refine bodyPost_ret (v := .tuple #[.bool o, .nilIface]) (by simp [results, Tryd.results38, go_sem, *]) rfl ⟨.inl rfl, ?_⟩
        show Acc w _
        (repeat' (first | (with_reducible first | assumption | exact Acc.refl _ | refine Acc.drew ?_ | refine Acc.drewN ?_ _ | refine Acc.alloc ?_ _ | refine Acc.setCell ?_ ?_ _) | (refine leB ?_; omega)))
      ·
        subst hk
        go_wp2_with fail
        refine bodyPost_ret (v := .tuple #[.bool false, .iface 75 (.agg #[.string s])]) (by simp [results, Tryd.results38, go_sem, *]) rfl ⟨.inr ⟨_, rfl, rfl⟩, ?_⟩
        show Acc w _
        (repeat' (first | (with_reducible first | assumption | exact Acc.refl _ | refine Acc.drew ?_ | refine Acc.drewN ?_ _ | refine Acc.alloc ?_ _ | refine Acc.setCell ?_ ?_ _) | (refine leB ?_; omega)))
set_option maxRecDepth 100000 in
set_option maxHeartbeats 4000000 in
theorem implFlSame_any (a b : Option Addr) (ls ms : List L4) (cap cap' : Nat) (w : World) (h : Lys w a ls) (h' : Lys w b ms) (hn : ls.length ≤ 1048576) (hm : ms.length ≤ 1048576) (hl : Laid w) : Calls Tryd.prog 20 #[.slice a ls.length cap, .slice b ms.length cap'] w fun e w' => e = .returned (.bool (samM ls ms)) ∧ Below w.heap.size w w' := by
  have T := Lib.hid fun (W : World) (ka : Acc w W) => filmSame_any a b ls ms cap cap' W (h.keep ka) (h'.keep ka) hn hm
  clear h h'
  generalize samM ls ms = o at T ⊢
  have HL := Lib.hid fun W (k : Acc w W) => hl.acc k
  clear hl
  go_enter Tryd.func20, Tryd.ntmps20
  go_wp2_with fail
  refine (T.out _ (by repeat' (first | (with_reducible first | assumption | exact Acc.refl _ | refine Acc.drew ?_ | refine Acc.drewN ?_ _ | refine Acc.alloc ?_ _ | refine Acc.setCell ?_ ?_ _) | (refine leB ?_; omega)))).mono ?_
  rintro e W1 ⟨h9, hb⟩
  have kaW1 : Acc w W1 := by
    refine Acc.call ?_ hb
    (repeat' (first | (with_reducible first | assumption | exact Acc.refl _ | refine Acc.drew ?_ | refine Acc.drewN ?_ _ | refine Acc.alloc ?_ _ | refine Acc.setCell ?_ ?_ _) | (refine leB ?_; omega)))
  clear hb
  rcases h9 with rfl | ⟨s, hk, rfl⟩
  ·
    go_wp2_with fail
    refine (holds_ok o _).mono ?_
    rintro e W2 ⟨rfl, hb⟩
    have kaW2 : Acc w W2 := by
      refine Acc.call ?_ hb
      (repeat' (first | (with_reducible first | assumption | exact Acc.refl _ | refine Acc.drew ?_ | refine Acc.drewN ?_ _ | refine Acc.alloc ?_ _ | refine Acc.setCell ?_ ?_ _) | (refine leB ?_; omega)))
    clear hb
    go_wp2_with fail
    go_ret
    refine ⟨rfl, ?_⟩
    show Acc w _
    (repeat' (first | (with_reducible first | assumption | exact Acc.refl _ | refine Acc.drew ?_ | refine Acc.drewN ?_ _ | refine Acc.alloc ?_ _ | refine Acc.setCell ?_ ?_ _) | (refine leB ?_; omega)))
  ·
    subst hk
    go_wp2_with fail
    refine (holds_err false s _ (HL.out _ (by repeat' (first | (with_reducible first | assumption | exact Acc.refl _ | refine Acc.drew ?_ | refine Acc.drewN ?_ _ | refine Acc.alloc ?_ _ | refine Acc.setCell ?_ ?_ _) | (refine leB ?_; omega))))).mono ?_
    rintro e W2 ⟨rfl, hb⟩
    have kaW2 : Acc w W2 := by
      refine Acc.call ?_ hb
      (repeat' (first | (with_reducible first | assumption | exact Acc.refl _ | refine Acc.drew ?_ | refine Acc.drewN ?_ _ | refine Acc.alloc ?_ _ | refine Acc.setCell ?_ ?_ _) | (refine leB ?_; omega)))
    clear hb
    go_wp2_with fail
    go_ret
    refine ⟨rfl, ?_⟩
    show Acc w _
    (repeat' (first | (with_reducible first | assumption | exact Acc.refl _ | refine Acc.drew ?_ | refine Acc.drewN ?_ _ | refine Acc.alloc ?_ _ | refine Acc.setCell ?_ ?_ _) | (refine leB ?_; omega)))
end Go.Proofs.YtdagcjohpmolpaaDoor
