/-
  Films: half a wave more is not seen in the reflected part.
-/
import Derived.Test.YtkdkeacfifjjoabDoorBFib
namespace Go.Proofs.YtkdkeacfifjjoabDoor
set_option linter.unusedVariables false

theorem negF_negF (u : F3) : negF (negF u) = u := by
  obtain ⟨a, b, c⟩ := u
  simp [negF]
theorem tT_neg1 {u v w : F3} (h : tT u v = some w) : tT (negF u) v = some (negF w) := by
  obtain ⟨h1, h2, h3, h4, h5⟩ := tT_val h
  exact tT_of (by rw [okT_negF]; exact h1) h2 (by rw [okT_negF]; exact h3) (by rw [reT_negF, reT_negF, imT_negF, h4]; grind) (by rw [imT_negF, reT_negF, imT_negF, h5]; grind)
theorem tT_neg2 {u v w : F3} (h : tT u v = some w) : tT u (negF v) = some (negF w) := by
  obtain ⟨h1, h2, h3, h4, h5⟩ := tT_val h
  exact tT_of h1 (by rw [okT_negF]; exact h2) (by rw [okT_negF]; exact h3) (by rw [reT_negF, reT_negF, imT_negF, h4]; grind) (by rw [imT_negF, reT_negF, imT_negF, h5]; grind)
theorem sT_neg {u v w : F3} (h : sT u v = some w) : sT (negF u) (negF v) = some (negF w) := by
  obtain ⟨h1, h2, h3, h4, h5⟩ := sT_val h
  exact sT_of (by rw [okT_negF]; exact h1) (by rw [okT_negF]; exact h2) (by rw [okT_negF]; exact h3) (by rw [reT_negF, reT_negF, reT_negF, h4]; grind) (by rw [imT_negF, imT_negF, imT_negF, h5]; grind)
theorem lT_neg {u v w : F3} (h : lT u v = some w) : lT (negF u) (negF v) = some (negF w) := by
  obtain ⟨h1, h2, h3, h4, h5⟩ := lT_val h
  exact lT_of (by rw [okT_negF]; exact h1) (by rw [okT_negF]; exact h2) (by rw [okT_negF]; exact h3) (by rw [reT_negF, reT_negF, reT_negF, h4]; grind) (by rw [imT_negF, imT_negF, imT_negF, h5]; grind)
theorem inT_neg {u v x y w : F3} (h : inT u v x y = some w) : inT (negF u) v (negF x) y = some (negF w) := by
  obtain ⟨m, n, h1, h2, h3⟩ := inT_some h
  exact inT_of (tT_neg1 h1) (tT_neg1 h2) (sT_neg h3)
theorem low_neg {a b d p q r : Int} (h : lowE a b d = some (p, q, r)) : lowE (-a) (-b) d = some (-p, -q, r) := by
  unfold lowE at h ⊢
  split at h
  · cases h
  · rename_i hd
    rw [if_neg hd]
    have hd' : 0 < d := by omega
    obtain ⟨h1, h2, h3⟩ := (low_iff hd').1 h
    exact (low_iff hd').2 ⟨by rw [okF_neg2]; exact h1, by grind, by grind⟩
theorem invT_neg {v c : F3} (h : invT v = some c) : invT (negF v) = some (negF c) := by
  obtain ⟨x, y, z⟩ := v
  obtain ⟨p, q, r⟩ := c
  have h' : lowE (x * z) (-y * z) (x * x + y * y) = some (p, q, r) := h
  have k := low_neg h'
  show lowE (-x * z) (- -y * z) (-x * -x + -y * -y) = some (-p, -q, r)
  rw [show -x * z = -(x * z) by grind, show - -y * z = -(-y * z) by grind, show -x * -x + -y * -y = x * x + y * y by grind]
  exact k
theorem oT_neg {u v w : F3} (h : oT u v = some w) : oT (negF u) (negF v) = some w := by
  rw [oT_eq] at h ⊢
  split at h
  · rename_i hk
    rw [if_pos (by rw [okT_negF]; exact hk)]
    obtain ⟨c, h1, h2⟩ := Option.bind_eq_some_iff.1 h
    rw [invT_neg h1, Option.bind_some]
    have := tT_neg2 (tT_neg1 h2)
    rwa [negF_negF] at this
  · cases h
def neg4 (A : F4) : F4 := (negF A.1, negF A.2.1, negF A.2.2.1, negF A.2.2.2)
theorem sT_0r {u : F3} (h : okT u = true) : sT u (0, 0, 1) = some u := sT_zero h
theorem mulM_m {A : F4} (h : okM A = true) : mulM A mOneM = some (neg4 A) := by
  obtain ⟨a, b, c, d⟩ := A
  obtain ⟨h1, h2, h3, h4⟩ := okM_of h
  refine quad_of ?_ ?_ ?_ ?_
  · exact inT_of (tT_m h1) (tT_zero h2) (sT_zero (by rw [okT_negF]; exact h1))
  · exact inT_of (tT_zero h1) (tT_m h2) (sT_zero' (by rw [okT_negF]; exact h2))
  · exact inT_of (tT_m h3) (tT_zero h4) (sT_zero (by rw [okT_negF]; exact h3))
  · exact inT_of (tT_zero h3) (tT_m h4) (sT_zero' (by rw [okT_negF]; exact h4))
theorem appM_neg {A : F4} {V : F3 × F3} {p q : F3} (h : appM A V = some (p, q)) : appM (neg4 A) V = some (negF p, negF q) := by
  obtain ⟨a, b, c, d⟩ := A
  obtain ⟨x, y⟩ := V
  obtain ⟨h1, h2⟩ := appM_some h
  exact pair_of (inT_neg h1) (inT_neg h2)
theorem mulsM_append (ls ms : List L4) : ∀ A : F4, mulsM A (ls ++ ms) = (mulsM A ls).bind fun B => mulsM B ms := by
  induction ls with
  | nil => intro A; rfl
  | cons l r ih =>
    intro A
    show mulsM A (l :: (r ++ ms)) = (mulsM A (l :: r)).bind _
    rw [mulsM, mulsM]
    cases layM l with
    | none => rfl
    | some m =>
      simp only [Option.bind_some]
      cases mulM A m with
      | none => rfl
      | some B => simp only [Option.bind_some]; exact ih B
theorem mulsM_okr {ls : List L4} : ∀ {A B : F4}, okM A = true → mulsM A ls = some B → okM B = true := by
  induction ls with
  | nil => intro A B h e; rw [mulsM] at e; cases e; exact h
  | cons l r ih =>
    intro A B h e
    rw [mulsM] at e
    obtain ⟨m, h1, e⟩ := Option.bind_eq_some_iff.1 e
    obtain ⟨C, h2, e⟩ := Option.bind_eq_some_iff.1 e
    exact ih (mulM_ok h2).2.2 e
/-- A layer of half a wave. -/
def halfL : L4 := ((5, 0, 2), 2)
theorem okFl_half {ls : List L4} (h : okFl ls = true) (hn : ls.length < 8) : okFl (ls ++ [halfL]) = true := by
  unfold okFl at h ⊢
  simp only [Bool.and_eq_true, decide_eq_true_eq] at h
  rw [List.all_append, h.1, decide_eq_true (by rw [List.length_append]; simp; omega)]
  decide
theorem flmM_half {ls : List L4} {A : F4} (h : flmM ls = some A) (hn : ls.length < 8) : flmM (ls ++ [halfL]) = some (neg4 A) := by
  unfold flmM at h ⊢
  split at h
  · rename_i hk
    rw [if_pos (okFl_half hk hn), mulsM_append, h, Option.bind_some]
    show ((some mOneM).bind fun m => (mulM A m).bind fun B => mulsM B []) = _
    rw [Option.bind_some, mulM_m (mulsM_okr (by decide) h), Option.bind_some]
    rfl
  · cases h
theorem sidM_half {ls : List L4} {a b x c : F3} (h : sidM ls a b = some (x, c)) (hn : ls.length < 8) : sidM (ls ++ [halfL]) a b = some (negF x, negF c) := by
  unfold sidM at h ⊢
  split at h
  · rename_i hk
    rw [if_pos hk]
    obtain ⟨m, hm, h⟩ := Option.bind_eq_some_iff.1 h
    obtain ⟨⟨p, q⟩, hv, h⟩ := Option.bind_eq_some_iff.1 h
    obtain ⟨y, hy, h⟩ := Option.bind_eq_some_iff.1 h
    cases h
    rw [flmM_half hm hn, Option.bind_some, appM_neg hv, Option.bind_some, tT_neg2 hy]
    rfl
  · cases h
theorem refM_half {ls : List L4} {a b r : F3} (h : refM ls a b = some r) (hn : ls.length < 8) : refM (ls ++ [halfL]) a b = some r := by
  unfold refM at h ⊢
  obtain ⟨⟨x, c⟩, hs, h⟩ := Option.bind_eq_some_iff.1 h
  obtain ⟨t, ht, h⟩ := Option.bind_eq_some_iff.1 h
  obtain ⟨u, hu, h⟩ := Option.bind_eq_some_iff.1 h
  rw [sidM_half hs hn, Option.bind_some]
  show (lT (negF x) (negF c)).bind _ = _
  rw [lT_neg ht, Option.bind_some]
  show (sT (negF x) (negF c)).bind _ = _
  rw [sT_neg hu, Option.bind_some]
  exact oT_neg h
end Go.Proofs.YtkdkeacfifjjoabDoor
