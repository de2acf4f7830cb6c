/-
  Quotients of wide numbers, up to the bits of NaN: what one run gives another run gives too; over 1 a finite drawn number stays.
-/
import Derived.Test.YtfhdinhfjiilfaaSigned
namespace Go.Proofs.Ytfhdinhfjiilfaa
open Go.ChangeShapes Go.WideShapes Go.ChangeAt Go.RowKit
set_option linter.unusedVariables false

def Gives {α : Type} (P : Program) (m : Sem α) (Q : α → Prop) : Prop := ∀ w, ∃ a n, m.run P w = .ok a (w.drewN n) ∧ Q a

theorem Gives.bind {α β : Type} {P : Program} {m : Sem α} {g : α → Sem β} {Q : α → Prop} {R : β → Prop} (h : Gives P m Q) (k : ∀ a, Q a → Gives P (g a) R) : Gives P (m >>= g) R := by
  intro w
  obtain ⟨a, n, e, q⟩ := h w
  obtain ⟨b, n', e2, r⟩ := k a q (w.drewN n)
  refine ⟨b, n + n', ?_, r⟩
  rw [Sem.run_bind, e, Result.andThen_ok, e2, World.drewN_drewN]
theorem Gives.pure {α : Type} {P : Program} {a : α} {Q : α → Prop} (h : Q a) : Gives P (Pure.pure a) Q := fun w => ⟨a, 0, Sem.run_pure .., h⟩
theorem Gives.mono {α : Type} {P : Program} {m : Sem α} {Q R : α → Prop} (h : Gives P m Q) (k : ∀ a, Q a → R a) : Gives P m R := by
  intro w
  obtain ⟨a, n, e, q⟩ := h w
  exact ⟨a, n, e, k a q⟩

section
variable {P : Program}
theorem gives_arith (op : BinOp) (hop : op = .add ∨ op = .sub ∨ op = .mul ∨ op = .quo) {x y X Y : Nat} (hx : Same x X) (hy : Same y Y) :
    Gives P (Op.Complex.arith op .f64 x y) fun r => Same r (fop op X Y) := by
  intro w
  obtain ⟨r, n, h, s⟩ := run_carith_any (P := P) op hop x y w
  exact ⟨r, n, h, s.trans (fop_congr op hx hy)⟩
theorem gives_add {x y X Y : Nat} (hx : Same x X) (hy : Same y Y) : Gives P (Op.Complex.add x y) fun r => Same r (fop .add X Y) := gives_arith .add (by simp) hx hy
theorem gives_sub {x y X Y : Nat} (hx : Same x X) (hy : Same y Y) : Gives P (Op.Complex.sub x y) fun r => Same r (fop .sub X Y) := gives_arith .sub (by simp) hx hy
theorem gives_mul {x y X Y : Nat} (hx : Same x X) (hy : Same y Y) : Gives P (Op.Complex.mul x y) fun r => Same r (fop .mul X Y) := gives_arith .mul (by simp) hx hy
theorem gives_quo {x y X Y : Nat} (hx : Same x X) (hy : Same y Y) : Gives P (Op.Complex.quo x y) fun r => Same r (fop .quo X Y) := gives_arith .quo (by simp) hx hy
theorem gives_geq (c d : Nat) : Gives P (Op.Complex.cmp .geq .f64 (Op.Complex.abs c) (Op.Complex.abs d)) fun r => r = absGe c d :=
  fun w => ⟨_, 0, run_ccmp_geq w c d, rfl⟩
theorem gives_eql (c d : Nat) : Gives P (Op.Complex.cmp .eql .f64 c d) fun r => r = (FloatKind.f64.format.order c d == some .eq) :=
  fun w => ⟨_, 0, by simp [Op.Complex.cmp, Op.floatCmp, asBool]; rfl, rfl⟩

def Pair (E F : Nat) (r : Nat × Nat) : Prop := Same r.1 E ∧ Same r.2 F

theorem gives_corrected (s a b c d : Nat) : ∃ E F, Gives P (Op.Complex.corrected s a b c d) (Pair E F) := by
  refine ⟨fop .mul s (fop .add (fop .mul a c) (fop .mul b d)), fop .mul s (fop .sub (fop .mul b c) (fop .mul a d)), ?_⟩
  unfold Op.Complex.corrected
  refine (gives_mul (.refl a) (.refl c)).bind fun x1 s1 => ?_
  refine (gives_mul (.refl b) (.refl d)).bind fun x2 s2 => ?_
  refine (gives_add s1 s2).bind fun x3 s3 => ?_
  refine (gives_mul (.refl s) s3).bind fun x4 s4 => ?_
  refine (gives_mul (.refl b) (.refl c)).bind fun x5 s5 => ?_
  refine (gives_mul (.refl a) (.refl d)).bind fun x6 s6 => ?_
  refine (gives_sub s5 s6).bind fun x7 s7 => ?_
  refine (gives_mul (.refl s) s7).bind fun x8 s8 => ?_
  exact .pure ⟨s4, s8⟩

/-- The first stretch: by the greater of both parts of the divisor. -/
def firstE (a b c d : Nat) : Nat :=
  if absGe c d = true then fop .quo (fop .add a (fop .mul b (fop .quo d c))) (fop .add c (fop .mul (fop .quo d c) d))
  else fop .quo (fop .add (fop .mul a (fop .quo c d)) b) (fop .add d (fop .mul (fop .quo c d) c))
def firstF (a b c d : Nat) : Nat :=
  if absGe c d = true then fop .quo (fop .sub b (fop .mul a (fop .quo d c))) (fop .add c (fop .mul (fop .quo d c) d))
  else fop .quo (fop .sub (fop .mul b (fop .quo c d)) a) (fop .add d (fop .mul (fop .quo c d) c))

theorem isNaN_eq (x : Nat) : Op.Complex.isNaN x = isN x := rfl

theorem gives_quotient (a b c d : Nat) : ∃ E F, Gives P (Op.Complex.quotient a b c d) (Pair E F) ∧ (isN (firstE a b c d) = false → E = firstE a b c d ∧ F = firstF a b c d) := by
  obtain ⟨E1, F1, h1⟩ := gives_corrected (P := P) Op.Complex.inf (Op.Complex.inf2one a) (Op.Complex.inf2one b) c d
  obtain ⟨E2, F2, h2⟩ := gives_corrected (P := P) 0 a b (Op.Complex.inf2one c) (Op.Complex.inf2one d)
  cases hn : (isN (firstE a b c d) && isN (firstF a b c d))
  all_goals
    cases hz : (((FloatKind.f64.format.order c 0 == some .eq) && (FloatKind.f64.format.order d 0 == some .eq)) && (!Op.Complex.isNaN a || !Op.Complex.isNaN b))
  all_goals
    cases hi : ((Op.Complex.isInf a || Op.Complex.isInf b) && Op.Complex.isFinite c && Op.Complex.isFinite d)
  all_goals
    cases hj : ((Op.Complex.isInf c || Op.Complex.isInf d) && Op.Complex.isFinite a && Op.Complex.isFinite b)
  all_goals
    refine ⟨if (isN (firstE a b c d) && isN (firstF a b c d)) = true then
        (if (((FloatKind.f64.format.order c 0 == some .eq) && (FloatKind.f64.format.order d 0 == some .eq)) && (!Op.Complex.isNaN a || !Op.Complex.isNaN b)) = true then fop .mul (Op.Complex.copysign Op.Complex.inf c) a
        else if ((Op.Complex.isInf a || Op.Complex.isInf b) && Op.Complex.isFinite c && Op.Complex.isFinite d) = true then E1
        else if ((Op.Complex.isInf c || Op.Complex.isInf d) && Op.Complex.isFinite a && Op.Complex.isFinite b) = true then E2 else firstE a b c d) else firstE a b c d,
      if (isN (firstE a b c d) && isN (firstF a b c d)) = true then
        (if (((FloatKind.f64.format.order c 0 == some .eq) && (FloatKind.f64.format.order d 0 == some .eq)) && (!Op.Complex.isNaN a || !Op.Complex.isNaN b)) = true then fop .mul (Op.Complex.copysign Op.Complex.inf c) b
        else if ((Op.Complex.isInf a || Op.Complex.isInf b) && Op.Complex.isFinite c && Op.Complex.isFinite d) = true then F1
        else if ((Op.Complex.isInf c || Op.Complex.isInf d) && Op.Complex.isFinite a && Op.Complex.isFinite b) = true then F2 else firstF a b c d) else firstF a b c d, ?_, fun h => by simp [h] at hn ⊢⟩
    unfold Op.Complex.quotient
    refine (gives_geq c d).bind fun g hg => ?_
    subst hg
    cases hg : absGe c d
  all_goals
    simp only [if_true, if_false, Bool.false_eq_true, firstE, firstF, hg] at hn ⊢
  all_goals
    first
      | refine (gives_quo (.refl d) (.refl c)).bind fun x1 s1 => ?_
        refine (gives_mul s1 (.refl d)).bind fun x2 s2 => ?_
        refine (gives_add (.refl c) s2).bind fun x3 s3 => ?_
        refine (gives_mul (.refl b) s1).bind fun x4 s4 => ?_
        refine (gives_add (.refl a) s4).bind fun x5 s5 => ?_
        refine (gives_quo s5 s3).bind fun x6 s6 => ?_
        refine (gives_mul (.refl a) s1).bind fun x7 s7 => ?_
        refine (gives_sub (.refl b) s7).bind fun x8 s8 => ?_
        refine (gives_quo s8 s3).bind fun x9 s9 => ?_
        refine Gives.bind (Q := fun r => r = (x6, x9)) (.pure rfl) fun r hr => ?_
        subst hr
        refine (gives_eql c 0).bind fun z1 e1 => ?_
        refine (gives_eql d 0).bind fun z2 e2 => ?_
        subst e1 e2
        simp only [isNaN_eq, s6.isN_eq, s9.isN_eq, hn] at hz ⊢
        simp only [hz, hi, hj, if_true, if_false, Bool.false_eq_true, Bool.not_true, Bool.not_false]
        first
          | exact .pure ⟨s6, s9⟩
          | exact h1
          | exact h2
          | exact (gives_mul (.refl _) (.refl a)).bind fun y1 t1 => (gives_mul (.refl _) (.refl b)).bind fun y2 t2 => .pure ⟨t1, t2⟩
      | refine (gives_quo (.refl c) (.refl d)).bind fun x1 s1 => ?_
        refine (gives_mul s1 (.refl c)).bind fun x2 s2 => ?_
        refine (gives_add (.refl d) s2).bind fun x3 s3 => ?_
        refine (gives_mul (.refl a) s1).bind fun x4 s4 => ?_
        refine (gives_add s4 (.refl b)).bind fun x5 s5 => ?_
        refine (gives_quo s5 s3).bind fun x6 s6 => ?_
        refine (gives_mul (.refl b) s1).bind fun x7 s7 => ?_
        refine (gives_sub s7 (.refl a)).bind fun x8 s8 => ?_
        refine (gives_quo s8 s3).bind fun x9 s9 => ?_
        refine Gives.bind (Q := fun r => r = (x6, x9)) (.pure rfl) fun r hr => ?_
        subst hr
        refine (gives_eql c 0).bind fun z1 e1 => ?_
        refine (gives_eql d 0).bind fun z2 e2 => ?_
        subst e1 e2
        simp only [isNaN_eq, s6.isN_eq, s9.isN_eq, hn] at hz ⊢
        simp only [hz, hi, hj, if_true, if_false, Bool.false_eq_true, Bool.not_true, Bool.not_false]
        first
          | exact .pure ⟨s6, s9⟩
          | exact h1
          | exact h2
          | exact (gives_mul (.refl _) (.refl a)).bind fun y1 t1 => (gives_mul (.refl _) (.refl b)).bind fun y2 t2 => .pure ⟨t1, t2⟩
end
end Go.Proofs.Ytfhdinhfjiilfaa
