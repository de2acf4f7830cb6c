/-
  Floats up to the bits of their NaN: plain facts of the model's floats, over no program.
-/
import Derived.WalkLawsBesides
import Derived.KernelRfl
namespace Go.Proofs.YtbihlkienhbapabDoor

/-- A word that is a NaN. -/
def isN (x : Nat) : Bool := (Ieee.double.read x).isNaN

/-- The same word, or both NaN. -/
def Same (x y : Nat) : Prop := x = y ∨ (isN x = true ∧ isN y = true)

theorem Same.refl (x : Nat) : Same x x := .inl rfl
theorem Same.symm {x y : Nat} (h : Same x y) : Same y x := h.elim (fun e => .inl e.symm) fun ⟨a, b⟩ => .inr ⟨b, a⟩
theorem Same.trans {x y z : Nat} (h : Same x y) (k : Same y z) : Same x z := by
  rcases h with rfl | ⟨a, b⟩
  · exact k
  · rcases k with rfl | ⟨c, d⟩
    · exact .inr ⟨a, b⟩
    · exact .inr ⟨a, d⟩
theorem Same.isN_eq {x y : Nat} (h : Same x y) : isN x = isN y := by
  rcases h with rfl | ⟨a, b⟩
  · rfl
  · rw [a, b]

theorem isN_iff {x : Nat} : isN x = true ↔ ∃ s t, Ieee.double.read x = .nan s t := by
  unfold isN Ieee.Datum.isNaN
  cases h : Ieee.double.read x <;> simp

theorem order_nan_left {x : Nat} (h : isN x = true) (y : Nat) : FloatKind.f64.format.order x y = none := by
  obtain ⟨s, t, e⟩ := isN_iff.1 h
  show (Ieee.double.read x).order (Ieee.double.read y) = none
  rw [e]; rfl
theorem order_nan_right {x : Nat} (h : isN x = true) (y : Nat) : FloatKind.f64.format.order y x = none := by
  obtain ⟨s, t, e⟩ := isN_iff.1 h
  show (Ieee.double.read y).order (Ieee.double.read x) = none
  rw [e]; cases Ieee.double.read y <;> rfl

theorem order_refl {x : Nat} (h : isN x = false) : FloatKind.f64.format.order x x = some .eq := by
  show (Ieee.double.read x).order (Ieee.double.read x) = some .eq
  unfold isN Ieee.Datum.isNaN at h
  cases e : Ieee.double.read x with
  | number s m p => simp [Ieee.Datum.order]
  | infinity s => simp [Ieee.Datum.order]
  | nan s t => rw [e] at h; cases h

/-- What is written of no NaN is none. -/
theorem isN_word {neg : Bool} {rung : Nat} (h : rung ≤ Ieee.double.infRung) : isN (Ieee.double.word neg rung) = false := by
  have hs : Ieee.double.infRung < Ieee.double.signWeight := by decide +kernel
  have h0 : 0 < Ieee.double.signWeight := by omega
  have hr : Ieee.double.word neg rung % Ieee.double.signWeight = rung := by
    unfold Ieee.Format.word
    cases neg
    · simp only [Bool.false_eq_true, if_false]; exact Nat.mod_eq_of_lt (by omega)
    · simp only [if_true]
      rw [Nat.add_mod_left]; exact Nat.mod_eq_of_lt (by omega)
  unfold isN Ieee.Format.read
  simp only [hr]
  split
  · rfl
  · split
    · rfl
    · rw [if_pos (by omega)]; rfl

theorem isN_write {d : Ieee.Datum} (h : d.isNaN = false) : isN (Ieee.double.write d) = false := by
  cases d with
  | number neg mag place =>
    show isN (Ieee.double.nearest neg mag place) = false
    unfold Ieee.Format.nearest
    split
    · exact isN_word (Nat.zero_le _)
    · exact isN_word (Nat.min_le_right _ _)
  | infinity neg => exact isN_word (Nat.le_refl _)
  | nan s t => cases h

/-- The operation, one NaN for all. -/
def nan0 : Nat := 9221120237041090561
theorem isN_nan0 : isN nan0 = true := by decide +kernel
def fop (op : BinOp) (x y : Nat) : Nat := (floatBits op .f64 x y).getD nan0

theorem fbits_nan_left {op : BinOp} {x : Nat} (h : isN x = true) (y : Nat) : floatBits op .f64 x y = none := by
  obtain ⟨s, t, e⟩ := isN_iff.1 h
  cases op <;> try rfl
  · show ((Ieee.double.read x).sum (Ieee.double.read y)).map _ = none
    rw [e]; rfl
  · show ((Ieee.double.read x).sum (Ieee.double.read y).opposite).map _ = none
    rw [e]; rfl
  · show ((Ieee.double.read x).product (Ieee.double.read y)).map _ = none
    rw [e]; rfl
  · show ((Ieee.double.read x).quotient _ (Ieee.double.read y)).map _ = none
    rw [e]; rfl
theorem fbits_nan_right {op : BinOp} {x : Nat} (h : isN x = true) (y : Nat) : floatBits op .f64 y x = none := by
  obtain ⟨s, t, e⟩ := isN_iff.1 h
  cases op <;> try rfl
  · show ((Ieee.double.read y).sum (Ieee.double.read x)).map _ = none
    rw [e]; cases Ieee.double.read y <;> rfl
  · show ((Ieee.double.read y).sum (Ieee.double.read x).opposite).map _ = none
    rw [e]; cases Ieee.double.read y <;> rfl
  · show ((Ieee.double.read y).product (Ieee.double.read x)).map _ = none
    rw [e]; cases Ieee.double.read y <;> rfl
  · show ((Ieee.double.read y).quotient _ (Ieee.double.read x)).map _ = none
    rw [e]; cases Ieee.double.read y <;> rfl

theorem fop_congr (op : BinOp) {x x' y y' : Nat} (hx : Same x x') (hy : Same y y') : Same (fop op x y) (fop op x' y') := by
  rcases hx with rfl | ⟨a, b⟩
  · rcases hy with rfl | ⟨c, d⟩
    · exact .inl rfl
    · exact .inl (by unfold fop; rw [fbits_nan_right c, fbits_nan_right d])
  · exact .inl (by unfold fop; rw [fbits_nan_left a, fbits_nan_left b])

/-- No operation gives a NaN as a told result. -/
theorem fbits_not_nan {op : BinOp} {x y r : Nat} (h : floatBits op .f64 x y = some r) : isN r = false := by
  have key : ∀ o : Option Ieee.Datum, (∀ d, o = some d → d.isNaN = false) → o.map Ieee.double.write = some r → isN r = false := by
    intro o ho h
    cases o with
    | none => cases h
    | some d => cases h; exact isN_write (ho d rfl)
  have hsum : ∀ a b d : Ieee.Datum, a.sum b = some d → d.isNaN = false := by
    intro a b d h
    cases a <;> cases b <;> simp [Ieee.Datum.sum] at h <;> first | (subst h; rfl) | (obtain ⟨_, rfl⟩ := h; rfl)
  have hprod : ∀ a b d : Ieee.Datum, a.product b = some d → d.isNaN = false := by
    intro a b d h
    cases a <;> cases b <;> simp [Ieee.Datum.product] at h <;> first | (subst h; rfl) | (obtain ⟨_, rfl⟩ := h; rfl)
  have hquo : ∀ (n : Nat) (a b d : Ieee.Datum), a.quotient n b = some d → d.isNaN = false := by
    intro n a b d h
    cases a with
    | nan => cases b <;> simp [Ieee.Datum.quotient] at h
    | infinity s => cases b <;> simp [Ieee.Datum.quotient] at h; subst h; rfl
    | number s m i =>
      cases b with
      | nan => simp [Ieee.Datum.quotient] at h
      | infinity t => simp [Ieee.Datum.quotient] at h; subst h; rfl
      | number t k j =>
        simp only [Ieee.Datum.quotient] at h
        split at h
        · split at h
          · cases h
          · cases h; rfl
        · cases h; rfl
  cases op <;> try (cases h; done)
  · exact key _ (hsum _ _) h
  · exact key _ (hsum _ _) h
  · exact key _ (hprod _ _) h
  · exact key _ (hquo _ _ _) h

/-- 1 over what is no NaN is no NaN. -/
def one64 : Nat := 4607182418800017408
theorem one_over {x : Nat} (h : isN x = false) : ∃ r, floatBits .quo .f64 one64 x = some r ∧ FloatKind.f64.format.order r r = some .eq := by
  have e1 : Ieee.double.read one64 = .number false 4503599627370496 (-52) := by kernel_rfl
  have : ∃ d, (Ieee.double.read one64).quotient (Ieee.double.fractionBits + 2) (Ieee.double.read x) = some d := by
    rw [e1]
    unfold isN at h
    cases e : Ieee.double.read x with
    | nan s t => rw [e] at h; cases h
    | infinity s => exact ⟨_, rfl⟩
    | number s m p =>
      simp only [Ieee.Datum.quotient]
      split
      · exact ⟨_, rfl⟩
      · exact ⟨_, rfl⟩
  obtain ⟨d, hd⟩ := this
  have hr : floatBits .quo .f64 one64 x = some (Ieee.double.write d) := by
    show Option.map Ieee.double.write ((Ieee.double.read one64).quotient (Ieee.double.fractionBits + 2) (Ieee.double.read x)) = _
    rw [hd]; rfl
  exact ⟨_, hr, order_refl (fbits_not_nan hr)⟩

/-- A word that the tape gives for a NaN is one. -/
theorem isN_cut (x y t : Nat) : isN ((Question.nanBits .f64 x y).cut t) = true := by
  show isN ((t % 2) * 2 ^ 63 + 0x7ff0000000000000 + 1 + (t / 2) % (2 ^ 52 - 1)) = true
  have h1 : t / 2 % (2 ^ 52 - 1) < 2 ^ 52 - 1 := Nat.mod_lt _ (by decide)
  have hm : ((t % 2) * 2 ^ 63 + 0x7ff0000000000000 + 1 + (t / 2) % (2 ^ 52 - 1)) % Ieee.double.signWeight = 0x7ff0000000000000 + 1 + (t / 2) % (2 ^ 52 - 1) := by
    have : Ieee.double.signWeight = 2 ^ 63 := by decide +kernel
    rw [this]; omega
  unfold isN Ieee.Format.read
  simp only [hm]
  have hi : Ieee.double.infRung = 0x7ff0000000000000 := by decide +kernel
  have hb : Ieee.double.binade = 2 ^ 52 := by decide +kernel
  rw [hi, hb, if_neg (by omega), if_neg (by omega), if_neg (by omega)]
  rfl

/-- A float operation, run: the same up to the NaN's bits; at most one answer of the tape is taken. -/
theorem run_arith_any {P : Program} (op : BinOp) (hop : op = .add ∨ op = .sub ∨ op = .mul ∨ op = .quo) (x y : Nat) (w : World) :
    ∃ r n, (Op.floatArith op .f64 x y).run P w = .ok (.float .f64 r) (w.drewN n) ∧ Same r (fop op x y) := by
  cases h : floatBits op .f64 x y with
  | some r => exact ⟨r, 0, run_floatArith w h, .inl (by simp [fop, h])⟩
  | none =>
    refine ⟨(Question.nanBits .f64 x y).cut (w.tape w.drawn (.nanBits .f64 x y)), 1, ?_, .inr ⟨isN_cut _ _ _, by simp [fop, h, isN_nan0]⟩⟩
    have hf : Question.forced (.nanBits .f64 x y) = false := rfl
    unfold floatBits at h
    rcases hop with rfl | rfl | rfl | rfl <;> simp only at h <;> simp [Op.floatArith, h, hf] <;> rfl

/-- The same on parts of complex numbers. -/
theorem run_carith_any {P : Program} (op : BinOp) (hop : op = .add ∨ op = .sub ∨ op = .mul ∨ op = .quo) (x y : Nat) (w : World) :
    ∃ r n, (Op.Complex.arith op .f64 x y).run P w = .ok r (w.drewN n) ∧ Same r (fop op x y) := by
  obtain ⟨r, n, h, hs⟩ := run_arith_any (P := P) op hop x y w
  exact ⟨r, n, by simp [Op.Complex.arith, h], hs⟩

/-- The NaN's word that the tape gives. -/
def nanAt (w : World) (x y : Nat) : Nat := (Question.nanBits .f64 x y).cut (w.tape w.drawn (.nanBits .f64 x y))
theorem isN_nanAt (w : World) (x y : Nat) : isN (nanAt w x y) = true := isN_cut _ _ _

/-- The operation on wide floats as one equation: a told word, or a NaN and one answer of the tape. -/
theorem run_told {P : Program} {op : BinOp} {x y r : Nat} (h : floatBits op .f64 x y = some r) (t : TypeId) (w : World) :
    (binOp op t (.float .f64 x) (.float .f64 y)).run P w = .ok (.float .f64 r) w := run_float_arith w op t .f64 x y r h
theorem run_nan {P : Program} {op : BinOp} (hop : op = .add ∨ op = .sub ∨ op = .mul ∨ op = .quo) {x y : Nat} (h : floatBits op .f64 x y = none) (t : TypeId) (w : World) :
    (binOp op t (.float .f64 x) (.float .f64 y)).run P w = .ok (.float .f64 (nanAt w x y)) w.drew := by
  have hf : Question.forced (.nanBits .f64 x y) = false := rfl
  unfold floatBits at h
  rcases hop with rfl | rfl | rfl | rfl <;> simp only at h <;> simp [binOp, Op.floatArith, h, hf] <;> rfl
@[go_sem] theorem run_neg {P : Program} (k : FloatKind) (x : Nat) (w : World) : (Op.unary .neg (.float k x)).run P w = .ok (.float k (Op.negFloat k x)) w := rfl
@[go_sem] theorem run_cneg {P : Program} (k : FloatKind) (x y : Nat) (w : World) : (Op.unary .neg (.complex k x y)).run P w = .ok (.complex k (Op.negFloat k x) (Op.negFloat k y)) w := rfl
theorem neg_neg (x : Nat) : Op.negFloat .f64 (Op.negFloat .f64 x) = x := by
  unfold Op.negFloat; rw [Nat.xor_assoc, Nat.xor_self, Nat.xor_zero]
end Go.Proofs.YtbihlkienhbapabDoor
