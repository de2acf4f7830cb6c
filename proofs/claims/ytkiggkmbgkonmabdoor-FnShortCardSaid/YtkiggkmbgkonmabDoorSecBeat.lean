/-
  Plates of one direction: their products, their powers, their beats.
-/
import Derived.Test.YtkiggkmbgkonmabDoorBFib
import Derived.Test.YtkiggkmbgkonmabDoorBMath
namespace Go.Proofs.YtkiggkmbgkonmabDoor
set_option linter.unusedVariables false

theorem pha_add {j k : Int} (hj : inB j 0 3 = true) (hk : inB k 0 3 = true) : inB ((j + k) % 4) 0 3 = true ∧ phr ((j + k) % 4) = phr j * phr k - phi j * phi k ∧ phi ((j + k) % 4) = phr j * phi k + phi j * phr k := by
  rcases pha_in hj with rfl | rfl | rfl | rfl <;> rcases pha_in hk with rfl | rfl | rfl | rfl <;> decide
/-- The product of two plates of a direction is the plate of both phases together. -/
theorem pla_mul {p q j k : Int} {P Q X : F4} (h : plaM p q j = some P) (hq : plaM p q k = some Q) (hx : mulM P Q = some X) : plaM p q ((j + k) % 4) = some X := by
  obtain ⟨hd, hj, -⟩ := pla_some h
  obtain ⟨-, hk, -⟩ := pla_some hq
  obtain ⟨n1, n2, n3⟩ := pha_add hj hk
  obtain ⟨w, x, y, z, C, S, h1, h2, hC, hS, sq, r1, i1, r2, i2, r3, i3, r4, i4⟩ := pla_val hd hj
  rw [h] at h1
  obtain rfl := (Option.some.inj h1)
  obtain ⟨w', x', y', z', C', S', h1', h2', hC', hS', sq', r1', i1', r2', i2', r3', i3', r4', i4'⟩ := pla_val hd hk
  rw [hq] at h1'
  obtain rfl := (Option.some.inj h1')
  obtain ⟨w2, x2, y2, z2, C2, S2, h12, h22, hC2, hS2, sq2, r12, i12, r22, i22, r32, i32, r42, i42⟩ := pla_val hd n1
  rw [h12]
  obtain ⟨q1, q2, q3, q4⟩ := X
  obtain ⟨ow, ox, oy, oz⟩ := okM_of h22
  have eC : C' = C := by rw [hC', hC]
  have eS : S' = S := by rw [hS', hS]
  have eC2 : C2 = C := by rw [hC2, hC]
  have eS2 : S2 = S := by rw [hS2, hS]
  subst eC eS eC2 eS2
  obtain ⟨e1, e2, e3, e4⟩ := mulM_some hx
  obtain ⟨-, -, -, -, o1, a1, b1⟩ := inT_val e1
  obtain ⟨-, -, -, -, o2, a2, b2⟩ := inT_val e2
  obtain ⟨-, -, -, -, o3, a3, b3⟩ := inT_val e3
  obtain ⟨-, -, -, -, o4, a4, b4⟩ := inT_val e4
  have u2 : (phr ((j + k) % 4) : Rat) = (phr j : Rat) * (phr k : Rat) - (phi j : Rat) * (phi k : Rat) := by rw [n2, Rat.intCast_sub, Rat.intCast_mul, Rat.intCast_mul]
  have v2 : (phi ((j + k) % 4) : Rat) = (phr j : Rat) * (phi k : Rat) + (phi j : Rat) * (phr k : Rat) := by rw [n3, Rat.intCast_add, Rat.intCast_mul, Rat.intCast_mul]
  rw [u2] at r12 r22 r32 r42
  rw [v2] at i12 i22 i32 i42
  rw [r1, i1, r2, i2, r1', i1', r3', i3'] at a1 b1
  rw [r1, i1, r2, i2, r2', i2', r4', i4'] at a2 b2
  rw [r3, i3, r4, i4, r1', i1', r3', i3'] at a3 b3
  rw [r3, i3, r4, i4, r2', i2', r4', i4'] at a4 b4
  clear r1 i1 r2 i2 r3 i3 r4 i4 r1' i1' r2' i2' r3' i3' r4' i4' u2 v2 e1 e2 e3 e4 hC hS hC' hS' hC2 hS2 n2 n3
  generalize (phr j : Rat) = U at *
  generalize (phi j : Rat) = V at *
  generalize (phr k : Rat) = U' at *
  generalize (phi k : Rat) = V' at *
  have g1 : q1 = w2 := uniqT o1 ow (by rw [a1, r12]; grind) (by rw [b1, i12]; grind)
  have g2 : q2 = x2 := uniqT o2 ox (by rw [a2, r22]; grind) (by rw [b2, i22]; grind)
  have g3 : q3 = y2 := uniqT o3 oy (by rw [a3, r32]; grind) (by rw [b3, i32]; grind)
  have g4 : q4 = z2 := uniqT o4 oz (by rw [a4, r42]; grind) (by rw [b4, i42]; grind)
  rw [g1, g2, g3, g4]
/-- The plate of no phase is nothing. -/
theorem pla_0 {p q : Int} (hd : dirB p q = true) : plaM p q 0 = some oneM := by
  obtain ⟨w, x, y, z, C, S, h1, h2, hC, hS, sq, r1, i1, r2, i2, r3, i3, r4, i4⟩ := pla_val hd (show inB 0 0 3 = true by decide)
  obtain ⟨ow, ox, oy, oz⟩ := okM_of h2
  have u0 : (phr 0 : Rat) = 1 := by rw [show phr 0 = 1 from rfl]; exact_mod_cast rfl
  have v0 : (phi 0 : Rat) = 0 := by rw [show phi 0 = 0 from rfl]; exact_mod_cast rfl
  rw [u0] at r1 r2 r3 r4
  rw [v0] at i1 i2 i3 i4
  have ro : reT (1, 0, 1) = 1 := rv_one 1
  have io : imT (1, 0, 1) = 0 := rv_zero 1
  have rz : reT (0, 0, 1) = 0 := rv_zero 1
  have iz : imT (0, 0, 1) = 0 := rv_zero 1
  have g1 : w = (1, 0, 1) := uniqT ow okT_one (by rw [r1, ro]; grind) (by rw [i1, io]; grind)
  have g2 : x = (0, 0, 1) := uniqT ox okT_zero (by rw [r2, rz]; grind) (by rw [i2, iz]; grind)
  have g3 : y = (0, 0, 1) := uniqT oy okT_zero (by rw [r3, rz]; grind) (by rw [i3, iz]; grind)
  have g4 : z = (1, 0, 1) := uniqT oz okT_one (by rw [r4, ro]; grind) (by rw [i4, io]; grind)
  rw [h1, g1, g2, g3, g4]
  rfl
/-- Powers of a plate that are told. -/
theorem pwM_pla {p q k : Int} {P : F4} (h : plaM p q k = some P) : ∀ (n : Nat) {j : Int} {A X : F4}, plaM p q j = some A → pwM P n A = some X → plaM p q ((j + n * k) % 4) = some X
  | 0, j, A, X, ha, hx => by
    cases hx
    have hj := pha_in (pla_some ha).2.1
    rw [show (j + ((0 : Nat) : Int) * k) % 4 = j by rcases hj with rfl | rfl | rfl | rfl <;> simp]
    exact ha
  | n + 1, j, A, X, ha, hx => by
    unfold pwM at hx
    cases e : pwM P n A with
    | none => rw [e] at hx; cases hx
    | some Y =>
      rw [e] at hx
      have h1 := pwM_pla h n ha e
      have h2 := pla_mul h h1 hx
      rw [← h2]
      congr 1
      have : (((n + 1 : Nat) : Int)) * k = n * k + k := by rw [Int.natCast_add, Int.add_mul]; simp
      rw [this]
      omega
/-- Done as often as its beat, a plate changes nothing. -/
theorem beat_one {p q k : Int} {P A : F4} (h : plaM p q k = some P) (hp : pwM P (beatI k).toNat oneM = some A) : A = oneM := by
  obtain ⟨hd, hk, -⟩ := pla_some h
  have e := pwM_pla h (beatI k).toNat (pla_0 hd) hp
  have e2 : ((0 : Int) + ((beatI k).toNat : Int) * k) % 4 = 0 := by rcases pha_in hk with rfl | rfl | rfl | rfl <;> decide
  rw [e2, pla_0 hd] at e
  exact (Option.some.inj e).symm
end Go.Proofs.YtkiggkmbgkonmabDoor
