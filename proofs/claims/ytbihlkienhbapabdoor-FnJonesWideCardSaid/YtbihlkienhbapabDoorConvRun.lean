/-
  Conversions between the widths at whatever operands: told words, or a NaN; a single word is always told as a wide one.
-/
import Derived.Test.YtbihlkienhbapabDoorFloatRun
import Derived.Test.YtbihlkienhbapabDoorBound
namespace Go.Proofs.YtbihlkienhbapabDoor
set_option linter.unusedVariables false

def isNk (k : FloatKind) (x : Nat) : Bool := (k.format.read x).isNaN
theorem isNk64 (x : Nat) : isNk .f64 x = isN x := rfl
theorem isNk_iff {k : FloatKind} {x : Nat} : isNk k x = true ↔ ∃ s t, k.format.read x = .nan s t := by
  unfold isNk Ieee.Datum.isNaN
  cases h : k.format.read x <;> simp
theorem order_nk_left {k : FloatKind} {x : Nat} (h : isNk k x = true) (y : Nat) : k.format.order x y = none := by
  obtain ⟨s, t, e⟩ := isNk_iff.1 h
  show (k.format.read x).order (k.format.read y) = none
  rw [e]; rfl
theorem order_nk_right {k : FloatKind} {x : Nat} (h : isNk k x = true) (y : Nat) : k.format.order y x = none := by
  obtain ⟨s, t, e⟩ := isNk_iff.1 h
  show (k.format.read y).order (k.format.read x) = none
  rw [e]; cases k.format.read y <;> rfl

theorem isN_conv64 (b t : Nat) : isNk .f64 ((Question.nanConv .f64 b).cut t) = true := isN_cut 0 0 t
theorem isN_conv32 (b t : Nat) : isNk .f32 ((Question.nanConv .f32 b).cut t) = true := by
  show isNk .f32 ((t % 2) * 2 ^ 31 + 0x7f800000 + 1 + (t / 2) % (2 ^ 23 - 1)) = true
  have h1 : t / 2 % (2 ^ 23 - 1) < 2 ^ 23 - 1 := Nat.mod_lt _ (by decide)
  have hm : ((t % 2) * 2 ^ 31 + 0x7f800000 + 1 + (t / 2) % (2 ^ 23 - 1)) % Ieee.single.signWeight = 0x7f800000 + 1 + (t / 2) % (2 ^ 23 - 1) := by
    have : Ieee.single.signWeight = 2 ^ 31 := by decide +kernel
    rw [this]; omega
  show (Ieee.single.read _).isNaN = true
  unfold Ieee.Format.read
  simp only [hm]
  have hi : Ieee.single.infRung = 0x7f800000 := by decide +kernel
  have hb : Ieee.single.binade = 2 ^ 23 := by decide +kernel
  rw [hi, hb, if_neg (by omega), if_neg (by omega), if_neg (by omega)]
  rfl

/-- A conversion's answer: the told word, or a NaN that the tape gives. -/
def Conv (s k : FloatKind) (x r : Nat) : Prop := floatToFloatBits s x k = some r ∨ (isNk s x = true ∧ isNk k r = true)

theorem run_conv {P : Program} {s k : FloatKind} (hsk : s ≠ k) {x : Nat} (h : isNk s x = true ∨ (floatToFloatBits s x k).isSome = true) (w : World) :
    ∃ r n, (Go.Conv.floatToFloat s x k).run P w = .ok (.float k r) (w.drewN n) ∧ Conv s k x r := by
  rcases h with h | h
  · obtain ⟨a, t, e⟩ := isNk_iff.1 h
    have e' : s.decode x = .nan a t := e
    have hf : Question.forced (.nanConv k x) = false := rfl
    refine ⟨(Question.nanConv k x).cut (w.tape w.drawn (.nanConv k x)), 1, ?_, .inr ⟨h, ?_⟩⟩
    · simp [Go.Conv.floatToFloat, hsk, e', hf]; rfl
    · cases k
      · exact isN_conv32 _ _
      · exact isN_conv64 _ _
  · obtain ⟨r, hr⟩ := Option.isSome_iff_exists.1 h
    exact ⟨r, 0, run_floatToFloat w hr, .inl hr⟩

theorem run_cconv {P : Program} {s k : FloatKind} (hsk : s ≠ k) {x y : Nat} (hx : isNk s x = true ∨ (floatToFloatBits s x k).isSome = true) (hy : isNk s y = true ∨ (floatToFloatBits s y k).isSome = true)
    (src dst : TypeId) (hs : (P.underlying src).isSome = true) (hd : P.underlying dst = some (.complex k)) (w : World) :
    ∃ p q n, (convert src dst (.complex s x y)).run P w = .ok (.complex k p q) (w.drewN n) ∧ Conv s k x p ∧ Conv s k y q := by
  obtain ⟨p, n, h1, c1⟩ := run_conv (P := P) hsk hx w
  obtain ⟨q, m, h2, c2⟩ := run_conv (P := P) hsk hy (w.drewN n)
  rw [World.drewN_drewN] at h2
  refine ⟨p, q, n + m, ?_, c1, c2⟩
  obtain ⟨u, hs'⟩ := Option.isSome_iff_exists.1 hs
  cases u <;> simp [convert, run_underlying hs', run_underlying hd, Go.Conv.complexToComplex, h1, h2]

theorem isNk32_iff (x : Nat) : isNk .f32 x = (Ieee.single.read x).isNaN := rfl
/-- A single word is told as a wide one. -/
theorem widen_some (x : Nat) : isNk .f32 x = true ∨ (floatToFloatBits .f32 x .f64).isSome = true := by
  have hb : Ieee.single.binade = 2 ^ 23 := by decide +kernel
  have hi : Ieee.single.infRung = 255 * 2 ^ 23 := by decide +kernel
  have hl : Ieee.single.leastPlace = -149 := by decide +kernel
  cases e : Ieee.single.read x with
  | nan s t => left; unfold isNk; show (Ieee.single.read x).isNaN = true; rw [e]; rfl
  | infinity s =>
    right
    have e' : FloatKind.f32.decode x = .infinity s := e
    unfold floatToFloatBits
    rw [if_neg (by decide), e']
    rfl
  | number s m p =>
    right
    have e' : FloatKind.f32.decode x = .number s m p := e
    have hm : m = 0 ∨ p + m.log2 ≤ 130 := by
      unfold Ieee.Format.read at e
      simp only at e
      generalize x % Ieee.single.signWeight = r at e
      split at e
      · rename_i hr
        simp only [Ieee.Datum.number.injEq] at e
        obtain ⟨_, e2, e3⟩ := e
        rw [← e2, ← e3]
        rw [hb] at hr
        by_cases h0 : r = 0
        · exact .inl h0
        · right
          have := (Nat.log2_lt h0).2 hr
          rw [hl]; omega
      · split at e
        · rename_i h1 h2
          simp only [Ieee.Datum.number.injEq] at e
          obtain ⟨_, e2, e3⟩ := e
          rw [← e2, ← e3]
          right
          rw [hb] at h1 ⊢
          rw [hi] at h2
          rw [hl]
          have h3 : r % 2 ^ 23 < 2 ^ 23 := Nat.mod_lt _ (by decide)
          have : (2 ^ 23 + r % 2 ^ 23).log2 < 24 := (Nat.log2_lt (by omega)).2 (by omega)
          omega
        · split at e <;> cases e
    have hr := nearest_small s m p 1152 (by decide) (by rcases hm with h | h; · exact .inl h
                                                        · right; omega)
    obtain ⟨s2, m2, p2, e2, _⟩ := read_small (Ieee.double.nearest s m p) 1154 (by decide) hr
    unfold floatToFloatBits
    rw [if_neg (by decide), e']
    simp only
    rw [if_neg]
    · rfl
    · show ¬ (Ieee.double.read (Ieee.double.nearest s m p)).isInfinity = true
      rw [e2]; simp [Ieee.Datum.isInfinity]
theorem conv_same {s k : FloatKind} {x r r' : Nat} (h : Conv s k x r) (h' : Conv s k x r') (hk : k = .f64) : Same r r' := by
  subst hk
  rcases h with h | ⟨a, b⟩
  · rcases h' with h' | ⟨c, d⟩
    · rw [h] at h'; cases h'; exact .refl _
    · obtain ⟨s1, t1, e⟩ := isNk_iff.1 c
      have e' : s.decode x = .nan s1 t1 := e
      unfold floatToFloatBits at h
      split at h
      · rename_i hs; subst hs; cases h
        exact .inr ⟨c, d⟩
      · rw [e'] at h; cases h
  · rcases h' with h' | ⟨c, d⟩
    · obtain ⟨s1, t1, e⟩ := isNk_iff.1 a
      have e' : s.decode x = .nan s1 t1 := e
      unfold floatToFloatBits at h'
      split at h'
      · rename_i hs; subst hs; cases h'
        exact .inr ⟨b, a⟩
      · rw [e'] at h'; cases h'
    · exact .inr ⟨b, d⟩
end Go.Proofs.YtbihlkienhbapabDoor
