/-
  Conversions of drawn wide numbers to single ones and back: told words, or a NaN.
-/
import Derived.Test.YtfhdinhfjiilfabSum
namespace Go.Proofs.Ytfhdinhfjiilfab
set_option linter.unusedVariables false

def isNk (k : FloatKind) (x : Nat) : Bool := (k.format.read x).isNaN
theorem isNk64 (x : Nat) : isNk .f64 x = isN x := rfl
theorem isNk_iff {k : FloatKind} {x : Nat} : isNk k x = true ↔ ∃ s t, k.format.read x = .nan s t := by
  unfold isNk Ieee.Datum.isNaN
  cases h : k.format.read x <;> simp
theorem order_nk_left {k : FloatKind} {x : Nat} (h : isNk k x = true) (y : Nat) : k.format.order x y = none := by
  obtain ⟨s, t, e⟩ := isNk_iff.1 h
  show (k.format.read x).order (k.format.read y) = none
  rw [e]; rfl
theorem order_nk_right {k : FloatKind} {x : Nat} (h : isNk k x = true) (y : Nat) : k.format.order y x = none := by
  obtain ⟨s, t, e⟩ := isNk_iff.1 h
  show (k.format.read y).order (k.format.read x) = none
  rw [e]; cases k.format.read y <;> rfl

theorem isN_conv64 (b t : Nat) : isNk .f64 ((Question.nanConv .f64 b).cut t) = true := isN_cut 0 0 t
theorem isN_conv32 (b t : Nat) : isNk .f32 ((Question.nanConv .f32 b).cut t) = true := by
  show isNk .f32 ((t % 2) * 2 ^ 31 + 0x7f800000 + 1 + (t / 2) % (2 ^ 23 - 1)) = true
  have h1 : t / 2 % (2 ^ 23 - 1) < 2 ^ 23 - 1 := Nat.mod_lt _ (by decide)
  have hm : ((t % 2) * 2 ^ 31 + 0x7f800000 + 1 + (t / 2) % (2 ^ 23 - 1)) % Ieee.single.signWeight = 0x7f800000 + 1 + (t / 2) % (2 ^ 23 - 1) := by
    have : Ieee.single.signWeight = 2 ^ 31 := by decide +kernel
    rw [this]; omega
  show (Ieee.single.read _).isNaN = true
  unfold Ieee.Format.read
  simp only [hm]
  have hi : Ieee.single.infRung = 0x7f800000 := by decide +kernel
  have hb : Ieee.single.binade = 2 ^ 23 := by decide +kernel
  rw [hi, hb, if_neg (by omega), if_neg (by omega), if_neg (by omega)]
  rfl

/-- A conversion's answer: the told word, or a NaN that the tape gives. -/
def Conv (s k : FloatKind) (x r : Nat) : Prop := floatToFloatBits s x k = some r ∨ (isNk s x = true ∧ isNk k r = true)

theorem run_conv {P : Program} {s k : FloatKind} (hsk : s ≠ k) {x : Nat} (h : isNk s x = true ∨ (floatToFloatBits s x k).isSome = true) (w : World) :
    ∃ r n, (Go.Conv.floatToFloat s x k).run P w = .ok (.float k r) (w.drewN n) ∧ Conv s k x r := by
  rcases h with h | h
  · obtain ⟨a, t, e⟩ := isNk_iff.1 h
    have e' : s.decode x = .nan a t := e
    have hf : Question.forced (.nanConv k x) = false := rfl
    refine ⟨(Question.nanConv k x).cut (w.tape w.drawn (.nanConv k x)), 1, ?_, .inr ⟨h, ?_⟩⟩
    · simp [Go.Conv.floatToFloat, hsk, e', hf]; rfl
    · cases k
      · exact isN_conv32 _ _
      · exact isN_conv64 _ _
  · obtain ⟨r, hr⟩ := Option.isSome_iff_exists.1 h
    exact ⟨r, 0, run_floatToFloat w hr, .inl hr⟩

theorem run_cconv {P : Program} {s k : FloatKind} (hsk : s ≠ k) {x y : Nat} (hx : isNk s x = true ∨ (floatToFloatBits s x k).isSome = true) (hy : isNk s y = true ∨ (floatToFloatBits s y k).isSome = true)
    (src dst : TypeId) (hs : (P.underlying src).isSome = true) (hd : P.underlying dst = some (.complex k)) (w : World) :
    ∃ p q n, (convert src dst (.complex s x y)).run P w = .ok (.complex k p q) (w.drewN n) ∧ Conv s k x p ∧ Conv s k y q := by
  obtain ⟨p, n, h1, c1⟩ := run_conv (P := P) hsk hx w
  obtain ⟨q, m, h2, c2⟩ := run_conv (P := P) hsk hy (w.drewN n)
  rw [World.drewN_drewN] at h2
  refine ⟨p, q, n + m, ?_, c1, c2⟩
  obtain ⟨u, hs'⟩ := Option.isSome_iff_exists.1 hs
  cases u <;> simp [convert, run_underlying hs', run_underlying hd, Go.Conv.complexToComplex, h1, h2]

/-- The drawn words as single ones. -/
def values : List Nat := inf64 :: finites
theorem drawn_cases {x : Nat} (h : Drawn x) : isN x = true ∨ x ∈ values := by
  rcases h with h | rfl | h
  · exact .inl h
  · exact .inr (List.mem_cons_self ..)
  · exact .inr (List.mem_cons_of_mem _ h)
def narrow (x : Nat) : Nat := (floatToFloatBits .f64 x .f32).getD 0
def widen (x : Nat) : Nat := (floatToFloatBits .f32 x .f64).getD 0
theorem values_narrow : values.all (fun x => floatToFloatBits .f64 x .f32 == some (narrow x) && floatToFloatBits .f32 (narrow x) .f64 == some (widen (narrow x))) = true := by decide +kernel
theorem values_order : values.all (fun x => values.all fun y =>
    FloatKind.f32.format.order (narrow x) (narrow y) == FloatKind.f64.format.order (widen (narrow x)) (widen (narrow y))) = true := by decide +kernel

/-- A drawn single word: a NaN, or the narrowed word of a drawn one. -/
def Single (x : Nat) : Prop := isNk .f32 x = true ∨ ∃ y ∈ values, x = narrow y
theorem narrow_can {x : Nat} (h : Drawn x) : isNk .f64 x = true ∨ (floatToFloatBits .f64 x .f32).isSome = true := by
  rcases drawn_cases h with h | h
  · exact .inl h
  · have := List.all_eq_true.1 values_narrow x h
    simp only [Bool.and_eq_true, beq_iff_eq] at this
    exact .inr (by rw [this.1]; rfl)
theorem single_of_conv {x r : Nat} (h : Drawn x) (c : Conv .f64 .f32 x r) : Single r := by
  rcases c with c | ⟨_, c⟩
  · rcases drawn_cases h with h | h
    · obtain ⟨s, t, e⟩ := isN_iff.1 h
      have e' : FloatKind.f64.decode x = .nan s t := e
      rw [floatToFloatBits, if_neg (by decide), e'] at c; cases c
    · have := List.all_eq_true.1 values_narrow x h
      simp only [Bool.and_eq_true, beq_iff_eq] at this
      rw [this.1] at c; cases c
      exact .inr ⟨x, h, rfl⟩
  · exact .inl c
theorem widen_can {x : Nat} (h : Single x) : isNk .f32 x = true ∨ (floatToFloatBits .f32 x .f64).isSome = true := by
  rcases h with h | ⟨y, hy, rfl⟩
  · exact .inl h
  · have := List.all_eq_true.1 values_narrow y hy
    simp only [Bool.and_eq_true, beq_iff_eq] at this
    exact .inr (by rw [this.2]; rfl)
/-- Both orders are the same. -/
theorem order_widened {x y p q : Nat} (hx : Single x) (hy : Single y) (cx : Conv .f32 .f64 x p) (cy : Conv .f32 .f64 y q) :
    FloatKind.f32.format.order x y = FloatKind.f64.format.order p q := by
  have nanc : ∀ {z r}, isNk .f32 z = true → Conv .f32 .f64 z r → isNk .f64 r = true := by
    intro z r h c
    rcases c with c | ⟨_, c⟩
    · obtain ⟨s, t, e⟩ := isNk_iff.1 h
      have e' : FloatKind.f32.decode z = .nan s t := e
      rw [floatToFloatBits, if_neg (by decide), e'] at c; cases c
    · exact c
  have toldc : ∀ {a r}, a ∈ values → isNk .f32 (narrow a) = false → Conv .f32 .f64 (narrow a) r → r = widen (narrow a) := by
    intro a r ha hn c
    rcases c with c | ⟨c, _⟩
    · unfold widen; rw [c]; rfl
    · rw [hn] at c; cases c
  cases nx : isNk .f32 x with
  | true => rw [order_nk_left nx, order_nk_left (nanc nx cx)]
  | false =>
    cases ny : isNk .f32 y with
    | true => rw [order_nk_right ny, order_nk_right (nanc ny cy)]
    | false =>
      rcases hx with h | ⟨a, ha, rfl⟩
      · rw [nx] at h; cases h
      rcases hy with h | ⟨b, hb, rfl⟩
      · rw [ny] at h; cases h
      rw [toldc ha nx cx, toldc hb ny cy]
      have := List.all_eq_true.1 (List.all_eq_true.1 values_order a ha) b hb
      simpa using this
end Go.Proofs.Ytfhdinhfjiilfab
