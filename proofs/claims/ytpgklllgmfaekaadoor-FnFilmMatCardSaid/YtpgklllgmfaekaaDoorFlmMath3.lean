/-
  Films: clear films lose nothing; the determinant of a film is 1.
-/
import Derived.Test.YtpgklllgmfaekaaDoorFlmMath2
namespace Go.Proofs.YtpgklllgmfaekaaDoor
set_option linter.unusedVariables false

theorem over_valR {x y z a b c p q r : Int} (h : overF x y z a b c = some (p, q, r)) : rv x z = rv p r * rv a c - rv q r * rv b c ∧ rv y z = rv p r * rv b c + rv q r * rv a c := by
  obtain ⟨h1, h2, h3, hn, e1, e2⟩ := over_some h
  have hz := ne0 (okF_den h1)
  have hc := ne0 (okF_den h2)
  have hr := ne0 (okF_den h3)
  have hn' : ((a * a + b * b : Int) : Rat) ≠ 0 := by
    intro e
    have : a * a + b * b = 0 := by exact_mod_cast e
    omega
  have f1 : (p : Rat) * ((a * a + b * b) * z) = (x * a + y * b) * c * r := by exact_mod_cast e1
  have f2 : (q : Rat) * ((a * a + b * b) * z) = (y * a - x * b) * c * r := by exact_mod_cast e2
  have hn2 : (a : Rat) * a + b * b ≠ 0 := by
    intro e
    apply hn'
    exact_mod_cast e
  unfold rv
  constructor
  · have k : (x : Rat) * (c * r) * (a * a + b * b) = (p * a - q * b) * z * (a * a + b * b) := by grind
    have k2 : (x : Rat) * (c * r) = (p * a - q * b) * z := by grind
    grind
  · have k : (y : Rat) * (c * r) * (a * a + b * b) = (p * b + q * a) * z * (a * a + b * b) := by grind
    have k2 : (y : Rat) * (c * r) = (p * b + q * a) * z := by grind
    grind
theorem oT_val {u v w : F3} (h : oT u v = some w) : okT u = true ∧ okT v = true ∧ okT w = true ∧ reT u = reT w * reT v - imT w * imT v ∧ imT u = reT w * imT v + imT w * reT v := by
  obtain ⟨a, b, c⟩ := u
  obtain ⟨x, y, z⟩ := v
  obtain ⟨p, q, r⟩ := w
  have k := over_some h
  obtain ⟨k1, k2⟩ := over_valR h
  exact ⟨k.1, k.2.1, k.2.2.1, k1, k2⟩
/-! The determinant. -/
def dR (A : F4) : Rat := reT A.1 * reT A.2.2.2 - imT A.1 * imT A.2.2.2 - (reT A.2.1 * reT A.2.2.1 - imT A.2.1 * imT A.2.2.1)
def dI (A : F4) : Rat := reT A.1 * imT A.2.2.2 + imT A.1 * reT A.2.2.2 - (reT A.2.1 * imT A.2.2.1 + imT A.2.1 * reT A.2.2.1)
theorem mulM_det {A B C : F4} (h : mulM A B = some C) (h1 : dR A = 1) (h2 : dI A = 0) (h3 : dR B = 1) (h4 : dI B = 0) : dR C = 1 ∧ dI C = 0 := by
  obtain ⟨a, b, c, d⟩ := A
  obtain ⟨i, j, k, l⟩ := B
  obtain ⟨w, x, y, z⟩ := C
  obtain ⟨e1, e2, e3, e4⟩ := mulM_some h
  obtain ⟨-, -, -, -, -, w1, w2⟩ := inT_val e1
  obtain ⟨-, -, -, -, -, x1, x2⟩ := inT_val e2
  obtain ⟨-, -, -, -, -, y1, y2⟩ := inT_val e3
  obtain ⟨-, -, -, -, -, z1, z2⟩ := inT_val e4
  unfold dR dI at *
  dsimp only at *
  rw [w1, w2, x1, x2, y1, y2, z1, z2]
  constructor <;> grind
theorem quaM_det {i n : F3} {A : F4} (h : quaM i n = some A) (h1 : reT i = 0) (h2 : imT i * imT i = 1) : dR A = 1 ∧ dI A = 0 := by
  obtain ⟨a, b, e1, e2, rfl⟩ := quaM_some h
  obtain ⟨-, -, -, a1, a2⟩ := oT_val e1
  obtain ⟨-, -, -, b1, b2⟩ := tT_val e2
  unfold dR dI
  dsimp only
  rw [reT_zero, imT_zero, b1, b2]
  constructor <;> grind
theorem oneM_det : dR oneM = 1 ∧ dI oneM = 0 := by
  unfold dR dI oneM
  dsimp only
  rw [reT_zero, imT_zero, reT_one, imT_one]
  constructor <;> grind
theorem mOneM_det : dR mOneM = 1 ∧ dI mOneM = 0 := by
  unfold dR dI mOneM
  dsimp only
  rw [reT_zero, imT_zero, reT_m, imT_m]
  constructor <;> grind
theorem layM_det {l : L4} {A : F4} (h : layM l = some A) : dR A = 1 ∧ dI A = 0 := by
  unfold layM at h
  split at h
  · cases h; exact oneM_det
  · split at h
    · cases h; exact mOneM_det
    · split at h
      · exact quaM_det h reT_i (by rw [imT_i]; grind)
      · exact quaM_det h reT_j (by rw [imT_j]; grind)
theorem mulsM_det {ls : List L4} : ∀ {A B : F4}, dR A = 1 ∧ dI A = 0 → mulsM A ls = some B → dR B = 1 ∧ dI B = 0 := by
  induction ls with
  | nil => intro A B h e; rw [mulsM] at e; cases e; exact h
  | cons l r ih =>
    intro A B h e
    rw [mulsM] at e
    obtain ⟨m, h1, e⟩ := Option.bind_eq_some_iff.1 e
    obtain ⟨C, h2, e⟩ := Option.bind_eq_some_iff.1 e
    obtain ⟨k1, k2⟩ := layM_det h1
    exact ih (mulM_det h2 h.1 h.2 k1 k2) e
/-- Films have the determinant 1. -/
theorem flmM_det {ls : List L4} {A : F4} {d : F3} (h : flmM ls = some A) (k : detM A = some d) : d = (1, 0, 1) := by
  unfold flmM at h
  split at h
  · obtain ⟨k1, k2⟩ := mulsM_det oneM_det h
    obtain ⟨a, b, c, e⟩ := A
    obtain ⟨x, y, h1, h2, h3⟩ := detM_some k
    obtain ⟨-, -, -, x1, x2⟩ := tT_val h1
    obtain ⟨-, -, -, y1, y2⟩ := tT_val h2
    obtain ⟨-, -, o, d1, d2⟩ := lT_val h3
    unfold dR at k1
    unfold dI at k2
    dsimp only at k1 k2
    refine uniqT o okT_one ?_ ?_
    · rw [d1, x1, y1, reT_one]; grind
    · rw [d2, x2, y2, imT_one]; grind
  · cases h
/-! Clear films. -/
/-- A clear film's matrix: real on the diagonal, imaginary elsewhere. -/
def Clr (A : F4) : Prop := imT A.1 = 0 ∧ reT A.2.1 = 0 ∧ reT A.2.2.1 = 0 ∧ imT A.2.2.2 = 0
theorem mulM_clr {A B C : F4} (h : mulM A B = some C) (h1 : Clr A) (h2 : Clr B) : Clr C := by
  obtain ⟨a, b, c, d⟩ := A
  obtain ⟨i, j, k, l⟩ := B
  obtain ⟨w, x, y, z⟩ := C
  obtain ⟨e1, e2, e3, e4⟩ := mulM_some h
  obtain ⟨-, -, -, -, -, w1, w2⟩ := inT_val e1
  obtain ⟨-, -, -, -, -, x1, x2⟩ := inT_val e2
  obtain ⟨-, -, -, -, -, y1, y2⟩ := inT_val e3
  obtain ⟨-, -, -, -, -, z1, z2⟩ := inT_val e4
  obtain ⟨p1, p2, p3, p4⟩ := h1
  obtain ⟨q1, q2, q3, q4⟩ := h2
  dsimp only at p1 p2 p3 p4 q1 q2 q3 q4
  refine ⟨?_, ?_, ?_, ?_⟩
  · show imT w = 0; rw [w2, p1, p2, q1, q3]; grind
  · show reT x = 0; rw [x1, p1, p2, q2, q4]; grind
  · show reT y = 0; rw [y1, p3, p4, q1, q3]; grind
  · show imT z = 0; rw [z2, p3, p4, q2, q4]; grind
theorem quaM_clr {i n : F3} {A : F4} (h : quaM i n = some A) (h1 : reT i = 0) (h2 : imT i * imT i = 1) (hn : imT n = 0) : Clr A := by
  obtain ⟨a, b, e1, e2, rfl⟩ := quaM_some h
  obtain ⟨-, -, -, a1, a2⟩ := oT_val e1
  obtain ⟨-, -, -, b1, b2⟩ := tT_val e2
  refine ⟨imT_zero, ?_, ?_, imT_zero⟩
  · show reT a = 0
    rw [hn] at a1 a2
    have hnn : reT n ≠ 0 := by
      intro e
      rw [e] at a2
      grind
    have : reT a * reT n = 0 := by grind
    grind
  · show reT b = 0
    rw [b1, h1, hn]; grind
theorem layM_clr {l : L4} {A : F4} (h : layM l = some A) (hn : l.1.2.1 = 0) : Clr A := by
  have hi : imT l.1 = 0 := by unfold imT; rw [hn]; exact rv_zero _
  unfold layM at h
  split at h
  · cases h; exact ⟨imT_one, reT_zero, reT_zero, imT_one⟩
  · split at h
    · cases h; exact ⟨imT_m, reT_zero, reT_zero, imT_m⟩
    · split at h
      · exact quaM_clr h reT_i (by rw [imT_i]; grind) hi
      · exact quaM_clr h reT_j (by rw [imT_j]; grind) hi
theorem mulsM_clr {ls : List L4} (hr : ∀ l ∈ ls, l.1.2.1 = 0) : ∀ {A B : F4}, Clr A → mulsM A ls = some B → Clr B := by
  induction ls with
  | nil => intro A B h e; rw [mulsM] at e; cases e; exact h
  | cons l r ih =>
    intro A B h e
    rw [mulsM] at e
    obtain ⟨m, h1, e⟩ := Option.bind_eq_some_iff.1 e
    obtain ⟨C, h2, e⟩ := Option.bind_eq_some_iff.1 e
    exact ih (fun x hx => hr x (List.mem_cons_of_mem _ hx)) (mulM_clr h2 h (layM_clr h1 (hr l (List.mem_cons_self ..)))) e
theorem powT_val {u w : F3} (h : powT u = some w) : okT u = true ∧ okT w = true ∧ reT w = reT u * reT u + imT u * imT u ∧ imT w = 0 := by
  obtain ⟨a, b, c⟩ := u
  obtain ⟨p, q, r⟩ := w
  obtain ⟨h1, h2, e, rfl⟩ := power_some h
  refine ⟨h1, h2, ?_, rv_zero r⟩
  have hc := ne0 (okF_den h1)
  have hr := ne0 (okF_den h2)
  have f : (p : Rat) * (c * c) = (a * a + b * b) * r := by exact_mod_cast e
  show rv p r = rv a c * rv a c + rv b c * rv b c
  unfold rv
  grind
theorem makeT_val {x z : Int} {w : F3} (h : makeT x z = some w) (hz : 1 ≤ z) : okT w = true ∧ reT w = rv x z ∧ imT w = 0 := by
  obtain ⟨p, q, r⟩ := w
  unfold makeT makeF at h
  split at h
  · obtain ⟨h1, e1, e2⟩ := (low_iff hz).1 h
    refine ⟨h1, (rv_eq (okF_den h1) hz).2 e1, ?_⟩
    have : q * z = 0 := by rw [e2]; exact Int.zero_mul r
    have hq : q = 0 := by
      rcases Int.mul_eq_zero.1 this with e | e
      · exact e
      · omega
    show rv q r = 0
    rw [hq]
    exact rv_zero r
  · cases h
/-- The numbers of it. a, b: the indexes; A, B, C, D: the film's four; v, w: what it makes of 1 and b; x: a v; d, u: difference and sum; r, t: the parts. -/
theorem clear_core {α β rA iB iC rD : Rat} {reV imV reW imW reX imX reD imD reU imU reA imA reR imR reT' imT' reP reQ imQ reXX imXX reYY imYY reZ imZ reS imS : Rat}
    (hα : α ≠ 0) (k1 : rA * rD - 0 * 0 - (0 * 0 - iB * iC) = 1)
    (v1 : reV = rA * 1 - 0 * 0 + (0 * β - iB * 0)) (v2 : imV = rA * 0 + 0 * 1 + (0 * 0 + iB * β))
    (w1 : reW = 0 * 1 - iC * 0 + (rD * β - 0 * 0)) (w2 : imW = 0 * 0 + iC * 1 + (rD * 0 + 0 * β))
    (x1 : reX = α * reV - 0 * imV) (x2 : imX = α * imV + 0 * reV)
    (d1 : reD = reX - reW) (d2 : imD = imX - imW) (u1 : reU = reX + reW) (u2 : imU = imX + imW)
    (a1 : reA = α + α) (a2 : imA = 0 + 0)
    (r1 : reD = reR * reU - imR * imU) (r2 : imD = reR * imU + imR * reU)
    (t1 : reA = reT' * reU - imT' * imU) (t2 : imA = reT' * imU + imT' * reU)
    (p1 : reP = reR * reR + imR * imR) (q1 : reQ = reT' * reT' + imT' * imT') (q2 : imQ = 0)
    (e1 : reXX = α) (e2 : imXX = 0) (f1 : reYY = β) (f2 : imYY = 0)
    (z1 : reZ = reQ * reYY - imQ * imYY) (z2 : imZ = reQ * imYY + imQ * reYY)
    (s1 : reZ = reS * reXX - imS * imXX) (s2 : imZ = reS * imXX + imS * reXX) : reP + reS = 1 ∧ imS = 0 := by
  subst e1 e2 f1 f2 q2
  have V1 : reV = rA := by grind
  have V2 : imV = iB * reYY := by grind
  have W1 : reW = rD * reYY := by grind
  have W2 : imW = iC := by grind
  have K : rA * rD + iB * iC = 1 := by grind
  subst V1 V2 W1 W2
  have X1 : reX = reXX * reV := by grind
  have X2 : imX = reXX * (iB * reYY) := by grind
  subst X1 X2 d1 d2 u1 u2 a1 a2
  have U : (reXX * reV + rD * reYY) * (reXX * reV + rD * reYY) + (reXX * (iB * reYY) + imW) * (reXX * (iB * reYY) + imW) = (reXX * reV - rD * reYY) * (reXX * reV - rD * reYY) + (reXX * (iB * reYY) - imW) * (reXX * (iB * reYY) - imW) + 4 * reXX * reYY := by grind
  have Z1 : reZ = reQ * reYY := by grind
  have Z2 : imZ = 0 := by grind
  have S1 : reS * reXX = reQ * reYY := by grind
  have S2 : imS * reXX = 0 := by grind
  have S3 : imS = 0 := by grind
  refine ⟨?_, S3⟩
  generalize hu : reXX * reV + rD * reYY = a at *
  generalize hv : reXX * (iB * reYY) + imW = b at *
  generalize hd : reXX * reV - rD * reYY = c at *
  generalize he : reXX * (iB * reYY) - imW = d at *
  -- sizes
  have R : reP * (a * a + b * b) = c * c + d * d := by subst p1; rw [r1, r2]; grind
  have T : reQ * (a * a + b * b) = 4 * reXX * reXX := by
    subst q1
    have : (reXX + reXX) * (reXX + reXX) = (reT' * a - imT' * b) * (reT' * a - imT' * b) + (reT' * b + imT' * a) * (reT' * b + imT' * a) := by
      rw [← t1, ← t2]; grind
    grind
  have N : a * a + b * b ≠ 0 := by
    intro e
    rw [e] at T
    have : reXX * reXX = 0 := by grind
    grind
  have SS : reS * (a * a + b * b) = 4 * reXX * reYY := by
    have : reS * (a * a + b * b) * reXX = 4 * reXX * reYY * reXX := by grind
    grind
  have : (reP + reS) * (a * a + b * b) = 1 * (a * a + b * b) := by grind
  grind
/-- Nothing is lost in clear films. -/
theorem powM_clear {ls : List L4} {x1 x3 y1 y3 : Int} {p s z : F3} (hr : ∀ l ∈ ls, l.1.2.1 = 0) (h : powM ls (x1, 0, x3) (y1, 0, y3) = some (p, s)) (k : sT p s = some z) : z = (1, 0, 1) := by
  unfold powM at h
  obtain ⟨r, h1, g1⟩ := Option.bind_eq_some_iff.1 h
  obtain ⟨t, h2, g2⟩ := Option.bind_eq_some_iff.1 g1
  obtain ⟨p', h3, g3⟩ := Option.bind_eq_some_iff.1 g2
  obtain ⟨q, h4, g4⟩ := Option.bind_eq_some_iff.1 g3
  obtain ⟨xx, h5, g5⟩ := Option.bind_eq_some_iff.1 g4
  obtain ⟨yy, h6, g6⟩ := Option.bind_eq_some_iff.1 g5
  obtain ⟨zz, h7, g7⟩ := Option.bind_eq_some_iff.1 g6
  obtain ⟨s', h8, g8⟩ := Option.bind_eq_some_iff.1 g7
  obtain ⟨rfl, rfl⟩ : p' = p ∧ s' = s := by simpa using g8
  clear h g1 g2 g3 g4 g5 g6 g7 g8
  unfold refM at h1
  obtain ⟨⟨x, c⟩, hs, i1⟩ := Option.bind_eq_some_iff.1 h1
  obtain ⟨d, hd, i2⟩ := Option.bind_eq_some_iff.1 i1
  obtain ⟨u, hu, i3⟩ := Option.bind_eq_some_iff.1 i2
  unfold pasM at h2
  rw [hs, Option.bind_some] at h2
  obtain ⟨aa, ha, j1⟩ := Option.bind_eq_some_iff.1 h2
  obtain ⟨u', hu', j2⟩ := Option.bind_eq_some_iff.1 j1
  obtain rfl : u = u' := by
    have e := hu.symm.trans hu'
    exact Option.some.inj e
  clear h1 h2 i1 i2 j1 hu'
  have CORE : ∃ A B C D : F3, ∃ v : F3, dR (A, B, C, D) = 1 ∧ Clr (A, B, C, D) ∧ inT A (1, 0, 1) B (y1, 0, y3) = some v ∧ inT C (1, 0, 1) D (y1, 0, y3) = some c ∧ tT (x1, 0, x3) v = some x ∧ okX (x1, 0, x3) = true ∧ okX (y1, 0, y3) = true := by
    unfold sidM at hs
    split at hs
    · rename_i hk
      obtain ⟨m, hm, k1⟩ := Option.bind_eq_some_iff.1 hs
      obtain ⟨⟨v, w⟩, hv, k2⟩ := Option.bind_eq_some_iff.1 k1
      obtain ⟨x', hx, k3⟩ := Option.bind_eq_some_iff.1 k2
      obtain ⟨rfl, rfl⟩ : x' = x ∧ w = c := by simpa using k3
      unfold flmM at hm
      split at hm
      · obtain ⟨A, B, C, D⟩ := m
        obtain ⟨v1, v2⟩ := appM_some hv
        obtain ⟨b1, b2⟩ := Bool.and_eq_true_iff.1 hk
        exact ⟨A, B, C, D, v, (mulsM_det oneM_det hm).1, mulsM_clr hr ⟨imT_one, reT_zero, reT_zero, imT_one⟩ hm, v1, v2, hx, b1, b2⟩
      · cases hm
    · cases hs
  obtain ⟨A, B, C, D, v, k1, ⟨c1, c2, c3, c4⟩, hv1, hv2, hx, kx, ky⟩ := CORE
  obtain ⟨-, -, -, -, -, v1, v2⟩ := inT_val hv1
  obtain ⟨-, -, -, -, -, w1, w2⟩ := inT_val hv2
  obtain ⟨-, -, -, x1', x2'⟩ := tT_val hx
  obtain ⟨-, -, -, d1, d2⟩ := lT_val hd
  obtain ⟨-, -, -, u1, u2⟩ := sT_val hu
  obtain ⟨oa, -, -, a1, a2⟩ := sT_val ha
  obtain ⟨-, -, -, r1, r2⟩ := oT_val i3
  obtain ⟨-, -, -, t1, t2⟩ := oT_val j2
  obtain ⟨-, -, p1, p2⟩ := powT_val h3
  obtain ⟨-, -, q1, q2⟩ := powT_val h4
  have zx : 1 ≤ x3 := okF_den oa
  have zy : 1 ≤ y3 := okF_den (okX_ok ky)
  obtain ⟨-, e1, e2⟩ := makeT_val h5 zx
  obtain ⟨-, f1, f2⟩ := makeT_val h6 zy
  obtain ⟨-, -, -, z1, z2⟩ := tT_val h7
  obtain ⟨-, -, -, s1, s2⟩ := oT_val h8
  obtain ⟨-, -, o, m1, m2⟩ := sT_val k
  have hxne : rv x1 x3 ≠ 0 := by
    intro e
    have hx0 : x1 = 0 := (rv_is0 zx).1 e
    rw [hx0] at kx
    unfold okX at kx
    simp at kx
  have ia : imT (x1, 0, x3) = 0 := rv_zero x3
  have ib : imT (y1, 0, y3) = 0 := rv_zero y3
  have ra : reT (x1, 0, x3) = rv x1 x3 := rfl
  have rb : reT (y1, 0, y3) = rv y1 y3 := rfl
  unfold dR at k1
  dsimp only at k1 c1 c2 c3 c4
  rw [ia] at x1' x2' a2
  rw [ra] at x1' x2' a1
  rw [reT_one, imT_one, c1, c2, ib, rb] at v1 v2
  rw [reT_one, imT_one, c3, c4, ib, rb] at w1 w2
  rw [c1, c2, c3, c4] at k1
  clear hv1 hv2 hx hd hu ha i3 j2 h3 h4 h5 h6 h7 h8 ia ib ra rb kx ky hs hr
  have hz := clear_core hxne k1 v1 v2 w1 w2 x1' x2' d1 d2 u1 u2 a1 a2 r1 r2 t1 t2 p1 q1 q2 e1 e2 f1 f2 z1 z2 s1 s2
  refine uniqT o okT_one ?_ ?_
  · rw [m1, reT_one]; exact hz.1
  · rw [m2, imT_one, p2, hz.2]; grind
end Go.Proofs.YtpgklllgmfaekaaDoor
