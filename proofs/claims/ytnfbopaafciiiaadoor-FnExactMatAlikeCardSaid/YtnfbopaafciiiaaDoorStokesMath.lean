/-
  The laws of chapter 4 as plain mathematics: squares, light, pure light.
-/
import Derived.Test.YtnfbopaafciiiaaDoorBSpecV
import Derived.Test.YtnfbopaafciiiaaDoorStokesDef
namespace Go.Proofs.YtnfbopaafciiiaaDoor
open Go.ChangeShapes Go.WideShapes Go.ChangeAt Go.RowKit
set_option linter.unusedVariables false

theorem le_rv {x z a c : Int} (hz : 1 ≤ z) (hc : 1 ≤ c) (h : x * c ≤ a * z) : rv x z ≤ rv a c := by
  rcases Rat.le_total (a := rv x z) (b := rv a c) with k | k
  · exact k
  · have k2 := rv_le hc hz k
    rw [(rv_eq hz hc).2 (by omega : x * c = a * z)]
    exact Rat.le_refl
theorem real0 {p q r : Int} (h : okF p q r = true) (e : rv q r = 0) : q = 0 := (rv_is0 (okF_den h)).1 e
theorem times_real {x z a c p q r : Int} (h : timesF x 0 z a 0 c = some (p, q, r)) : okF p q r = true ∧ q = 0 ∧ rv p r = rv x z * rv a c := by
  obtain ⟨_, _, k, e1, e2⟩ := times_val h
  rw [rv_zero, rv_zero] at e1 e2
  exact ⟨k, real0 k (by rw [e2]; grind), by rw [e1]; grind⟩
theorem sum_real {x z a c p q r : Int} (h : sumF 1 x 0 z a 0 c = some (p, q, r)) : okF p q r = true ∧ q = 0 ∧ rv p r = rv x z + rv a c := by
  obtain ⟨_, _, k, e1, e2⟩ := sum_val h
  rw [rv_zero, rv_zero] at e2
  exact ⟨k, real0 k (by rw [e2]; grind), e1⟩
theorem less_val {x y z a b c p q r : Int} (h : sumF (-1) x y z a b c = some (p, q, r)) : okF x y z = true ∧ okF a b c = true ∧ okF p q r = true ∧ rv p r = rv x z - rv a c ∧ rv q r = rv y z - rv b c := by
  obtain ⟨h1, h2, h3, e1, e2⟩ := sum_some h
  obtain ⟨_, _, _, f1, f2⟩ := sum_val (less_back h)
  exact ⟨h1, h2, h3, by grind, by grind⟩
theorem sumO_some {o p : Option (Int × Int × Int)} {r : Int × Int × Int} (h : sumO o p = some r) : ∃ u1 u2 u3 v1 v2 v3, o = some (u1, u2, u3) ∧ p = some (v1, v2, v3) ∧ sumF 1 u1 u2 u3 v1 v2 v3 = some r := by
  cases o with
  | none => simp [sumO] at h
  | some u =>
    cases p with
    | none => simp [sumO] at h
    | some v => exact ⟨_, _, _, _, _, _, rfl, rfl, h⟩
theorem lessO_some {o p : Option (Int × Int × Int)} {r : Int × Int × Int} (h : lessO o p = some r) : ∃ u1 u2 u3 v1 v2 v3, o = some (u1, u2, u3) ∧ p = some (v1, v2, v3) ∧ sumF (-1) u1 u2 u3 v1 v2 v3 = some r := by
  cases o with
  | none => simp [lessO] at h
  | some u =>
    cases p with
    | none => simp [lessO] at h
    | some v => exact ⟨_, _, _, _, _, _, rfl, rfl, h⟩
theorem low_told {x y d : Int} (hd : 1 ≤ d) (hd2 : d ≤ 2000000000) (hx : -2000000000 ≤ x ∧ x ≤ 2000000000) (hy : -2000000000 ≤ y ∧ y ≤ 2000000000) : ∃ p q r, lowF x y d = some (p, q, r) := by
  rw [lowF_eq hd]
  have b1 : (x.tdiv (gcd3 x y d)).natAbs ≤ x.natAbs := by rw [Int.natAbs_tdiv]; exact Nat.div_le_self _ _
  have b2 : (y.tdiv (gcd3 x y d)).natAbs ≤ y.natAbs := by rw [Int.natAbs_tdiv]; exact Nat.div_le_self _ _
  have b3 : d / (gcd3 x y d : Int) ≤ d := Int.ediv_le_self _ (by omega)
  rw [if_pos]
  · exact ⟨_, _, _, rfl⟩
  · unfold partB inB
    simp only [Bool.and_eq_true, decide_eq_true_eq]
    omega
theorem make_val {n d p q r : Int} (hd : 1 ≤ d) (h : makeF (2 * n) 0 d = some (p, q, r)) : okF p q r = true ∧ q = 0 ∧ rv p r = 2 * rv n d := by
  unfold makeF at h
  split at h
  · obtain ⟨k, e1, e2⟩ := (low_iff hd).1 h
    refine ⟨k, real0 k ?_, ?_⟩
    · rw [(rv_eq (okF_den k) hd).2 (show q * d = 0 * r by omega), rv_zero]
    · have n1 := ne0 (okF_den k)
      have n2 := ne0 hd
      have e : (p : Rat) * d = (2 * n) * r := by exact_mod_cast e1
      unfold rv
      grind
  · cases h
theorem squares_val {a1 a2 a3 b1 b2 b3 c1 c2 c3 d1 d2 d3 p q r : Int} (h : squaresF a1 a2 a3 b1 b2 b3 c1 c2 c3 d1 d2 d3 = some (p, q, r)) : sValid a1 a2 a3 b1 b2 b3 c1 c2 c3 d1 d2 d3 = true ∧ okF p q r = true ∧ q = 0 ∧ rv p r = rv b1 b3 * rv b1 b3 + rv c1 c3 * rv c1 c3 + rv d1 d3 * rv d1 d3 := by
  unfold squaresF at h
  split at h
  · rename_i hv
    obtain ⟨_, hb, hc, hd⟩ := sValid_ok hv
    obtain ⟨_, rfl⟩ := realB_ok hb
    obtain ⟨_, rfl⟩ := realB_ok hc
    obtain ⟨_, rfl⟩ := realB_ok hd
    obtain ⟨m1, m2, m3, n1, n2, n3, h3, hd3, e3⟩ := sumO_some h
    obtain ⟨g1, g2, g3, f1, f2, f3, h2, hc3, e2⟩ := sumO_some h3
    obtain ⟨w1, w2, w3, z1, z2, z3, h1, hb3, e1⟩ := sumO_some h2
    obtain ⟨⟩ := h1
    obtain ⟨_, rfl, y1⟩ := times_real hb3
    obtain ⟨_, rfl, y2⟩ := times_real hc3
    obtain ⟨_, rfl, y3⟩ := times_real hd3
    obtain ⟨_, rfl, y4⟩ := sum_real e1
    obtain ⟨_, rfl, y5⟩ := sum_real e2
    obtain ⟨k, rfl, y6⟩ := sum_real e3
    refine ⟨hv, k, rfl, ?_⟩
    rw [y6, y5, y4, y3, y2, y1, rv_zero]
    grind
  · cases h
theorem signI_ge {n : Int} : 0 ≤ signI n ↔ 0 ≤ n := by
  unfold signI
  split
  · omega
  · split <;> omega
theorem signI_is0 {n : Int} : signI n = 0 ↔ n = 0 := by
  unfold signI
  split
  · omega
  · split <;> omega
theorem rest_val {a1 a2 a3 b1 b2 b3 c1 c2 c3 d1 d2 d3 n : Int} (h : restF a1 a2 a3 b1 b2 b3 c1 c2 c3 d1 d2 d3 = some n) : sValid a1 a2 a3 b1 b2 b3 c1 c2 c3 d1 d2 d3 = true ∧ (∃ s, squaresF a1 a2 a3 b1 b2 b3 c1 c2 c3 d1 d2 d3 = some s) ∧ (∃ s, timesF a1 a2 a3 a1 a2 a3 = some s) ∧ (0 ≤ n ↔ rv b1 b3 * rv b1 b3 + rv c1 c3 * rv c1 c3 + rv d1 d3 * rv d1 d3 ≤ rv a1 a3 * rv a1 a3) ∧ (n = 0 ↔ rv a1 a3 * rv a1 a3 = rv b1 b3 * rv b1 b3 + rv c1 c3 * rv c1 c3 + rv d1 d3 * rv d1 d3) := by
  unfold restF at h
  cases hs : squaresF a1 a2 a3 b1 b2 b3 c1 c2 c3 d1 d2 d3 with
  | none => rw [hs] at h; cases h
  | some s =>
    cases ht : timesF a1 a2 a3 a1 a2 a3 with
    | none => rw [hs, ht] at h; cases h
    | some t =>
      rw [hs, ht] at h
      obtain ⟨s1, s2, s3⟩ := s
      obtain ⟨t1, t2, t3⟩ := t
      obtain ⟨hv, ks, rfl, es⟩ := squares_val hs
      obtain ⟨_, rfl⟩ := realB_ok (sValid_ok hv).1
      obtain ⟨kt, rfl, et⟩ := times_real ht
      obtain ⟨_, _, _, _, rfl⟩ := compare_some h
      refine ⟨hv, ⟨_, rfl⟩, ⟨_, rfl⟩, ?_, ?_⟩ <;> dsimp only
      · rw [signI_ge, ← es, ← et]
        constructor
        · intro g
          exact le_rv (okF_den ks) (okF_den kt) (by omega)
        · intro g
          have := rv_le (okF_den ks) (okF_den kt) g
          omega
      · rw [signI_is0, ← es, ← et, rv_eq (okF_den kt) (okF_den ks)]
        omega
theorem rest_of {a1 a2 a3 b1 b2 b3 c1 c2 c3 d1 d2 d3 : Int} {s t : (Int × Int × Int)} (hs : squaresF a1 a2 a3 b1 b2 b3 c1 c2 c3 d1 d2 d3 = some s) (ht : timesF a1 a2 a3 a1 a2 a3 = some t) : ∃ n, restF a1 a2 a3 b1 b2 b3 c1 c2 c3 d1 d2 d3 = some n := by
  obtain ⟨s1, s2, s3⟩ := s
  obtain ⟨t1, t2, t3⟩ := t
  obtain ⟨hv, ks, rfl, es⟩ := squares_val hs
  obtain ⟨_, rfl⟩ := realB_ok (sValid_ok hv).1
  obtain ⟨kt, rfl, et⟩ := times_real ht
  refine ⟨signI (t1 * s3 - s1 * t3), ?_⟩
  unfold restF
  rw [hs, ht]
  simp only [Option.bind_some]
  unfold compareF
  rw [ks, kt]
  simp
theorem light_val {a1 a2 a3 b1 b2 b3 c1 c2 c3 d1 d2 d3 : Int} (h : lightF a1 a2 a3 b1 b2 b3 c1 c2 c3 d1 d2 d3 = true) : sValid a1 a2 a3 b1 b2 b3 c1 c2 c3 d1 d2 d3 = true ∧ (∃ s, squaresF a1 a2 a3 b1 b2 b3 c1 c2 c3 d1 d2 d3 = some s) ∧ (∃ s, timesF a1 a2 a3 a1 a2 a3 = some s) ∧ rv b1 b3 * rv b1 b3 + rv c1 c3 * rv c1 c3 + rv d1 d3 * rv d1 d3 ≤ rv a1 a3 * rv a1 a3 ∧ 0 ≤ rv a1 a3 ∧ 0 ≤ a1 := by
  unfold lightF at h
  simp only [Bool.and_eq_true, decide_eq_true_eq] at h
  obtain ⟨⟨h1, h2⟩, h3⟩ := h
  obtain ⟨n, hn⟩ := Option.isSome_iff_exists.1 h1
  rw [hn] at h2
  obtain ⟨hv, hs, ht, e, _⟩ := rest_val hn
  exact ⟨hv, hs, ht, e.1 h2, (rv_nonneg (okF_den (realB_ok (sValid_ok hv).1).1)).2 h3, h3⟩
theorem light_of {a1 a2 a3 b1 b2 b3 c1 c2 c3 d1 d2 d3 : Int} {s t : (Int × Int × Int)} (hs : squaresF a1 a2 a3 b1 b2 b3 c1 c2 c3 d1 d2 d3 = some s) (ht : timesF a1 a2 a3 a1 a2 a3 = some t) (e : rv b1 b3 * rv b1 b3 + rv c1 c3 * rv c1 c3 + rv d1 d3 * rv d1 d3 ≤ rv a1 a3 * rv a1 a3) (h : 0 ≤ rv a1 a3) : lightF a1 a2 a3 b1 b2 b3 c1 c2 c3 d1 d2 d3 = true := by
  obtain ⟨n, hn⟩ := rest_of hs ht
  obtain ⟨hv, _, _, e1, _⟩ := rest_val hn
  have h3 := (rv_nonneg (okF_den (realB_ok (sValid_ok hv).1).1)).1 h
  unfold lightF
  rw [hn]
  simp only [Option.isSome_some, Option.getD_some, Bool.true_and, Bool.and_eq_true, decide_eq_true_eq]
  exact ⟨e1.2 e, h3⟩
theorem pure_val {a1 a2 a3 b1 b2 b3 c1 c2 c3 d1 d2 d3 : Int} (h : pureF a1 a2 a3 b1 b2 b3 c1 c2 c3 d1 d2 d3 = true) : sValid a1 a2 a3 b1 b2 b3 c1 c2 c3 d1 d2 d3 = true ∧ (∃ s, squaresF a1 a2 a3 b1 b2 b3 c1 c2 c3 d1 d2 d3 = some s) ∧ (∃ s, timesF a1 a2 a3 a1 a2 a3 = some s) ∧ rv a1 a3 * rv a1 a3 = rv b1 b3 * rv b1 b3 + rv c1 c3 * rv c1 c3 + rv d1 d3 * rv d1 d3 ∧ 0 ≤ rv a1 a3 := by
  unfold pureF at h
  simp only [Bool.and_eq_true, decide_eq_true_eq] at h
  obtain ⟨⟨h1, h2⟩, h3⟩ := h
  obtain ⟨n, hn⟩ := Option.isSome_iff_exists.1 h1
  rw [hn] at h2
  obtain ⟨hv, hs, ht, _, e⟩ := rest_val hn
  exact ⟨hv, hs, ht, e.1 h2, (rv_nonneg (okF_den (realB_ok (sValid_ok hv).1).1)).2 h3⟩
theorem pure_of {a1 a2 a3 b1 b2 b3 c1 c2 c3 d1 d2 d3 : Int} {s t : (Int × Int × Int)} (hs : squaresF a1 a2 a3 b1 b2 b3 c1 c2 c3 d1 d2 d3 = some s) (ht : timesF a1 a2 a3 a1 a2 a3 = some t) (e : rv a1 a3 * rv a1 a3 = rv b1 b3 * rv b1 b3 + rv c1 c3 * rv c1 c3 + rv d1 d3 * rv d1 d3) (h : 0 ≤ rv a1 a3) : pureF a1 a2 a3 b1 b2 b3 c1 c2 c3 d1 d2 d3 = true := by
  obtain ⟨n, hn⟩ := rest_of hs ht
  obtain ⟨hv, _, _, _, e1⟩ := rest_val hn
  have h3 := (rv_nonneg (okF_den (realB_ok (sValid_ok hv).1).1)).1 h
  unfold pureF
  rw [hn]
  simp only [Option.isSome_some, Option.getD_some, Bool.true_and, Bool.and_eq_true, decide_eq_true_eq]
  exact ⟨e1.2 e, h3⟩
theorem pure_light {a1 a2 a3 b1 b2 b3 c1 c2 c3 d1 d2 d3 : Int} (h : pureF a1 a2 a3 b1 b2 b3 c1 c2 c3 d1 d2 d3 = true) : lightF a1 a2 a3 b1 b2 b3 c1 c2 c3 d1 d2 d3 = true := by
  obtain ⟨_, ⟨_, hs⟩, ⟨_, ht⟩, e, p⟩ := pure_val h
  refine light_of hs ht ?_ p
  rw [e]; exact Rat.le_refl
end Go.Proofs.YtnfbopaafciiiaaDoor
