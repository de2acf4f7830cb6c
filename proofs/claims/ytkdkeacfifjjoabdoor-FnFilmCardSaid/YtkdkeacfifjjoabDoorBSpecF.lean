/-
  The model's fractions; fractions as plain mathematics.
-/
import Derived.Test.YtkdkeacfifjjoabDoorBMem
namespace Go.Proofs.YtkdkeacfifjjoabDoor
open Go.ChangeShapes Go.WideShapes Go.ChangeAt Go.RowKit
set_option linter.unusedVariables false

set_option maxHeartbeats 1000000 in
theorem specGcd_any (a b : Int) (w : World) (ha : -9000000000000000000 ≤ a ∧ a ≤ 9000000000000000000) (hb : -9000000000000000000 ≤ b ∧ b ≤ 9000000000000000000) :
    Calls Tryd.prog 21 #[.int .i64 a, .int .i64 b] w fun e w' => e = .returned (.int .i64 (Int.gcd a b)) ∧ w = w' := by
  obtain ⟨ha1, ha2⟩ := ha
  obtain ⟨hb1, hb2⟩ := hb
  go_enter Tryd.func21, Tryd.ntmps21
  go_wp2
  go_loop [0, 1, 5] (fun u v _ => ∃ x y : Int, u = .int .i64 x ∧ v = .int .i64 y ∧ -9000000000000000000 ≤ x ∧ x ≤ 9000000000000000000 ∧ -9000000000000000000 ≤ y ∧ y ≤ 9000000000000000000 ∧ Hid (Int.gcd x y = Int.gcd a b)) (fun _ v _ => (intOf v).natAbs)
  case atStart => exact ⟨a, b, rfl, rfl, ha1, ha2, hb1, hb2, Lib.hid rfl⟩
  case round =>
    obtain ⟨x, y, rfl, rfl, hx1, hx2, hy1, hy2, hg⟩ := hrel
    clear ha1 ha2 hb1 hb2
    by_cases h0 : y = 0
    · subst h0
      have hg' := hg.out
      rw [Int.gcd_zero_right] at hg'
      have HG := Lib.hid hg'
      clear hg hg'
      go_wp2
      all_goals
        go_ret
        have hg := HG.out
        exact ⟨ret_int (by omega), rfl⟩
    · have hb := Lib.hid (tmod_bound x y h0)
      go_wp2
      go_round
      case rel =>
        have hb' := hb.out
        have h3 := gcd_step x y
        generalize x.tmod y = r at *
        exact ⟨y, r, rfl, rfl, hy1, hy2, by omega, by omega, Lib.hid (h3.trans hg.out)⟩
      case measure => exact hb.out

/-- Between two bounds. -/
def inB (n low high : Int) : Bool := decide (low ≤ n ∧ n ≤ high)

set_option maxHeartbeats 1000000 in
theorem specIn_any (n low high : Int) (w : World) :
    Calls Tryd.prog 13 #[.int .i64 n, .int .i64 low, .int .i64 high] w fun e w' => e = .returned (.bool (inB n low high)) ∧ w = w' := by
  by_cases h1 : low ≤ n
  · by_cases h2 : n ≤ high
    · have e : inB n low high = true := by simp [inB, h1, h2]
      rw [e]; clear e
      go_enter Tryd.func13, Tryd.ntmps13
      go_wp2
      go_ret
      exact ⟨rfl, rfl⟩
    · have e : inB n low high = false := by simp [inB, h1, h2]
      rw [e]; clear e
      go_enter Tryd.func13, Tryd.ntmps13
      go_wp2
      go_ret
      exact ⟨rfl, rfl⟩
  · have e : inB n low high = false := by simp [inB, h1]
    rw [e]; clear e
    go_enter Tryd.func13, Tryd.ntmps13
    go_wp2
    go_ret
    exact ⟨rfl, rfl⟩

def partB (n : Int) : Bool := inB n (-2000000000) 2000000000
set_option maxHeartbeats 1000000 in
theorem specPart_any (n : Int) (w : World) :
    Calls Tryd.prog 20 #[.int .i64 n] w fun e w' => e = .returned (.bool (partB n)) ∧ w = w' := by
  go_enter Tryd.func20, Tryd.ntmps20
  go_wp2_with fail
  refine (specIn_any n (-2000000000) 2000000000 w).mono ?_
  rintro e w1 ⟨rfl, rfl⟩
  go_wp2_with fail
  go_ret
  exact ⟨rfl, rfl⟩

/-- An exact fraction. -/
def gcd3 (re im den : Int) : Nat := Int.gcd (Int.gcd den re) im
def okF (re im den : Int) : Bool := partB re && partB im && inB den 1 2000000000 && decide (gcd3 re im den = 1)

theorem specPart_of (n : Int) (b : Bool) (h : partB n = b) (w : World) :
    Calls Tryd.prog 20 #[.int .i64 n] w fun e w' => e = .returned (.bool b) ∧ w' = w :=
  (specPart_any n w).mono fun _ _ ⟨a, c⟩ => ⟨by rw [← h]; exact a, c.symm⟩
theorem specIn_of (n low high : Int) (b : Bool) (h : inB n low high = b) (w : World) :
    Calls Tryd.prog 13 #[.int .i64 n, .int .i64 low, .int .i64 high] w fun e w' => e = .returned (.bool b) ∧ w' = w :=
  (specIn_any n low high w).mono fun _ _ ⟨a, c⟩ => ⟨by rw [← h]; exact a, c.symm⟩

theorem specGcd_of (a b : Int) (g : Int) (h : (Int.gcd a b : Int) = g) (ha : -9000000000000000000 ≤ a ∧ a ≤ 9000000000000000000) (hb : -9000000000000000000 ≤ b ∧ b ≤ 9000000000000000000) (w : World) :
    Calls Tryd.prog 21 #[.int .i64 a, .int .i64 b] w fun e w' => e = .returned (.int .i64 g) ∧ w' = w :=
  (specGcd_any a b w ha hb).mono fun _ _ ⟨e, c⟩ => ⟨by rw [← h]; exact e, c.symm⟩
theorem partB_bd {n : Int} (h : partB n = true) : -2000000000 ≤ n ∧ n ≤ 2000000000 := by simpa [partB, inB] using h
theorem inB_bd {n l u : Int} (h : inB n l u = true) : l ≤ n ∧ n ≤ u := by simpa [inB] using h
theorem gcd_le_of {a b : Int} {m : Nat} (ha : 0 < a) (h : a ≤ m) : Int.gcd a b ≤ m := by
  have := Int.gcd_le_natAbs_left b (a := a) (by omega)
  omega

set_option maxHeartbeats 1000000 in
theorem specValid_any (re im den : Int) (w : World) :
    Calls Tryd.prog 12 #[.agg #[.int .i64 re, .int .i64 im, .int .i64 den]] w fun e w' => e = .returned (.bool (okF re im den)) ∧ Below w.heap.size w w' := by
  unfold okF
  cases h1 : partB re with
  | false =>
    have H1 := Lib.hid h1
    clear h1
    go_enter Tryd.func12, Tryd.ntmps12
    go_wp2_with fail
    go_quiet ((first
      | (go_at_call 20; with_reducible exact Calls.quiet_of_same (specPart_of re false H1.out _))))
    go_wp2_with fail
    go_ret
    exact ⟨rfl, ((Below.refl _ _).alloc (Nat.le_refl _) _).trans (bare_drewN _ _ _)⟩
  | true =>
  have H1 := Lib.hid h1
  cases h2 : partB im with
  | false =>
    have H2 := Lib.hid h2
    clear h1 h2
    go_enter Tryd.func12, Tryd.ntmps12
    go_wp2_with fail
    go_quiet ((first
      | (go_at_call 20; with_reducible exact Calls.quiet_of_same (specPart_of re true H1.out _))
      | (go_at_call 20; with_reducible exact Calls.quiet_of_same (specPart_of im false H2.out _))))
    go_wp2_with fail
    go_ret
    exact ⟨rfl, ((Below.refl _ _).alloc (Nat.le_refl _) _).trans (bare_drewN _ _ _)⟩
  | true =>
  have H2 := Lib.hid h2
  cases h3 : inB den 1 2000000000 with
  | false =>
    have H3 := Lib.hid h3
    clear h1 h2 h3
    go_enter Tryd.func12, Tryd.ntmps12
    go_wp2_with fail
    go_quiet ((first
      | (go_at_call 20; with_reducible exact Calls.quiet_of_same (specPart_of re true H1.out _))
      | (go_at_call 20; with_reducible exact Calls.quiet_of_same (specPart_of im true H2.out _))
      | (go_at_call 13; with_reducible exact Calls.quiet_of_same (specIn_of den 1 2000000000 false H3.out _))))
    go_wp2_with fail
    go_ret
    exact ⟨rfl, ((Below.refl _ _).alloc (Nat.le_refl _) _).trans (bare_drewN _ _ _)⟩
  | true =>
    have H3 := Lib.hid h3
    have b1 := partB_bd h1
    have b2 := partB_bd h2
    have b3 := inB_bd h3
    have g1 : Int.gcd den re ≤ 2000000000 := gcd_le_of (by omega) (by omega)
    obtain ⟨g, hg⟩ : ∃ g : Nat, Int.gcd den re = g := ⟨_, rfl⟩
    rw [hg] at g1
    obtain ⟨k, hk⟩ : ∃ k : Nat, Int.gcd g im = k := ⟨_, rfl⟩
    have e3 : gcd3 re im den = k := by unfold gcd3; rw [hg, hk]
    rw [e3]
    have C1 : ∀ w, _ := fun w => specGcd_of den re g (by rw [hg]) (by omega) (by omega) w
    have C2 : ∀ w, _ := fun w => specGcd_of g im k (by rw [hk]) (by omega) (by omega) w
    have D1 := Lib.hid C1
    have D2 := Lib.hid C2
    clear h1 h2 h3 b1 b2 b3 hg hk e3 C1 C2
    by_cases hk1 : k = 1
    · subst hk1
      go_enter Tryd.func12, Tryd.ntmps12
      go_wp2_with fail
      go_quiet ((first
      | (go_at_call 20; with_reducible exact Calls.quiet_of_same (specPart_of re true H1.out _))
      | (go_at_call 20; with_reducible exact Calls.quiet_of_same (specPart_of im true H2.out _))
      | (go_at_call 13; with_reducible exact Calls.quiet_of_same (specIn_of den 1 2000000000 true H3.out _))
      | (go_at_call 21; with_reducible exact Calls.quiet_of_same (D1.out _))
      | (go_at_call 21; with_reducible exact Calls.quiet_of_same (D2.out _))))
      go_wp2_with fail
      go_ret
      exact ⟨rfl, ((Below.refl _ _).alloc (Nat.le_refl _) _).trans (bare_drewN _ _ _)⟩
    · have hk2 : ((k : Int) == 1) = false := by simp; omega
      have hk3 : decide (k = 1) = false := by simp [hk1]
      go_enter Tryd.func12, Tryd.ntmps12
      go_wp2_with fail
      go_quiet ((first
      | (go_at_call 20; with_reducible exact Calls.quiet_of_same (specPart_of re true H1.out _))
      | (go_at_call 20; with_reducible exact Calls.quiet_of_same (specPart_of im true H2.out _))
      | (go_at_call 13; with_reducible exact Calls.quiet_of_same (specIn_of den 1 2000000000 true H3.out _))
      | (go_at_call 21; with_reducible exact Calls.quiet_of_same (D1.out _))
      | (go_at_call 21; with_reducible exact Calls.quiet_of_same (D2.out _))))
      go_wp2_with fail
      go_ret
      exact ⟨by simp [hk3], ((Below.refl _ _).alloc (Nat.le_refl _) _).trans (bare_drewN _ _ _)⟩
theorem mul_bd {a b : Int} {m n : Int} (ha : -m ≤ a ∧ a ≤ m) (hb : -n ≤ b ∧ b ≤ n) (h : 0 ≤ m) (k : 0 ≤ n) : -(m * n) ≤ a * b ∧ a * b ≤ m * n := by
  have h1 : (a * b).natAbs ≤ (m * n).natAbs := by
    rw [Int.natAbs_mul, Int.natAbs_mul]
    exact Nat.mul_le_mul (by omega) (by omega)
  have h2 : 0 ≤ m * n := Int.mul_nonneg h k
  omega
theorem okF_bd {x y z : Int} (h : okF x y z = true) : (-2000000000 ≤ x ∧ x ≤ 2000000000) ∧ (-2000000000 ≤ y ∧ y ≤ 2000000000) ∧ (1 ≤ z ∧ z ≤ 2000000000) := by
  unfold okF at h
  simp only [Bool.and_eq_true] at h
  exact ⟨partB_bd h.1.1.1, partB_bd h.1.1.2, inB_bd h.1.2⟩


def fracV (a b c : Int) : Value := .agg #[.int .i64 a, .int .i64 b, .int .i64 c]
/-- A fraction and true, or the zero value and false. -/
def resV : Option (Int × Int × Int) → Value
  | some (a, b, c) => .tuple #[.agg #[.int .i64 a, .int .i64 b, .int .i64 c], .bool true]
  | none => .tuple #[.agg #[.int .i64 0, .int .i64 0, .int .i64 0], .bool false]
def okR : Option (Int × Int × Int) → Bool := Option.isSome
def partsR : Option (Int × Int × Int) → Int × Int × Int := fun o => o.getD (0, 0, 0)
theorem resV_eq (o : Option (Int × Int × Int)) : resV o = .tuple #[.agg #[.int .i64 (partsR o).1, .int .i64 (partsR o).2.1, .int .i64 (partsR o).2.2], .bool (okR o)] := by
  cases o with
  | none => rfl
  | some v => rfl

def Gave (o : Option (Int × Int × Int)) (w : World) (e : Ending) (w' : World) : Prop := e = .returned (resV o) ∧ Below w.heap.size w w'

def lowF (re im den : Int) : Option (Int × Int × Int) :=
  let g : Int := gcd3 re im den
  if okF (re.tdiv g) (im.tdiv g) (den / g) = true then some (re.tdiv g, im.tdiv g, den / g) else none

theorem gcd3_pos {re im den : Int} (h : 1 ≤ den) : 0 < gcd3 re im den := by
  unfold gcd3
  have h1 : 0 < Int.gcd den re := Int.gcd_pos_of_ne_zero_left _ (by omega)
  exact Int.gcd_pos_of_ne_zero_left _ (by omega)

set_option maxHeartbeats 1000000 in
theorem specLow_any (re im den : Int) (w : World) (h1 : -9000000000000000000 ≤ re ∧ re ≤ 9000000000000000000) (h2 : -9000000000000000000 ≤ im ∧ im ≤ 9000000000000000000) (h3 : 1 ≤ den ∧ den ≤ 9000000000000000000) :
    Calls Tryd.prog 29 #[.int .i64 re, .int .i64 im, .int .i64 den] w (Gave (lowF re im den) w) := by
  obtain ⟨g, hg⟩ : ∃ g : Nat, Int.gcd den re = g := ⟨_, rfl⟩
  obtain ⟨k, hk⟩ : ∃ k : Nat, Int.gcd g im = k := ⟨_, rfl⟩
  have e3 : gcd3 re im den = k := by unfold gcd3; rw [hg, hk]
  have k1 : 0 < k := e3 ▸ gcd3_pos h3.1
  have g1 : g ≤ 9000000000000000000 := hg ▸ gcd_le_of (by omega) (by omega)
  have C1 : ∀ w, _ := fun w => specGcd_of den re g (by rw [hg]) (by omega) (by omega) w
  have C2 : ∀ w, _ := fun w => specGcd_of g im k (by rw [hk]) (by omega) (by omega) w
  have e4 : lowF re im den = if okF (re.tdiv k) (im.tdiv k) (den / k) = true then some (re.tdiv k, im.tdiv k, den / k) else none := by unfold lowF; rw [e3]
  obtain ⟨r, hr⟩ : ∃ r, re.tdiv (k : Int) = r := ⟨_, rfl⟩
  obtain ⟨i, hi⟩ : ∃ i, im.tdiv (k : Int) = i := ⟨_, rfl⟩
  obtain ⟨d, hd⟩ : ∃ d, den / (k : Int) = d := ⟨_, rfl⟩
  rw [hr, hi, hd] at e4
  obtain ⟨o, hoo⟩ : ∃ o, lowF re im den = o := ⟨_, rfl⟩
  rw [hoo] at e4 ⊢
  have D1 := Lib.hid C1
  have D2 := Lib.hid C2
  have E4 := Lib.hid e4
  have HR := Lib.hid hr
  have HI := Lib.hid hi
  have HD := Lib.hid hd
  clear hr hi hd
  clear C1 C2 e3 e4 hg hk hoo
  have hk0 : ((k : Int) == 0) = false := by simp; omega
  go_enter Tryd.func29, Tryd.ntmps29
  go_wp2_with fail
  refine (D1.out _).mono ?_
  rintro e w1 ⟨rfl, rfl⟩
  go_wp2_with fail
  refine (D2.out _).mono ?_
  rintro e w1 ⟨rfl, rfl⟩
  go_wp2_with fail
  go_region
  go_wp2_with fail
  rw [HR.out, HI.out, HD.out]
  refine (specValid_any r i d _).mono ?_
  rintro e w1 ⟨rfl, hb⟩
  obtain ⟨hc, hf⟩ := bcell hb
  have HB := Lib.hid hb
  clear hb
  cases ho : okF r i d with
  | false =>
    have e5 := E4.out
    rw [ho] at e5
    subst e5
    clear ho E4
    go_wp2_with fail
    have c0 : w1.cell? ⟨w.heap.size, 0, none⟩ = some (.int .i64 0) := (hc _ _ (by simp; omega)).trans (by go_simp)
    have c1 : w1.cell? ⟨w.heap.size, 1, none⟩ = some (.int .i64 0) := (hc _ _ (by simp; omega)).trans (by go_simp)
    have c2 : w1.cell? ⟨w.heap.size, 2, none⟩ = some (.int .i64 0) := (hc _ _ (by simp; omega)).trans (by go_simp)
    refine bodyPost_ret (v := .tuple #[.agg #[.int .i64 0, .int .i64 0, .int .i64 0], .bool false]) (by simp [results, Tryd.results29, go_sem, c0, c1, c2]) rfl ⟨rfl, ?_⟩
    exact (((((((Below.refl _ _).alloc (Nat.le_refl _) _).alloc (by simp) _).drew).trans (HB.out.mono (by simp; omega))).setCell (Nat.le_refl _) _).setCell (Nat.le_refl _) _).setCell (Nat.le_refl _) _
  | true =>
    have e5 := E4.out
    rw [ho] at e5
    subst e5
    clear ho E4
    go_wp2_with fail
    have c0 : w1.cell? ⟨w.heap.size, 0, none⟩ = some (.int .i64 0) := (hc _ _ (by simp; omega)).trans (by go_simp)
    have c1 : w1.cell? ⟨w.heap.size, 1, none⟩ = some (.int .i64 0) := (hc _ _ (by simp; omega)).trans (by go_simp)
    have c2 : w1.cell? ⟨w.heap.size, 2, none⟩ = some (.int .i64 0) := (hc _ _ (by simp; omega)).trans (by go_simp)
    refine bodyPost_ret (v := .tuple #[.agg #[.int .i64 r, .int .i64 i, .int .i64 d], .bool true]) (by simp [results, Tryd.results29, go_sem, c0, c1, c2]) rfl ⟨rfl, ?_⟩
    exact (((((((Below.refl _ _).alloc (Nat.le_refl _) _).alloc (by simp) _).drew).trans (HB.out.mono (by simp; omega))).setCell (Nat.le_refl _) _).setCell (Nat.le_refl _) _).setCell (Nat.le_refl _) _

def sumF (s x y z a b c : Int) : Option (Int × Int × Int) :=
  if (okF x y z && okF a b c) = true then lowF (x * c + s * a * z) (y * c + s * b * z) (z * c) else none

def addF (x y z a b c : Int) : Option (Int × Int × Int) := sumF 1 x y z a b c
def lessF (x y z a b c : Int) : Option (Int × Int × Int) := sumF (-1) x y z a b c
def timesF (x y z a b c : Int) : Option (Int × Int × Int) :=
  if (okF x y z && okF a b c) = true then lowF (x * a - y * b) (x * b + y * a) (z * c) else none
def makeF (re im den : Int) : Option (Int × Int × Int) :=
  if (inB den 1 1000000000000000000 && inB re (-1000000000000000000) 1000000000000000000 && inB im (-1000000000000000000) 1000000000000000000) = true then lowF re im den else none
def mirrorF (x y z : Int) : Option (Int × Int × Int) := if okF x y z = true then some (x, -y, z) else none
def powerF (x y z : Int) : Option (Int × Int × Int) := if okF x y z = true then timesF x y z x (-y) z else none
def signI (n : Int) : Int := if n < 0 then -1 else if n = 0 then 0 else 1
/-- An order and true, or 0 and false. -/
def cmpV : Option Int → Value
  | some s => .tuple #[.int .i64 s, .bool true]
  | none => .tuple #[.int .i64 0, .bool false]
def compareF (x y z a b c : Int) : Option Int :=
  if (okF x y z && okF a b c && decide (y = 0) && decide (b = 0)) = true then some (signI (x * c - a * z)) else none
/-- 1 over a fraction. -/
def turnedF (x y z : Int) : Option (Int × Int × Int) :=
  if x * x + y * y = 0 then none else lowF (x * (z / (Int.gcd (x * x + y * y) z : Int))) (-(y * (z / (Int.gcd (x * x + y * y) z : Int)))) ((x * x + y * y) / (Int.gcd (x * x + y * y) z : Int))

theorem sq_bd {x : Int} (h : -2000000000 ≤ x ∧ x ≤ 2000000000) : 0 ≤ x * x ∧ x * x ≤ 4000000000000000000 := by
  have m := mul_bd (a := x) (b := x) (m := 2000000000) (n := 2000000000) (by omega) (by omega) (by omega) (by omega)
  have : 0 ≤ x * x := by
    rcases Int.le_total 0 x with h | h
    · exact Int.mul_nonneg h h
    · exact Int.mul_nonneg_of_nonpos_of_nonpos h h
  omega
theorem sq_pos {x : Int} (h : x ≠ 0) : 0 < x * x := by
  rcases Int.lt_or_gt_of_ne h with h | h
  · exact Int.mul_pos_of_neg_of_neg h h
  · exact Int.mul_pos h h
theorem over_pos {v d : Int} (h1 : 0 < v) (h2 : v ≤ 2000000000) (h3 : d ≤ 2000000000) : d ≤ 4000000000000000000 / v := by
  have : 2000000000 ≤ 4000000000000000000 / v := (Int.le_ediv_iff_mul_le h1).2 (by omega)
  omega
theorem over_neg {v d : Int} (h1 : -2000000000 ≤ v) (h2 : v < 0) (h3 : d ≤ 2000000000) : d ≤ RowKit.wrap64 (-Int.tdiv 4000000000000000000 v) ∧ d ≤ -(4000000000000000000 / v) := by
  obtain ⟨u, rfl⟩ : ∃ u, v = -u := ⟨-v, by omega⟩
  have h := over_pos (v := u) (by omega) (by omega) h3
  have h4 : 4000000000000000000 / u ≤ 4000000000000000000 := Int.ediv_le_self _ (by omega)
  have h5 : 0 ≤ 4000000000000000000 / u := Int.ediv_nonneg (by omega) (by omega)
  rw [Int.tdiv_neg, Int.neg_neg, Int.tdiv_eq_ediv_of_nonneg (by omega), Int.ediv_neg, Int.neg_neg]
  refine ⟨?_, h⟩
  unfold RowKit.wrap64
  omega
theorem big_quo {m d : Int} (h1 : 0 < m) (h2 : m ≤ 2000000000) (h3 : d ≤ 2000000000) : decide (4000000000000000000 / m < d) = false := by
  have : 2000000000 ≤ 4000000000000000000 / m := (Int.le_ediv_iff_mul_le h1).2 (by omega)
  simp only [decide_eq_false_iff_not]
  omega

def overF (x y z a b c : Int) : Option (Int × Int × Int) :=
  if (okF x y z && okF a b c && !(decide (a = 0) && decide (b = 0))) = true then (turnedF a b c).bind fun r => timesF x y z r.1 r.2.1 r.2.2 else none

/-- The wide number of a fraction, its NaN's bits left open (there is none). -/
def Wided (x y z : Int) (w : World) (e : Ending) (w' : World) : Prop :=
  (okF x y z = true → ∃ p q, e = .returned (.tuple #[.complex .f64 p q, .bool true]) ∧ Same p (fop .quo (floatOfInt .f64 x) (floatOfInt .f64 z)) ∧ Same q (fop .quo (floatOfInt .f64 y) (floatOfInt .f64 z))) ∧
  (okF x y z = false → e = .returned (.tuple #[.complex .f64 0 0, .bool false])) ∧ Below w.heap.size w w'
/-- A part of a fraction as a single float. -/
def singleOf (n d : Int) : Nat := (floatToFloatBits .f64 (fop .quo (floatOfInt .f64 n) (floatOfInt .f64 d)) .f32).getD 0
theorem single_told {n d : Int} (hn : -2000000000 ≤ n ∧ n ≤ 2000000000) (hd : 1 ≤ d ∧ d ≤ 2000000000) {p : Nat} (hp : Same p (fop .quo (floatOfInt .f64 n) (floatOfInt .f64 d))) : floatToFloatBits .f64 p .f32 = some (singleOf n d) := by
  obtain ⟨P, hP, s, m, q, e, hb⟩ := quo_small (n := n) (d := d) (by omega) (by omega)
  obtain ⟨r, hr⟩ := narrow_small e hb
  have e1 : fop .quo (floatOfInt .f64 n) (floatOfInt .f64 d) = P := by unfold fop; rw [hP]; rfl
  have e2 : p = P := by
    rw [e1] at hp
    rcases hp with h | ⟨_, h⟩
    · exact h
    · rw [fbits_not_nan hP] at h; cases h
  unfold singleOf
  rw [e1, e2, hr]; rfl

def Singled (x y z : Int) (w : World) (e : Ending) (w' : World) : Prop :=
  (okF x y z = true → e = .returned (.tuple #[.complex .f32 (singleOf x z) (singleOf y z), .bool true])) ∧
  (okF x y z = false → e = .returned (.tuple #[.complex .f32 0 0, .bool false])) ∧ Below w.heap.size w w'

theorem gcd3_nat (re im den : Int) : gcd3 re im den = Nat.gcd (Nat.gcd den.natAbs re.natAbs) im.natAbs := rfl
theorem gcd3_div {re im den : Int} (h : 1 ≤ den) : gcd3 (re.tdiv (gcd3 re im den)) (im.tdiv (gcd3 re im den)) (den / (gcd3 re im den : Int)) = 1 := by
  have hp := gcd3_pos (re := re) (im := im) h
  obtain ⟨g, hg⟩ : ∃ g, gcd3 re im den = g := ⟨_, rfl⟩
  rw [hg] at hp ⊢
  have e := gcd3_nat re im den
  rw [hg] at e
  have d1 : g ∣ Nat.gcd den.natAbs re.natAbs := e ▸ Nat.gcd_dvd_left _ _
  have d2 : g ∣ im.natAbs := e ▸ Nat.gcd_dvd_right _ _
  have d3 : g ∣ den.natAbs := Nat.dvd_trans d1 (Nat.gcd_dvd_left _ _)
  have d4 : g ∣ re.natAbs := Nat.dvd_trans d1 (Nat.gcd_dvd_right _ _)
  rw [gcd3_nat]
  have e3 : (den / (g : Int)).natAbs = den.natAbs / g := by
    obtain ⟨n, rfl⟩ : ∃ n : Nat, den = n := ⟨den.toNat, by omega⟩
    rw [← Int.natCast_ediv, Int.natAbs_natCast, Int.natAbs_natCast]
  have e1 : (re.tdiv (g : Int)).natAbs = re.natAbs / g := by rw [Int.natAbs_tdiv]; rfl
  have e2 : (im.tdiv (g : Int)).natAbs = im.natAbs / g := by rw [Int.natAbs_tdiv]; rfl
  rw [e1, e2, e3, Nat.gcd_div d3 d4, Nat.gcd_div d1 d2, ← e]
  exact Nat.div_self hp

/-- What the program asks of the quotients is what the model asks. -/
theorem lowF_eq {re im den : Int} (h : 1 ≤ den) : lowF re im den =
    if (partB (re.tdiv (gcd3 re im den)) && partB (im.tdiv (gcd3 re im den)) && decide (den / (gcd3 re im den : Int) ≤ 2000000000)) = true
    then some (re.tdiv (gcd3 re im den), im.tdiv (gcd3 re im den), den / (gcd3 re im den : Int)) else none := by
  have h1 := gcd3_div (re := re) (im := im) h
  have hp := gcd3_pos (re := re) (im := im) h
  have h2 : 1 ≤ den / (gcd3 re im den : Int) := by
    have hd : (gcd3 re im den : Int) ∣ den := by
      have : gcd3 re im den ∣ den.natAbs := Nat.dvd_trans (Nat.gcd_dvd_left _ _) (Nat.gcd_dvd_left _ _)
      exact Int.ofNat_dvd_left.2 this
    have := Int.ediv_pos_of_pos_of_dvd (by omega) (by omega) hd
    omega
  unfold lowF
  simp only []
  have e : okF (re.tdiv (gcd3 re im den)) (im.tdiv (gcd3 re im den)) (den / (gcd3 re im den : Int)) = (partB (re.tdiv (gcd3 re im den)) && partB (im.tdiv (gcd3 re im den)) && decide (den / (gcd3 re im den : Int) ≤ 2000000000)) := by
    unfold okF
    rw [h1]
    have : inB (den / (gcd3 re im den : Int)) 1 2000000000 = decide (den / (gcd3 re im den : Int) ≤ 2000000000) := by
      simp [inB, h2]
    rw [this]; simp
  rw [e]

/-- Lowest terms of parts and a bottom of any size. -/
def lowE (re im den : Int) : Option (Int × Int × Int) := if den < 1 then none else lowF re im den

theorem okF_low {x y z : Int} : okF x y z = true ↔ lowE x y z = some (x, y, z) := by
  unfold lowE
  constructor
  · intro h
    have b := (okF_bd h).2.2
    have hg : gcd3 x y z = 1 := by
      unfold okF at h
      simp only [Bool.and_eq_true, decide_eq_true_eq] at h
      exact h.2
    rw [if_neg (by omega)]
    unfold lowF
    simp only [hg, Int.ofNat_one, Int.tdiv_one, Int.ediv_one]
    rw [if_pos h]
  · intro h
    split at h
    · cases h
    · unfold lowF at h
      simp only at h
      split at h
      · rename_i hk
        simp only [Option.some.injEq, Prod.mk.injEq] at h
        obtain ⟨h1, h2, h3⟩ := h
        rw [h1, h2, h3] at hk
        exact hk
      · cases h

theorem lowF_scale {k a b c : Int} (hk : 1 ≤ k) : lowF (k * a) (k * b) (k * c) = lowF a b c := by
  obtain ⟨n, rfl⟩ : ∃ n : Nat, k = n := ⟨k.toNat, by omega⟩
  have hn : 0 < n := by omega
  have e : gcd3 (n * a) (n * b) (n * c) = n * gcd3 a b c := by
    simp only [gcd3_nat, Int.natAbs_mul, Int.natAbs_natCast, Nat.gcd_mul_left]
  have q : ∀ a : Int, (n * a).tdiv ((n * gcd3 a b c : Nat) : Int) = (n * a).tdiv (n * (gcd3 a b c : Int)) := by intro a; simp
  unfold lowF
  simp only [e, Int.natCast_mul]
  rw [Int.mul_tdiv_mul_of_pos _ _ (by omega), Int.mul_tdiv_mul_of_pos _ _ (by omega), Int.mul_ediv_mul_of_pos _ _ (by omega)]

theorem partB_neg (x : Int) : partB (-x) = partB x := by
  unfold partB inB
  rw [decide_eq_decide]
  omega
theorem okF_neg1 (x y z : Int) : okF x (-y) z = okF x y z := by
  unfold okF gcd3
  rw [partB_neg, Int.gcd_neg]
theorem okF_neg2 (x y z : Int) : okF (-x) (-y) z = okF x y z := by
  unfold okF gcd3
  rw [partB_neg, partB_neg, Int.gcd_neg, Int.gcd_neg]

/-- The sum with the opposite. -/
theorem sumF_neg (x y z a b c : Int) : sumF (-1) x y z a b c = sumF 1 x y z (-a) (-b) c := by
  unfold sumF
  rw [okF_neg2]
  simp only [Int.one_mul, Int.neg_one_mul]
theorem sq_zero {x y : Int} (h : x * x + y * y = 0) : x = 0 ∧ y = 0 := by
  have h1 : 0 ≤ x * x := by
    rcases Int.le_total 0 x with h | h
    · exact Int.mul_nonneg h h
    · exact Int.mul_nonneg_of_nonpos_of_nonpos h h
  have h2 : 0 ≤ y * y := by
    rcases Int.le_total 0 y with h | h
    · exact Int.mul_nonneg h h
    · exact Int.mul_nonneg_of_nonpos_of_nonpos h h
  have h3 : x * x = 0 := by omega
  have h4 : y * y = 0 := by omega
  exact ⟨by rcases Int.mul_eq_zero.1 h3 with h | h <;> exact h, by rcases Int.mul_eq_zero.1 h4 with h | h <;> exact h⟩

/-- 1 over a fraction: over the bottom's square at once, or with what is common left out first. -/
theorem turned_eq {x y z : Int} (hz : 1 ≤ z) : lowE (x * z) (-y * z) (x * x + y * y) = turnedF x y z := by
  unfold lowE turnedF
  by_cases h0 : x * x + y * y = 0
  · rw [if_pos (by omega), if_pos h0]
  have h1 : 0 < x * x + y * y := by
    have h1 : 0 ≤ x * x := by
      rcases Int.le_total 0 x with h | h
      · exact Int.mul_nonneg h h
      · exact Int.mul_nonneg_of_nonpos_of_nonpos h h
    have h2 : 0 ≤ y * y := by
      rcases Int.le_total 0 y with h | h
      · exact Int.mul_nonneg h h
      · exact Int.mul_nonneg_of_nonpos_of_nonpos h h
    omega
  rw [if_neg (by omega), if_neg h0]
  obtain ⟨n, hn⟩ : ∃ n, x * x + y * y = n := ⟨_, rfl⟩
  rw [hn] at h1 h0 ⊢
  obtain ⟨g, hg⟩ : ∃ g : Nat, Int.gcd n z = g := ⟨_, rfl⟩
  have hp : 0 < g := hg ▸ Int.gcd_pos_of_ne_zero_left _ (by omega)
  have d1 : (g : Int) ∣ n := hg ▸ Int.gcd_dvd_left ..
  have d2 : (g : Int) ∣ z := hg ▸ Int.gcd_dvd_right ..
  rw [hg]
  have e1 : (g : Int) * (z / g) = z := Int.mul_ediv_cancel' d2
  have e2 : (g : Int) * (n / g) = n := Int.mul_ediv_cancel' d1
  have s := lowF_scale (k := g) (a := x * (z / g)) (b := -(y * (z / g))) (c := n / g) (by omega)
  rw [← s, e2]
  have e3 : (g : Int) * (x * (z / g)) = x * z := by rw [← Int.mul_assoc, Int.mul_comm (g : Int) x, Int.mul_assoc, e1]
  have e4 : (g : Int) * (-(y * (z / g))) = -y * z := by rw [Int.mul_neg, ← Int.mul_assoc, Int.mul_comm (g : Int) y, Int.mul_assoc, e1, Int.neg_mul]
  rw [e3, e4]

theorem power_eq (x y z : Int) : powerF x y z = if okF x y z = true then lowE (x * x + y * y) 0 (z * z) else none := by
  unfold powerF
  by_cases h : okF x y z = true
  · rw [if_pos h, if_pos h]
    have b := (okF_bd h).2.2
    have hz : 1 ≤ z * z := by have := Int.mul_le_mul (a := 1) (b := 1) (c := z) (d := z) (by omega) (by omega) (by omega) (by omega); omega
    unfold timesF lowE
    rw [okF_neg1, h, if_neg (show ¬ z * z < 1 by omega)]
    have e1 : x * x - y * -y = x * x + y * y := by rw [Int.mul_neg]; omega
    have e2 : x * -y + y * x = 0 := by rw [Int.mul_neg, Int.mul_comm y x]; omega
    simp only [Bool.and_self, if_true, e1, e2]
  · rw [if_neg h, if_neg h]
theorem over_eq (x y z a b c : Int) : overF x y z a b c = if okF a b c = true then (lowE (a * c) (-b * c) (a * a + b * b)).bind fun r => timesF x y z r.1 r.2.1 r.2.2 else none := by
  unfold overF
  by_cases h2 : okF a b c = true
  · rw [if_pos h2, turned_eq (okF_bd h2).2.2.1, h2, Bool.and_true]
    by_cases h1 : okF x y z = true
    · rw [h1, Bool.true_and]
      by_cases h0 : a = 0 ∧ b = 0
      · obtain ⟨rfl, rfl⟩ := h0
        simp [turnedF]
      · have h0' : (!(decide (a = 0) && decide (b = 0))) = true := by
          simp only [Bool.not_eq_true', Bool.and_eq_false_iff, decide_eq_false_iff_not]; omega
        rw [if_pos h0']
    · have h1' : okF x y z = false := by simpa using h1
      rw [h1']
      rw [if_neg (by simp)]
      cases turnedF a b c with
      | none => rfl
      | some r => simp [timesF, h1']
  · have h2' : okF a b c = false := by simpa using h2
    rw [h2']
    simp

theorem gcd3_dvd {x y z r : Int} (h : gcd3 x y z = 1) (h1 : z ∣ x * r) (h2 : z ∣ y * r) : z ∣ r := by
  have a1 : z.natAbs ∣ x.natAbs * r.natAbs := by rw [← Int.natAbs_mul]; exact Int.natAbs_dvd_natAbs.2 h1
  have a2 : z.natAbs ∣ y.natAbs * r.natAbs := by rw [← Int.natAbs_mul]; exact Int.natAbs_dvd_natAbs.2 h2
  have a3 : z.natAbs ∣ z.natAbs * r.natAbs := Nat.dvd_mul_right _ _
  have b := Nat.dvd_gcd (Nat.dvd_gcd a3 a1) a2
  rw [Nat.gcd_mul_right, Nat.gcd_mul_right, ← gcd3_nat, h, Nat.one_mul] at b
  exact Int.natAbs_dvd_natAbs.1 b
/-- In lowest terms there is one way to write a fraction. -/
theorem uniq {x y z p q r : Int} (h1 : gcd3 x y z = 1) (h2 : gcd3 p q r = 1) (hz : 1 ≤ z) (hr : 1 ≤ r) (e1 : x * r = p * z) (e2 : y * r = q * z) : (x, y, z) = (p, q, r) := by
  have d1 : z ∣ r := gcd3_dvd h1 (e1 ▸ Int.dvd_mul_left _ _) (e2 ▸ Int.dvd_mul_left _ _)
  have d2 : r ∣ z := gcd3_dvd h2 (e1 ▸ Int.dvd_mul_left _ _) (e2 ▸ Int.dvd_mul_left _ _)
  have d3 : z = r := Int.dvd_antisymm (by omega) (by omega) d1 d2
  subst d3
  have c1 : x = p := Int.eq_of_mul_eq_mul_right (by omega) e1
  have c2 : y = q := Int.eq_of_mul_eq_mul_right (by omega) e2
  rw [c1, c2]
theorem okF_gcd {x y z : Int} (h : okF x y z = true) : gcd3 x y z = 1 := by
  unfold okF at h
  simp only [Bool.and_eq_true, decide_eq_true_eq] at h
  exact h.2
theorem uniqF {x y z p q r : Int} (h1 : okF x y z = true) (h2 : okF p q r = true) (e1 : x * r = p * z) (e2 : y * r = q * z) : (x, y, z) = (p, q, r) :=
  uniq (okF_gcd h1) (okF_gcd h2) (okF_bd h1).2.2.1 (okF_bd h2).2.2.1 e1 e2

theorem gcd3_dvds (x y d : Int) : (gcd3 x y d : Int) ∣ d ∧ (gcd3 x y d : Int) ∣ x ∧ (gcd3 x y d : Int) ∣ y := by
  have e := gcd3_nat x y d
  have d1 : gcd3 x y d ∣ Nat.gcd d.natAbs x.natAbs := e ▸ Nat.gcd_dvd_left _ _
  have d2 : gcd3 x y d ∣ y.natAbs := e ▸ Nat.gcd_dvd_right _ _
  exact ⟨Int.ofNat_dvd_left.2 (Nat.dvd_trans d1 (Nat.gcd_dvd_left _ _)), Int.ofNat_dvd_left.2 (Nat.dvd_trans d1 (Nat.gcd_dvd_right _ _)), Int.ofNat_dvd_left.2 d2⟩
/-- What the lowest terms are. -/
theorem low_parts {x y d : Int} (hd : 1 ≤ d) : ∃ g : Int, 1 ≤ g ∧ x = g * x.tdiv (gcd3 x y d) ∧ y = g * y.tdiv (gcd3 x y d) ∧ d = g * (d / (gcd3 x y d : Int)) ∧ g = gcd3 x y d := by
  obtain ⟨a, b, c⟩ := gcd3_dvds x y d
  have hp := gcd3_pos (re := x) (im := y) hd
  refine ⟨gcd3 x y d, by omega, ?_, ?_, ?_, rfl⟩
  · exact (Int.mul_tdiv_cancel' b).symm
  · exact (Int.mul_tdiv_cancel' c).symm
  · exact (Int.mul_ediv_cancel' a).symm
theorem low_iff {x y d p q r : Int} (hd : 1 ≤ d) : lowF x y d = some (p, q, r) ↔ okF p q r = true ∧ p * d = x * r ∧ q * d = y * r := by
  obtain ⟨g, hg, ex, ey, ed, eg⟩ := low_parts (x := x) (y := y) hd
  have h1 := gcd3_div (re := x) (im := y) hd
  obtain ⟨x', hx'⟩ : ∃ x', x.tdiv (gcd3 x y d) = x' := ⟨_, rfl⟩
  obtain ⟨y', hy'⟩ : ∃ y', y.tdiv (gcd3 x y d) = y' := ⟨_, rfl⟩
  obtain ⟨d', hd'⟩ : ∃ d', d / (gcd3 x y d : Int) = d' := ⟨_, rfl⟩
  have el : lowF x y d = if okF x' y' d' = true then some (x', y', d') else none := by
    unfold lowF
    simp only []
    rw [hx', hy', hd']
  rw [hx'] at ex h1
  rw [hy'] at ey h1
  rw [hd'] at ed h1
  have hd1 : 1 ≤ d' := by
    rcases Int.lt_or_le d' 1 with h | h
    · have : g * d' ≤ 0 := Int.mul_nonpos_of_nonneg_of_nonpos (by omega) (by omega)
      omega
    · exact h
  rw [el]
  clear el eg hx' hy' hd'
  constructor
  · intro h
    split at h
    · rename_i hk
      simp only [Option.some.injEq, Prod.mk.injEq] at h
      obtain ⟨rfl, rfl, rfl⟩ := h
      refine ⟨hk, ?_, ?_⟩
      · rw [ed, ex]; grind
      · rw [ed, ey]; grind
    · cases h
  · rintro ⟨hk, e1, e2⟩
    have b := (okF_bd hk).2.2.1
    have f1 : x' * r = p * d' := Int.eq_of_mul_eq_mul_left (a := g) (by omega) (by rw [ed, ex] at e1; grind)
    have f2 : y' * r = q * d' := Int.eq_of_mul_eq_mul_left (a := g) (by omega) (by rw [ed, ey] at e2; grind)
    have u := uniq h1 (okF_gcd hk) hd1 b f1 f2
    simp only [Prod.mk.injEq] at u
    obtain ⟨rfl, rfl, rfl⟩ := u
    rw [if_pos hk]
theorem mul_pos1 {a b : Int} (ha : 1 ≤ a) (hb : 1 ≤ b) : 1 ≤ a * b := by
  have := Int.mul_le_mul (a := 1) (b := 1) (c := a) (d := b) (by omega) (by omega) (by omega) (by omega)
  omega
theorem sum_some {s x y z a b c p q r : Int} (h : sumF s x y z a b c = some (p, q, r)) :
    okF x y z = true ∧ okF a b c = true ∧ okF p q r = true ∧ p * (z * c) = (x * c + s * a * z) * r ∧ q * (z * c) = (y * c + s * b * z) * r := by
  unfold sumF at h
  split at h
  · rename_i hk
    simp only [Bool.and_eq_true] at hk
    exact ⟨hk.1, hk.2, (low_iff (mul_pos1 (okF_bd hk.1).2.2.1 (okF_bd hk.2).2.2.1)).1 h⟩
  · cases h
theorem sum_of {s x y z a b c p q r : Int} (h1 : okF x y z = true) (h2 : okF a b c = true) (h3 : okF p q r = true) (e1 : p * (z * c) = (x * c + s * a * z) * r) (e2 : q * (z * c) = (y * c + s * b * z) * r) :
    sumF s x y z a b c = some (p, q, r) := by
  unfold sumF
  rw [h1, h2]
  exact (low_iff (mul_pos1 (okF_bd h1).2.2.1 (okF_bd h2).2.2.1)).2 ⟨h3, e1, e2⟩
theorem times_some {x y z a b c p q r : Int} (h : timesF x y z a b c = some (p, q, r)) :
    okF x y z = true ∧ okF a b c = true ∧ okF p q r = true ∧ p * (z * c) = (x * a - y * b) * r ∧ q * (z * c) = (x * b + y * a) * r := by
  unfold timesF at h
  split at h
  · rename_i hk
    simp only [Bool.and_eq_true] at hk
    exact ⟨hk.1, hk.2, (low_iff (mul_pos1 (okF_bd hk.1).2.2.1 (okF_bd hk.2).2.2.1)).1 h⟩
  · cases h
theorem times_of {x y z a b c p q r : Int} (h1 : okF x y z = true) (h2 : okF a b c = true) (h3 : okF p q r = true) (e1 : p * (z * c) = (x * a - y * b) * r) (e2 : q * (z * c) = (x * b + y * a) * r) :
    timesF x y z a b c = some (p, q, r) := by
  unfold timesF
  rw [h1, h2]
  exact (low_iff (mul_pos1 (okF_bd h1).2.2.1 (okF_bd h2).2.2.1)).2 ⟨h3, e1, e2⟩

/-! Sums and differences. -/
theorem sum_comm {x y z a b c p q r : Int} (h : sumF 1 x y z a b c = some (p, q, r)) : sumF 1 a b c x y z = some (p, q, r) := by
  obtain ⟨h1, h2, h3, e1, e2⟩ := sum_some h
  exact sum_of h2 h1 h3 (by grind) (by grind)
theorem sum_back {x y z a b c p q r : Int} (h : sumF 1 x y z a b c = some (p, q, r)) : sumF (-1) p q r a b c = some (x, y, z) := by
  obtain ⟨h1, h2, h3, e1, e2⟩ := sum_some h
  exact sum_of h3 h2 h1 (by grind) (by grind)
theorem less_back {x y z a b c p q r : Int} (h : sumF (-1) x y z a b c = some (p, q, r)) : sumF 1 p q r a b c = some (x, y, z) := by
  obtain ⟨h1, h2, h3, e1, e2⟩ := sum_some h
  exact sum_of h3 h2 h1 (by grind) (by grind)
theorem less_swap {x y z a b c p q r : Int} (h : sumF (-1) x y z a b c = some (p, q, r)) : sumF (-1) a b c x y z = some (-p, -q, r) := by
  obtain ⟨h1, h2, h3, e1, e2⟩ := sum_some h
  exact sum_of h2 h1 (by rw [okF_neg2]; exact h3) (by grind) (by grind)
theorem less_self {x y z : Int} (h : okF x y z = true) : sumF (-1) x y z x y z = some (0, 0, 1) :=
  sum_of h h (by decide) (by grind) (by grind)
/-! Products and quotients. -/
theorem times_comm {x y z a b c p q r : Int} (h : timesF x y z a b c = some (p, q, r)) : timesF a b c x y z = some (p, q, r) := by
  obtain ⟨h1, h2, h3, e1, e2⟩ := times_some h
  exact times_of h2 h1 h3 (by grind) (by grind)
theorem over_some {x y z a b c p q r : Int} (h : overF x y z a b c = some (p, q, r)) :
    okF x y z = true ∧ okF a b c = true ∧ okF p q r = true ∧ 0 < a * a + b * b ∧ p * ((a * a + b * b) * z) = (x * a + y * b) * c * r ∧ q * ((a * a + b * b) * z) = (y * a - x * b) * c * r := by
  rw [over_eq] at h
  split at h
  · rename_i hk
    cases hl : lowE (a * c) (-b * c) (a * a + b * b) with
    | none => rw [hl] at h; cases h
    | some t =>
      obtain ⟨t1, t2, t3⟩ := t
      rw [hl] at h
      simp only [Option.bind_some] at h
      obtain ⟨h1, h2, h3, e1, e2⟩ := times_some h
      unfold lowE at hl
      split at hl
      · cases hl
      · rename_i hn
        obtain ⟨-, e3, e4⟩ := (low_iff (by omega)).1 hl
        have bt := (okF_bd h2).2.2.1
        refine ⟨h1, hk, h3, by omega, ?_, ?_⟩
        · refine Int.eq_of_mul_eq_mul_left (a := t3) (by omega) ?_
          grind
        · refine Int.eq_of_mul_eq_mul_left (a := t3) (by omega) ?_
          grind
  · cases h
theorem times_over {x y z a b c p q r u v t : Int} (h : timesF x y z a b c = some (p, q, r)) (k : overF p q r a b c = some (u, v, t)) : (u, v, t) = (x, y, z) := by
  obtain ⟨h1, h2, h3, e1, e2⟩ := times_some h
  obtain ⟨k1, k2, k3, hn, f1, f2⟩ := over_some k
  have bc := (okF_bd h2).2.2.1
  have br := (okF_bd h3).2.2.1
  refine uniqF k3 h1 ?_ ?_
  · refine Int.eq_of_mul_eq_mul_left (a := (a * a + b * b) * r * c) (Int.ne_of_gt (Int.mul_pos (Int.mul_pos hn (by omega)) (by omega))) ?_
    grind
  · refine Int.eq_of_mul_eq_mul_left (a := (a * a + b * b) * r * c) (Int.ne_of_gt (Int.mul_pos (Int.mul_pos hn (by omega)) (by omega))) ?_
    grind
theorem over_times {x y z a b c p q r u v t : Int} (h : overF x y z a b c = some (p, q, r)) (k : timesF p q r a b c = some (u, v, t)) : (u, v, t) = (x, y, z) := by
  obtain ⟨h1, h2, h3, hn, e1, e2⟩ := over_some h
  obtain ⟨k1, k2, k3, f1, f2⟩ := times_some k
  have bc := (okF_bd h2).2.2.1
  have br := (okF_bd h3).2.2.1
  refine uniqF k3 h1 ?_ ?_
  · refine Int.eq_of_mul_eq_mul_left (a := (a * a + b * b) * r * c) (Int.ne_of_gt (Int.mul_pos (Int.mul_pos hn (by omega)) (by omega))) ?_
    grind
  · refine Int.eq_of_mul_eq_mul_left (a := (a * a + b * b) * r * c) (Int.ne_of_gt (Int.mul_pos (Int.mul_pos hn (by omega)) (by omega))) ?_
    grind
/-! Powers. -/
theorem power_some {x y z p q r : Int} (h : powerF x y z = some (p, q, r)) : okF x y z = true ∧ okF p q r = true ∧ p * (z * z) = (x * x + y * y) * r ∧ q = 0 := by
  rw [power_eq] at h
  split at h
  · rename_i hk
    have bz := (okF_bd hk).2.2.1
    have hz := mul_pos1 bz bz
    unfold lowE at h
    rw [if_neg (by omega)] at h
    obtain ⟨h1, e1, e2⟩ := (low_iff hz).1 h
    refine ⟨hk, h1, e1, ?_⟩
    rw [Int.zero_mul] at e2
    rcases Int.mul_eq_zero.1 e2 with e | e
    · exact e
    · omega
  · cases h
theorem power_times {x y z a b c p q r u v t u' v' t' k l m k' l' m' : Int} (h : timesF x y z a b c = some (p, q, r)) (h1 : powerF x y z = some (u, v, t)) (h2 : powerF a b c = some (u', v', t'))
    (h3 : timesF u v t u' v' t' = some (k, l, m)) (h4 : powerF p q r = some (k', l', m')) : (k, l, m) = (k', l', m') := by
  obtain ⟨o1, o2, o3, e1, e2⟩ := times_some h
  obtain ⟨-, p1, f1, rfl⟩ := power_some h1
  obtain ⟨-, p2, f2, rfl⟩ := power_some h2
  obtain ⟨-, -, p3, g1, g2⟩ := times_some h3
  obtain ⟨-, p4, f4, rfl⟩ := power_some h4
  have bz := (okF_bd o1).2.2.1
  have bc := (okF_bd o2).2.2.1
  have br := (okF_bd o3).2.2.1
  have bt := (okF_bd p1).2.2.1
  have bt' := (okF_bd p2).2.2.1
  have hl : l = 0 := by
    have e : l * (t * t') = 0 := by grind
    rcases Int.mul_eq_zero.1 e with e | e
    · exact e
    · have := mul_pos1 bt bt'; omega
  subst hl
  refine uniqF p3 p4 ?_ (by grind)
  have P := Int.mul_pos (Int.mul_pos (Int.mul_pos (Int.mul_pos (Int.mul_pos (Int.mul_pos (Int.mul_pos (show 0 < t by omega) (show 0 < t' by omega)) (show 0 < r by omega)) (show 0 < r by omega)) (show 0 < z by omega)) (show 0 < z by omega)) (show 0 < c by omega)) (show 0 < c by omega)
  refine Int.eq_of_mul_eq_mul_left (a := t * t' * r * r * z * z * c * c) (Int.ne_of_gt P) ?_
  have s1 : k * m' * (t * t' * r * r * z * z * c * c) = (x * x + y * y) * (a * a + b * b) * t * t' * r * r * m * m' := by
    have : k * (t * t') = u * u' * m := by grind
    calc k * m' * (t * t' * r * r * z * z * c * c) = (k * (t * t')) * m' * r * r * z * z * c * c := by grind
      _ = (u * (z * z)) * (u' * (c * c)) * m * m' * r * r := by rw [this]; grind
      _ = _ := by rw [f1, f2]; grind
  have s2 : k' * m * (t * t' * r * r * z * z * c * c) = (x * x + y * y) * (a * a + b * b) * t * t' * r * r * m * m' := by
    calc k' * m * (t * t' * r * r * z * z * c * c) = (k' * (r * r)) * m * t * t' * z * z * c * c := by grind
      _ = ((p * (z * c)) * (p * (z * c)) + (q * (z * c)) * (q * (z * c))) * m * m' * t * t' := by rw [f4]; grind
      _ = _ := by rw [e1, e2]; grind
  rw [Int.mul_comm _ (k * m'), Int.mul_comm _ (k' * m), s1, s2]
theorem power_mirror {x y z : Int} : powerF x (-y) z = powerF x y z := by
  rw [power_eq, power_eq, okF_neg1]
  have : -y * -y = y * y := by grind
  rw [this]
theorem power_sign {x y z p q r : Int} (h : powerF x y z = some (p, q, r)) : 0 ≤ p ∧ (p = 0 ↔ x = 0 ∧ y = 0) := by
  obtain ⟨h1, h2, e1, -⟩ := power_some h
  have bz := (okF_bd h1).2.2.1
  have br := (okF_bd h2).2.2.1
  have hz := mul_pos1 bz bz
  have s : 0 ≤ x * x + y * y := by
    have a : 0 ≤ x * x := by
      rcases Int.le_total 0 x with h | h
      · exact Int.mul_nonneg h h
      · exact Int.mul_nonneg_of_nonpos_of_nonpos h h
    have b : 0 ≤ y * y := by
      rcases Int.le_total 0 y with h | h
      · exact Int.mul_nonneg h h
      · exact Int.mul_nonneg_of_nonpos_of_nonpos h h
    omega
  have s2 : 0 ≤ (x * x + y * y) * r := Int.mul_nonneg s (by omega)
  constructor
  · rcases Int.lt_or_le p 0 with h | h
    · have := Int.mul_neg_of_neg_of_pos h (show 0 < z * z by omega)
      omega
    · exact h
  · constructor
    · rintro rfl
      rw [Int.zero_mul] at e1
      rcases Int.mul_eq_zero.1 e1.symm with e | e
      · exact sq_zero e
      · omega
    · rintro ⟨rfl, rfl⟩
      have : p * (z * z) = 0 := by rw [e1]; grind
      rcases Int.mul_eq_zero.1 this with e | e
      · exact e
      · omega
/-! Making and mirroring. -/
theorem make_self {x y z : Int} (h : okF x y z = true) : makeF x y z = some (x, y, z) := by
  have b := okF_bd h
  have h1 := okF_low.1 h
  unfold lowE at h1
  rw [if_neg (by omega)] at h1
  unfold makeF inB
  rw [if_pos (by simp only [Bool.and_eq_true, decide_eq_true_eq]; omega)]
  exact h1
theorem make_ok {x y z p q r : Int} (h : makeF x y z = some (p, q, r)) : okF p q r = true := by
  unfold makeF at h
  split at h
  · rename_i hk
    simp only [Bool.and_eq_true] at hk
    exact ((low_iff (inB_bd hk.1.1).1).1 h).1
  · cases h
theorem make_twice {x y z p q r : Int} (h : makeF x y z = some (p, q, r)) {o : Int × Int × Int} (k : makeF (2 * x) (2 * y) (2 * z) = some o) : o = (p, q, r) := by
  unfold makeF at h k
  split at h
  · split at k
    · rw [lowF_scale (by omega), h] at k
      exact (Option.some.inj k).symm
    · cases k
  · cases h
/-! Orders. -/
theorem compare_some {x y z a b c n : Int} (h : compareF x y z a b c = some n) : okF x y z = true ∧ okF a b c = true ∧ y = 0 ∧ b = 0 ∧ n = signI (x * c - a * z) := by
  unfold compareF at h
  split at h
  · rename_i hk
    simp only [Bool.and_eq_true, decide_eq_true_eq] at hk
    exact ⟨hk.1.1.1, hk.1.1.2, hk.1.2, hk.2, (Option.some.inj h).symm⟩
  · cases h
theorem signI_neg (n : Int) : signI (-n) = -signI n := by
  unfold signI
  repeat' split
  all_goals omega
theorem compare_swap {x y z a b c n : Int} (h : compareF x y z a b c = some n) : compareF a b c x y z = some (-n) := by
  obtain ⟨h1, h2, h3, h4, rfl⟩ := compare_some h
  unfold compareF
  rw [h1, h2, h3, h4]
  simp only [Bool.and_self, decide_true, if_true]
  rw [← signI_neg]
  congr 2
  omega
theorem compare_same {x y z a b c n : Int} (h : compareF x y z a b c = some n) : n = 0 ↔ (x, y, z) = (a, b, c) := by
  obtain ⟨h1, h2, rfl, rfl, rfl⟩ := compare_some h
  constructor
  · intro e
    have : x * c - a * z = 0 := by unfold signI at e; split at e <;> (try split at e) <;> omega
    exact uniqF h1 h2 (by omega) (by grind)
  · intro e
    simp only [Prod.mk.injEq] at e
    obtain ⟨rfl, -, rfl⟩ := e
    unfold signI
    rw [if_neg (by omega), if_pos (by omega)]
theorem sign_pos {p n k r : Int} (hk : 0 < k) (hr : 0 < r) (e : p * k = n * r) : signI p = signI n := by
  unfold signI
  have a1 : p < 0 ↔ n < 0 := by
    constructor
    · intro h
      have := Int.mul_neg_of_neg_of_pos h hk
      rcases Int.lt_or_le n 0 with g | g
      · exact g
      · have := Int.mul_nonneg g (Int.le_of_lt hr); omega
    · intro h
      have := Int.mul_neg_of_neg_of_pos h hr
      rcases Int.lt_or_le p 0 with g | g
      · exact g
      · have := Int.mul_nonneg g (Int.le_of_lt hk); omega
  have a2 : p = 0 ↔ n = 0 := by
    constructor
    · rintro rfl
      rw [Int.zero_mul] at e
      rcases Int.mul_eq_zero.1 e.symm with e | e <;> omega
    · rintro rfl
      rw [Int.zero_mul] at e
      rcases Int.mul_eq_zero.1 e with e | e <;> omega
  split <;> split <;> (try split) <;> (try split) <;> omega
theorem compare_less {x y z a b c n p q r : Int} (h : compareF x y z a b c = some n) (k : sumF (-1) x y z a b c = some (p, q, r)) : signI p = n := by
  obtain ⟨h1, h2, rfl, rfl, rfl⟩ := compare_some h
  obtain ⟨-, -, h3, e1, -⟩ := sum_some k
  have bz := (okF_bd h1).2.2.1
  have bc := (okF_bd h2).2.2.1
  have br := (okF_bd h3).2.2.1
  refine sign_pos (k := z * c) (r := r) (Int.mul_pos (by omega) (by omega)) (by omega) ?_
  grind

/-- A part over a bottom, as a rational number. -/
def rv (x z : Int) : Rat := (x : Rat) / (z : Rat)
theorem ne0 {z : Int} (h : 1 ≤ z) : (z : Rat) ≠ 0 := by
  intro e
  have : z = 0 := by exact_mod_cast e
  omega
theorem rv_eq {x z p r : Int} (hz : 1 ≤ z) (hr : 1 ≤ r) : rv x z = rv p r ↔ x * r = p * z := by
  have h1 := ne0 hz
  have h2 := ne0 hr
  unfold rv
  constructor
  · intro h
    have : (x : Rat) * r = p * z := by grind
    exact_mod_cast this
  · intro h
    have : (x : Rat) * r = p * z := by exact_mod_cast h
    grind
theorem rv_neg (x z : Int) : rv (-x) z = -rv x z := by
  unfold rv
  have : ((-x : Int) : Rat) = -(x : Rat) := by exact_mod_cast rfl
  rw [this]
  grind
theorem rv_zero (z : Int) : rv 0 z = 0 := by
  unfold rv
  have : ((0 : Int) : Rat) = 0 := by exact_mod_cast rfl
  rw [this]
  grind
theorem rv_one (x : Int) : rv x 1 = (x : Rat) := by
  unfold rv
  have : ((1 : Int) : Rat) = 1 := by exact_mod_cast rfl
  rw [this]
  grind
theorem okF_den {x y z : Int} (h : okF x y z = true) : 1 ≤ z := (okF_bd h).2.2.1
theorem uniqV {x y z p q r : Int} (h1 : okF x y z = true) (h2 : okF p q r = true) (e1 : rv x z = rv p r) (e2 : rv y z = rv q r) : (x, y, z) = (p, q, r) :=
  uniqF h1 h2 ((rv_eq (okF_den h1) (okF_den h2)).1 e1) ((rv_eq (okF_den h1) (okF_den h2)).1 e2)
theorem times_val {x y z a b c p q r : Int} (h : timesF x y z a b c = some (p, q, r)) :
    okF x y z = true ∧ okF a b c = true ∧ okF p q r = true ∧ rv p r = rv x z * rv a c - rv y z * rv b c ∧ rv q r = rv x z * rv b c + rv y z * rv a c := by
  obtain ⟨h1, h2, h3, e1, e2⟩ := times_some h
  refine ⟨h1, h2, h3, ?_, ?_⟩
  all_goals
    have hz := ne0 (okF_den h1)
    have hc := ne0 (okF_den h2)
    have hr := ne0 (okF_den h3)
    unfold rv
  · have : (p : Rat) * (z * c) = (x * a - y * b) * r := by exact_mod_cast e1
    grind
  · have : (q : Rat) * (z * c) = (x * b + y * a) * r := by exact_mod_cast e2
    grind
theorem times_ofV {x y z a b c p q r : Int} (h1 : okF x y z = true) (h2 : okF a b c = true) (h3 : okF p q r = true) (e1 : rv p r = rv x z * rv a c - rv y z * rv b c) (e2 : rv q r = rv x z * rv b c + rv y z * rv a c) : timesF x y z a b c = some (p, q, r) := by
  have hz := ne0 (okF_den h1)
  have hc := ne0 (okF_den h2)
  have hr := ne0 (okF_den h3)
  unfold rv at e1 e2
  refine times_of h1 h2 h3 ?_ ?_
  · have : (p : Rat) * (z * c) = (x * a - y * b) * r := by grind
    exact_mod_cast this
  · have : (q : Rat) * (z * c) = (x * b + y * a) * r := by grind
    exact_mod_cast this
theorem sum_val {x y z a b c p q r : Int} (h : sumF 1 x y z a b c = some (p, q, r)) :
    okF x y z = true ∧ okF a b c = true ∧ okF p q r = true ∧ rv p r = rv x z + rv a c ∧ rv q r = rv y z + rv b c := by
  obtain ⟨h1, h2, h3, e1, e2⟩ := sum_some h
  refine ⟨h1, h2, h3, ?_, ?_⟩
  all_goals
    have hz := ne0 (okF_den h1)
    have hc := ne0 (okF_den h2)
    have hr := ne0 (okF_den h3)
    unfold rv
  · have : (p : Rat) * (z * c) = (x * c + 1 * a * z) * r := by exact_mod_cast e1
    grind
  · have : (q : Rat) * (z * c) = (y * c + 1 * b * z) * r := by exact_mod_cast e2
    grind
theorem sum_ofV {x y z a b c p q r : Int} (h1 : okF x y z = true) (h2 : okF a b c = true) (h3 : okF p q r = true) (e1 : rv p r = rv x z + rv a c) (e2 : rv q r = rv y z + rv b c) : sumF 1 x y z a b c = some (p, q, r) := by
  have hz := ne0 (okF_den h1)
  have hc := ne0 (okF_den h2)
  have hr := ne0 (okF_den h3)
  unfold rv at e1 e2
  refine sum_of h1 h2 h3 ?_ ?_
  · have : (p : Rat) * (z * c) = (x * c + 1 * a * z) * r := by grind
    exact_mod_cast this
  · have : (q : Rat) * (z * c) = (y * c + 1 * b * z) * r := by grind
    exact_mod_cast this
theorem power_val {x y z p q r : Int} (h : powerF x y z = some (p, q, r)) :
    okF x y z = true ∧ okF p q r = true ∧ rv p r = rv x z * rv x z + rv y z * rv y z ∧ rv q r = 0 ∧ q = 0 := by
  obtain ⟨h1, h2, e1, rfl⟩ := power_some h
  have hz := ne0 (okF_den h1)
  have hr := ne0 (okF_den h2)
  refine ⟨h1, h2, ?_, rv_zero _, rfl⟩
  have : (p : Rat) * (z * z) = (x * x + y * y) * r := by exact_mod_cast e1
  unfold rv
  grind
theorem mirror_val {x y z u v t : Int} (h : mirrorF x y z = some (u, v, t)) : okF x y z = true ∧ okF u v t = true ∧ rv u t = rv x z ∧ rv v t = -rv y z ∧ u = x ∧ v = -y ∧ t = z := by
  unfold mirrorF at h
  split at h
  · rename_i hk
    cases h
    exact ⟨hk, by rw [okF_neg1]; exact hk, rfl, rv_neg _ _, rfl, rfl, rfl⟩
  · cases h
theorem rv_nonneg {p r : Int} (hr : 1 ≤ r) : 0 ≤ rv p r ↔ 0 ≤ p := by
  have hr' : (0 : Rat) < (r : Rat) := by
    have : (0 : Int) < r := by omega
    exact_mod_cast this
  unfold rv
  constructor
  · intro h
    have h2 : (0 : Rat) ≤ (p : Rat) / r * r := Rat.mul_nonneg h (Rat.le_of_lt hr')
    have h3 : (p : Rat) / r * r = p := by have := ne0 hr; grind
    rw [h3] at h2
    exact_mod_cast h2
  · intro h
    have h2 : (0 : Rat) ≤ (p : Rat) := by exact_mod_cast h
    rw [Rat.div_def]
    exact Rat.mul_nonneg h2 (Rat.le_of_lt (Rat.inv_pos.2 hr'))
theorem sq_nonneg (a : Rat) : 0 ≤ a * a := by
  rcases (show 0 ≤ a ∨ a ≤ 0 by grind) with h | h
  · exact Rat.mul_nonneg h h
  · have h1 : 0 ≤ -a := by grind
    have := Rat.mul_nonneg h1 h1
    grind

theorem narrow_num {x : Nat} {s : Bool} {m : Nat} {p : Int} (e : Ieee.double.read x = .number s m p) (h : m = 0 ∨ p + m.log2 ≤ 34) : ∃ r, floatToFloatBits .f64 x .f32 = some r ∧ isNk .f32 r = false := by
  have hw : Ieee.single.signWeight = 2 ^ 31 := by decide +kernel
  have hb : Ieee.single.binade = 2 ^ 23 := by decide +kernel
  have hi : Ieee.single.infRung = 255 * 2 ^ 23 := by decide +kernel
  have hl : Ieee.single.leastPlace = -149 := by decide +kernel
  have hf : Ieee.single.fractionBits = 23 := rfl
  have e' : FloatKind.f64.decode x = .number s m p := e
  have hr : ∃ r, FloatKind.f32.encode (.number s m p) = Ieee.single.word s r ∧ r < Ieee.single.infRung := by
    show ∃ r, Ieee.single.nearest s m p = Ieee.single.word s r ∧ r < Ieee.single.infRung
    by_cases h0 : m = 0
    · exact ⟨0, by unfold Ieee.Format.nearest; rw [if_pos h0], by rw [hi]; decide⟩
    · obtain ⟨r, e1, _, h2⟩ := nearest_rung Ieee.single s m p h0
      refine ⟨r, e1, ?_⟩
      rw [hl, hb, hf] at h2
      have h3 : p + m.log2 ≤ 34 := by rcases h with h | h; · exact absurd h h0
                                      · exact h
      have h4 : (max (p + (m.log2 : Int) - (23 : Nat)) (-149) - (-149)).toNat ≤ 160 := by omega
      have h5 := Nat.mul_le_mul_right (2 ^ 23) h4
      omega
  obtain ⟨r, e1, h1⟩ := hr
  refine ⟨FloatKind.f32.encode (.number s m p), ?_, ?_⟩
  · unfold floatToFloatBits
    rw [if_neg (by decide), e']
    simp only
    rw [if_neg]
    rw [e1]
    show ¬ (Ieee.single.read (Ieee.single.word s r)).isInfinity = true
    unfold Ieee.Format.read
    simp only [word_mod Ieee.single s r (by omega)]
    split
    · simp [Ieee.Datum.isInfinity]
    · simp [Ieee.Datum.isInfinity]
  · rw [e1]
    show (Ieee.single.read (Ieee.single.word s r)).isNaN = false
    unfold Ieee.Format.read
    simp only [word_mod Ieee.single s r (by omega)]
    split
    · simp [Ieee.Datum.isNaN]
    · simp [Ieee.Datum.isNaN]
/-- A part of a fraction as a wide float; its single float as a wide one. -/
def wideF (n d : Int) : Nat := fop .quo (floatOfInt .f64 n) (floatOfInt .f64 d)
def backF (n d : Int) : Nat := (floatToFloatBits .f32 (singleOf n d) .f64).getD 0
theorem wide_told {n d : Int} (hn : -2000000000 ≤ n ∧ n ≤ 2000000000) (hd : 1 ≤ d ∧ d ≤ 2000000000) {p : Nat} (hp : Same p (fop .quo (floatOfInt .f64 n) (floatOfInt .f64 d))) : p = wideF n d := by
  obtain ⟨P, hP, s, m, q, e, hb⟩ := quo_small (n := n) (d := d) (by omega) (by omega)
  have e1 : fop .quo (floatOfInt .f64 n) (floatOfInt .f64 d) = P := by unfold fop; rw [hP]; rfl
  unfold wideF
  rw [e1] at hp ⊢
  rcases hp with h | ⟨_, h⟩
  · exact h
  · rw [fbits_not_nan hP] at h; cases h
theorem wide_num {n d : Int} (hn : -2000000000 ≤ n ∧ n ≤ 2000000000) (hd : 1 ≤ d ∧ d ≤ 2000000000) : ∃ s m q, Ieee.double.read (wideF n d) = .number s m q ∧ (m = 0 ∨ q + m.log2 ≤ 34) := by
  obtain ⟨P, hP, s, m, q, e, hb⟩ := quo_small (n := n) (d := d) (by omega) (by omega)
  have e1 : wideF n d = P := by unfold wideF fop; rw [hP]; rfl
  rw [e1]
  exact ⟨s, m, q, e, hb⟩
theorem single_back {n d : Int} (hn : -2000000000 ≤ n ∧ n ≤ 2000000000) (hd : 1 ≤ d ∧ d ≤ 2000000000) : floatToFloatBits .f64 (wideF n d) .f32 = some (singleOf n d) ∧ floatToFloatBits .f32 (singleOf n d) .f64 = some (backF n d) := by
  obtain ⟨s, m, q, e, hb⟩ := wide_num hn hd
  obtain ⟨r, h1, h2⟩ := narrow_num e hb
  have hs : singleOf n d = r := by unfold singleOf; rw [show fop .quo (floatOfInt .f64 n) (floatOfInt .f64 d) = wideF n d from rfl, h1]; rfl
  refine ⟨by rw [hs]; exact h1, ?_⟩
  rcases widen_some (singleOf n d) with h | h
  · rw [hs, h2] at h; cases h
  · obtain ⟨b, hb⟩ := Option.isSome_iff_exists.1 h
    unfold backF
    rw [hb]; rfl
/-- A wide number that is the same when it is converted to a single one and back. -/
def fits1 (x y z : Int) : Bool := FloatKind.f64.format.order (backF x z) (wideF x z) == some .eq && FloatKind.f64.format.order (backF y z) (wideF y z) == some .eq
theorem order_flip (a b : Nat) : (FloatKind.f64.format.order a b == some .eq) = (FloatKind.f64.format.order b a == some .eq) := by
  rw [Bool.eq_iff_iff, beq_iff_eq, beq_iff_eq]
  exact ⟨order_eq_symm, order_eq_symm⟩
theorem fits1_flip (x y z : Int) : (FloatKind.f64.format.order (wideF x z) (backF x z) == some .eq && FloatKind.f64.format.order (wideF y z) (backF y z) == some .eq) = fits1 x y z := by
  unfold fits1
  rw [order_flip (wideF x z), order_flip (wideF y z)]
theorem back_conv {x y z : Int} (h : okF x y z = true) (P : Program) (s d : TypeId) (hs : (P.underlying s).isSome = true) (hd : P.underlying d = some (.complex .f32)) (w : World) : (convert s d (.complex .f64 (wideF x z) (wideF y z))).run P w = .ok (.complex .f32 (singleOf x z) (singleOf y z)) w := by
  obtain ⟨bx, by', bz⟩ := okF_bd h
  exact run_convert_complex w s d .f64 .f32 _ _ _ _ hs hd (by simp [cConvBits, (single_back bx bz).1, (single_back by' bz).1])
theorem forth_conv {x y z : Int} (h : okF x y z = true) (P : Program) (s d : TypeId) (hs : (P.underlying s).isSome = true) (hd : P.underlying d = some (.complex .f64)) (w : World) : (convert s d (.complex .f32 (singleOf x z) (singleOf y z))).run P w = .ok (.complex .f64 (backF x z) (backF y z)) w := by
  obtain ⟨bx, by', bz⟩ := okF_bd h
  exact run_convert_complex w s d .f32 .f64 _ _ _ _ hs hd (by simp [cConvBits, (single_back bx bz).2, (single_back by' bz).2])
def fitsF (x1 x2 x3 y1 y2 y3 : Int) : Bool := okF x1 x2 x3 && okF y1 y2 y3 && fits1 x1 x2 x3 && fits1 y1 y2 y3

theorem nearest_word (f : Ieee.Format) (m : Nat) (p : Int) : ∃ r, (∀ neg, f.nearest neg m p = f.word neg r) ∧ r ≤ f.infRung := by
  by_cases h : m = 0
  · exact ⟨0, fun neg => by unfold Ieee.Format.nearest; rw [if_pos h], Nat.zero_le _⟩
  · exact ⟨min (((max (p + m.log2 - f.fractionBits) f.leastPlace) - f.leastPlace).toNat * f.binade + Ieee.Toward.even.cut false (m <<< (p - max (p + m.log2 - f.fractionBits) f.leastPlace).toNat) (max (p + m.log2 - f.fractionBits) f.leastPlace - p).toNat) f.infRung,
      fun neg => by unfold Ieee.Format.nearest; rw [if_neg h]; rfl, Nat.min_le_right _ _⟩
theorem word_sign (f : Ieee.Format) (neg : Bool) (r : Nat) (h : r < f.signWeight) : (f.word neg r / f.signWeight % 2 == 1) = neg := by
  unfold Ieee.Format.word
  cases neg
  · simp only [Bool.false_eq_true, if_false]
    rw [Nat.div_eq_of_lt h]
    rfl
  · simp only [if_true]
    rw [Nat.add_div_left _ (by omega), Nat.div_eq_of_lt h]
    rfl
theorem read_word (f : Ieee.Format) (hs : f.infRung < f.signWeight) {r : Nat} (hr : r < f.infRung) : ∃ m p, ∀ neg, f.read (f.word neg r) = .number neg m p := by
  by_cases hb : r < f.binade
  · refine ⟨r, f.leastPlace, fun neg => ?_⟩
    unfold Ieee.Format.read
    simp only [word_mod f neg r (by omega), word_sign f neg r (by omega)]
    rw [if_pos hb]
  · refine ⟨f.binade + r % f.binade, f.leastPlace + (r / f.binade - 1 : Nat), fun neg => ?_⟩
    unfold Ieee.Format.read
    simp only [word_mod f neg r (by omega), word_sign f neg r (by omega)]
    rw [if_neg hb, if_pos hr]
theorem read_inf (f : Ieee.Format) (hs : f.infRung < f.signWeight) (hb : f.binade ≤ f.infRung) (neg : Bool) : f.read (f.word neg f.infRung) = .infinity neg := by
  unfold Ieee.Format.read
  simp only [word_mod f neg f.infRung hs, word_sign f neg f.infRung hs]
  rw [if_neg (by omega), if_neg (by omega)]
  simp
theorem double_ok : Ieee.double.infRung < Ieee.double.signWeight ∧ Ieee.double.binade ≤ Ieee.double.infRung := by decide +kernel
theorem single_ok : Ieee.single.infRung < Ieee.single.signWeight ∧ Ieee.single.binade ≤ Ieee.single.infRung := by decide +kernel
/-- The word of a number is told apart from infinity. -/
theorem rung_lt {f : Ieee.Format} (hs : f.infRung < f.signWeight ∧ f.binade ≤ f.infRung) {r : Nat} (h : r ≤ f.infRung) {neg s : Bool} {m : Nat} {p : Int} (e : f.read (f.word neg r) = .number s m p) : r < f.infRung := by
  rcases Nat.lt_or_ge r f.infRung with h1 | h1
  · exact h1
  · have : r = f.infRung := by omega
    rw [this, read_inf f hs.1 hs.2] at e
    cases e
/-- A conversion of a number: the nearest word, no infinity. -/
theorem conv_word {s k : FloatKind} (hsk : s ≠ k) (hk : k.format.infRung < k.format.signWeight ∧ k.format.binade ≤ k.format.infRung) {x r n m : Nat} {neg : Bool} {p : Int} (e : s.format.read x = .number neg m p) (h : floatToFloatBits s x k = some r) (hn : ∀ neg, k.format.nearest neg m p = k.format.word neg n) (hn' : n ≤ k.format.infRung) : r = k.format.word neg n ∧ n < k.format.infRung := by
  have e' : s.decode x = .number neg m p := e
  unfold floatToFloatBits at h
  rw [if_neg hsk, e'] at h
  simp only at h
  split at h
  · cases h
  · rename_i hi
    cases h
    have hw : k.encode (.number neg m p) = k.format.word neg n := hn neg
    refine ⟨hw, ?_⟩
    rw [hw] at hi
    rcases Nat.lt_or_ge n k.format.infRung with h1 | h1
    · exact h1
    · have : n = k.format.infRung := by omega
      have hi' : ¬ (k.format.read (k.format.word neg n)).isInfinity = true := hi
      rw [this, read_inf k.format hk.1 hk.2] at hi'
      exact absurd rfl hi'
theorem signed_eq {s : Bool} {a b u v : Nat} : Ieee.signed s a u = Ieee.signed s b v ↔ a <<< u = b <<< v := by
  unfold Ieee.signed
  cases s
  · simp only [Bool.false_eq_true, if_false]
    omega
  · simp only [if_true]
    omega
theorem fits_abs (a : Nat) (d : Int) (ha : a ≤ 2000000000) (hd : 1 ≤ d ∧ d ≤ 2000000000) : ∃ k : Bool, ∀ n : Int, n.natAbs = a → (FloatKind.f64.format.order (backF n d) (wideF n d) == some .eq) = k := by
  obtain ⟨r0, h0, g0⟩ := nearest_word Ieee.double a 0
  have F0 : ∀ n : Int, n.natAbs = a → floatOfInt .f64 n = Ieee.double.word (n < 0) r0 := fun n hn => by
    show Ieee.double.nearest (n < 0) n.natAbs 0 = _
    rw [hn]; exact h0 _
  obtain ⟨s0, m0', p0', e0', _⟩ := int_small (n := (a : Int)) (by omega)
  rw [F0 _ (by simp)] at e0'
  obtain ⟨m0, p0, R0⟩ := read_word Ieee.double double_ok.1 (rung_lt double_ok g0 e0')
  obtain ⟨rd, hdn, gd⟩ := nearest_word Ieee.double d.natAbs 0
  have Fd : floatOfInt .f64 d = Ieee.double.word false rd := by
    show Ieee.double.nearest (d < 0) d.natAbs 0 = _
    rw [show decide (d < 0) = false by simp; omega]; exact hdn _
  obtain ⟨sd, md', pd', ed', nd', _, _⟩ := int_least (d := d) (by omega)
  rw [Fd] at ed'
  obtain ⟨md, pd, Rd0⟩ := read_word Ieee.double double_ok.1 (rung_lt double_ok gd ed')
  have nd : md ≠ 0 := by
    rw [Rd0] at ed'
    cases ed'
    exact nd'
  obtain ⟨r1, h1, g1⟩ := nearest_word Ieee.double (2 * ((m0 <<< (54 + md.log2 - m0.log2)) / md) + ((m0 <<< (54 + md.log2 - m0.log2)) % md != 0).toNat) (p0 - pd - (54 + md.log2 - m0.log2 : Nat) - 1)
  have FW : ∀ n : Int, n.natAbs = a → wideF n d = Ieee.double.word (n < 0) r1 := fun n hn => by
    have hq : floatBits .quo .f64 (floatOfInt .f64 n) (floatOfInt .f64 d) = some (Ieee.double.nearest ((n < 0) ^^ false)
        (2 * ((m0 <<< (54 + md.log2 - m0.log2)) / md) + ((m0 <<< (54 + md.log2 - m0.log2)) % md != 0).toNat) (p0 - pd - (54 + md.log2 - m0.log2 : Nat) - 1)) := by
      show ((Ieee.double.read (floatOfInt .f64 n)).quotient (Ieee.double.fractionBits + 2) (Ieee.double.read (floatOfInt .f64 d))).map Ieee.double.write = _
      rw [F0 n hn, Fd, R0, Rd0]
      simp only [Ieee.Datum.quotient, if_neg nd]
      rfl
    unfold wideF fop
    rw [hq, Bool.xor_false, h1]
    rfl
  obtain ⟨sw, mw, pw, ew, _⟩ := wide_num (n := (a : Int)) (d := d) (by omega) hd
  rw [FW _ (by simp)] at ew
  obtain ⟨m1, p1, R1⟩ := read_word Ieee.double double_ok.1 (rung_lt double_ok g1 ew)
  obtain ⟨r2, h2, g2⟩ := nearest_word Ieee.single m1 p1
  have FS : ∀ n : Int, n.natAbs = a → singleOf n d = Ieee.single.word (n < 0) r2 ∧ r2 < Ieee.single.infRung := fun n hn => by
    have hb := (single_back (n := n) (d := d) (by omega) hd).1
    rw [FW n hn] at hb
    exact conv_word (s := .f64) (k := .f32) (by decide) single_ok (R1 _) hb h2 g2
  obtain ⟨m2, p2, R2⟩ := read_word Ieee.single single_ok.1 (FS _ (Int.natAbs_natCast a)).2
  obtain ⟨r3, h3, g3⟩ := nearest_word Ieee.double m2 p2
  have FB : ∀ n : Int, n.natAbs = a → backF n d = Ieee.double.word (n < 0) r3 ∧ r3 < Ieee.double.infRung := fun n hn => by
    have hb := (single_back (n := n) (d := d) (by omega) hd).2
    rw [(FS n hn).1] at hb
    exact conv_word (s := .f32) (k := .f64) (by decide) double_ok (R2 _) hb h3 g3
  obtain ⟨m3, p3, R3⟩ := read_word Ieee.double double_ok.1 (FB _ (Int.natAbs_natCast a)).2
  refine ⟨decide (m3 <<< (p3 - min p3 p1).toNat = m1 <<< (p1 - min p3 p1).toNat), fun n hn => ?_⟩
  have ho : FloatKind.f64.format.order (backF n d) (wideF n d) = some (compare (Ieee.signed (n < 0) m3 (p3 - min p3 p1).toNat) (Ieee.signed (n < 0) m1 (p1 - min p3 p1).toNat)) := by
    show (Ieee.double.read (backF n d)).order (Ieee.double.read (wideF n d)) = _
    rw [(FB n hn).1, FW n hn, R3, R1]
    rfl
  rw [ho, Bool.eq_iff_iff, beq_iff_eq, decide_eq_true_iff, ← signed_eq (s := decide (n < 0))]
  simp only [Option.some.injEq]
  exact Int.compare_eq_eq
theorem fits_neg {n d : Int} (hn : -2000000000 ≤ n ∧ n ≤ 2000000000) (hd : 1 ≤ d ∧ d ≤ 2000000000) : (FloatKind.f64.format.order (backF (-n) d) (wideF (-n) d) == some .eq) = (FloatKind.f64.format.order (backF n d) (wideF n d) == some .eq) := by
  obtain ⟨k, h⟩ := fits_abs n.natAbs d (by omega) hd
  rw [h n rfl, h (-n) (by omega)]
theorem fits1_negx {x y z : Int} (h : okF x y z = true) : fits1 (-x) y z = fits1 x y z := by
  obtain ⟨bx, by', bz⟩ := okF_bd h
  unfold fits1
  rw [fits_neg bx bz]
theorem fits1_negy {x y z : Int} (h : okF x y z = true) : fits1 x (-y) z = fits1 x y z := by
  obtain ⟨bx, by', bz⟩ := okF_bd h
  unfold fits1
  rw [fits_neg by' bz]
end Go.Proofs.YtkdkeacfifjjoabDoor
