/-
  The model's fractions; fractions as plain mathematics.
-/
import Derived.Test.YtkdkeacfifjjoabGreatDoorBMem
namespace Go.Proofs.YtkdkeacfifjjoabGreatDoor
open Go.ChangeShapes Go.WideShapes Go.ChangeAt Go.RowKit
set_option linter.unusedVariables false

set_option maxHeartbeats 1000000 in
theorem specGcd_any (a b : Int) (w : World) (ha : -9000000000000000000 ≤ a ∧ a ≤ 9000000000000000000) (hb : -9000000000000000000 ≤ b ∧ b ≤ 9000000000000000000) :
    Calls Tryz.prog 135 #[.int .i64 a, .int .i64 b] w fun e w' => e = .returned (.int .i64 (Int.gcd a b)) ∧ w = w' := by
  obtain ⟨ha1, ha2⟩ := ha
  obtain ⟨hb1, hb2⟩ := hb
  go_enter Tryz.func135, Tryz.ntmps135
  go_wp2
  go_loop [0, 1, 5] (fun u v _ => ∃ x y : Int, u = .int .i64 x ∧ v = .int .i64 y ∧ -9000000000000000000 ≤ x ∧ x ≤ 9000000000000000000 ∧ -9000000000000000000 ≤ y ∧ y ≤ 9000000000000000000 ∧ Hid (Int.gcd x y = Int.gcd a b)) (fun _ v _ => (intOf v).natAbs)
  case atStart => exact ⟨a, b, rfl, rfl, ha1, ha2, hb1, hb2, Lib.hid rfl⟩
  case round =>
    obtain ⟨x, y, rfl, rfl, hx1, hx2, hy1, hy2, hg⟩ := hrel
    clear ha1 ha2 hb1 hb2
    by_cases h0 : y = 0
    · subst h0
      have hg' := hg.out
      rw [Int.gcd_zero_right] at hg'
      have HG := Lib.hid hg'
      clear hg hg'
      go_wp2
      all_goals
        go_ret
        have hg := HG.out
        exact ⟨ret_int (by omega), rfl⟩
    · have hb := Lib.hid (tmod_bound x y h0)
      go_wp2
      go_round
      case rel =>
        have hb' := hb.out
        have h3 := gcd_step x y
        generalize x.tmod y = r at *
        exact ⟨y, r, rfl, rfl, hy1, hy2, by omega, by omega, Lib.hid (h3.trans hg.out)⟩
      case measure => exact hb.out

/-- Between two bounds. -/
def inB (n low high : Int) : Bool := decide (low ≤ n ∧ n ≤ high)

set_option maxHeartbeats 1000000 in
theorem specIn_any (n low high : Int) (w : World) :
    Calls Tryz.prog 84 #[.int .i64 n, .int .i64 low, .int .i64 high] w fun e w' => e = .returned (.bool (inB n low high)) ∧ w = w' := by
  by_cases h1 : low ≤ n
  · by_cases h2 : n ≤ high
    · have e : inB n low high = true := by simp [inB, h1, h2]
      rw [e]; clear e
      go_enter Tryz.func84, Tryz.ntmps84
      go_wp2
      go_ret
      exact ⟨rfl, rfl⟩
    · have e : inB n low high = false := by simp [inB, h1, h2]
      rw [e]; clear e
      go_enter Tryz.func84, Tryz.ntmps84
      go_wp2
      go_ret
      exact ⟨rfl, rfl⟩
  · have e : inB n low high = false := by simp [inB, h1]
    rw [e]; clear e
    go_enter Tryz.func84, Tryz.ntmps84
    go_wp2
    go_ret
    exact ⟨rfl, rfl⟩

def partB (n : Int) : Bool := inB n (-2000000000) 2000000000
set_option maxHeartbeats 1000000 in
theorem specPart_any (n : Int) (w : World) :
    Calls Tryz.prog 134 #[.int .i64 n] w fun e w' => e = .returned (.bool (partB n)) ∧ w = w' := by
  go_enter Tryz.func134, Tryz.ntmps134
  go_wp2_with fail
  refine (specIn_any n (-2000000000) 2000000000 w).mono ?_
  rintro e w1 ⟨rfl, rfl⟩
  go_wp2_with fail
  go_ret
  exact ⟨rfl, rfl⟩

/-- An exact fraction. -/
def gcd3 (re im den : Int) : Nat := Int.gcd (Int.gcd den re) im
def okF (re im den : Int) : Bool := partB re && partB im && inB den 1 2000000000 && decide (gcd3 re im den = 1)

theorem specPart_of (n : Int) (b : Bool) (h : partB n = b) (w : World) :
    Calls Tryz.prog 134 #[.int .i64 n] w fun e w' => e = .returned (.bool b) ∧ w' = w :=
  (specPart_any n w).mono fun _ _ ⟨a, c⟩ => ⟨by rw [← h]; exact a, c.symm⟩
theorem specIn_of (n low high : Int) (b : Bool) (h : inB n low high = b) (w : World) :
    Calls Tryz.prog 84 #[.int .i64 n, .int .i64 low, .int .i64 high] w fun e w' => e = .returned (.bool b) ∧ w' = w :=
  (specIn_any n low high w).mono fun _ _ ⟨a, c⟩ => ⟨by rw [← h]; exact a, c.symm⟩

theorem specGcd_of (a b : Int) (g : Int) (h : (Int.gcd a b : Int) = g) (ha : -9000000000000000000 ≤ a ∧ a ≤ 9000000000000000000) (hb : -9000000000000000000 ≤ b ∧ b ≤ 9000000000000000000) (w : World) :
    Calls Tryz.prog 135 #[.int .i64 a, .int .i64 b] w fun e w' => e = .returned (.int .i64 g) ∧ w' = w :=
  (specGcd_any a b w ha hb).mono fun _ _ ⟨e, c⟩ => ⟨by rw [← h]; exact e, c.symm⟩
theorem partB_bd {n : Int} (h : partB n = true) : -2000000000 ≤ n ∧ n ≤ 2000000000 := by simpa [partB, inB] using h
theorem inB_bd {n l u : Int} (h : inB n l u = true) : l ≤ n ∧ n ≤ u := by simpa [inB] using h
theorem gcd_le_of {a b : Int} {m : Nat} (ha : 0 < a) (h : a ≤ m) : Int.gcd a b ≤ m := by
  have := Int.gcd_le_natAbs_left b (a := a) (by omega)
  omega

set_option maxHeartbeats 1000000 in
theorem specValid_any (re im den : Int) (w : World) :
    Calls Tryz.prog 108 #[.agg #[.int .i64 re, .int .i64 im, .int .i64 den]] w fun e w' => e = .returned (.bool (okF re im den)) ∧ Below w.heap.size w w' := by
  unfold okF
  cases h1 : partB re with
  | false =>
    have H1 := Lib.hid h1
    clear h1
    go_enter Tryz.func108, Tryz.ntmps108
    go_wp2_with fail
    go_quiet ((first
      | (go_at_call 134; with_reducible exact Calls.quiet_of_same (specPart_of re false H1.out _))))
    go_wp2_with fail
    go_ret
    exact ⟨rfl, ((Below.refl _ _).alloc (Nat.le_refl _) _).trans (bare_drewN _ _ _)⟩
  | true =>
  have H1 := Lib.hid h1
  cases h2 : partB im with
  | false =>
    have H2 := Lib.hid h2
    clear h1 h2
    go_enter Tryz.func108, Tryz.ntmps108
    go_wp2_with fail
    go_quiet ((first
      | (go_at_call 134; with_reducible exact Calls.quiet_of_same (specPart_of re true H1.out _))
      | (go_at_call 134; with_reducible exact Calls.quiet_of_same (specPart_of im false H2.out _))))
    go_wp2_with fail
    go_ret
    exact ⟨rfl, ((Below.refl _ _).alloc (Nat.le_refl _) _).trans (bare_drewN _ _ _)⟩
  | true =>
  have H2 := Lib.hid h2
  cases h3 : inB den 1 2000000000 with
  | false =>
    have H3 := Lib.hid h3
    clear h1 h2 h3
    go_enter Tryz.func108, Tryz.ntmps108
    go_wp2_with fail
    go_quiet ((first
      | (go_at_call 134; with_reducible exact Calls.quiet_of_same (specPart_of re true H1.out _))
      | (go_at_call 134; with_reducible exact Calls.quiet_of_same (specPart_of im true H2.out _))
      | (go_at_call 84; with_reducible exact Calls.quiet_of_same (specIn_of den 1 2000000000 false H3.out _))))
    go_wp2_with fail
    go_ret
    exact ⟨rfl, ((Below.refl _ _).alloc (Nat.le_refl _) _).trans (bare_drewN _ _ _)⟩
  | true =>
    have H3 := Lib.hid h3
    have b1 := partB_bd h1
    have b2 := partB_bd h2
    have b3 := inB_bd h3
    have g1 : Int.gcd den re ≤ 2000000000 := gcd_le_of (by omega) (by omega)
    obtain ⟨g, hg⟩ : ∃ g : Nat, Int.gcd den re = g := ⟨_, rfl⟩
    rw [hg] at g1
    obtain ⟨k, hk⟩ : ∃ k : Nat, Int.gcd g im = k := ⟨_, rfl⟩
    have e3 : gcd3 re im den = k := by unfold gcd3; rw [hg, hk]
    rw [e3]
    have C1 : ∀ w, _ := fun w => specGcd_of den re g (by rw [hg]) (by omega) (by omega) w
    have C2 : ∀ w, _ := fun w => specGcd_of g im k (by rw [hk]) (by omega) (by omega) w
    have D1 := Lib.hid C1
    have D2 := Lib.hid C2
    clear h1 h2 h3 b1 b2 b3 hg hk e3 C1 C2
    by_cases hk1 : k = 1
    · subst hk1
      go_enter Tryz.func108, Tryz.ntmps108
      go_wp2_with fail
      go_quiet ((first
      | (go_at_call 134; with_reducible exact Calls.quiet_of_same (specPart_of re true H1.out _))
      | (go_at_call 134; with_reducible exact Calls.quiet_of_same (specPart_of im true H2.out _))
      | (go_at_call 84; with_reducible exact Calls.quiet_of_same (specIn_of den 1 2000000000 true H3.out _))
      | (go_at_call 135; with_reducible exact Calls.quiet_of_same (D1.out _))
      | (go_at_call 135; with_reducible exact Calls.quiet_of_same (D2.out _))))
      go_wp2_with fail
      go_ret
      exact ⟨rfl, ((Below.refl _ _).alloc (Nat.le_refl _) _).trans (bare_drewN _ _ _)⟩
    · have hk2 : ((k : Int) == 1) = false := by simp; omega
      have hk3 : decide (k = 1) = false := by simp [hk1]
      go_enter Tryz.func108, Tryz.ntmps108
      go_wp2_with fail
      go_quiet ((first
      | (go_at_call 134; with_reducible exact Calls.quiet_of_same (specPart_of re true H1.out _))
      | (go_at_call 134; with_reducible exact Calls.quiet_of_same (specPart_of im true H2.out _))
      | (go_at_call 84; with_reducible exact Calls.quiet_of_same (specIn_of den 1 2000000000 true H3.out _))
      | (go_at_call 135; with_reducible exact Calls.quiet_of_same (D1.out _))
      | (go_at_call 135; with_reducible exact Calls.quiet_of_same (D2.out _))))
      go_wp2_with fail
      go_ret
      exact ⟨by simp [hk3], ((Below.refl _ _).alloc (Nat.le_refl _) _).trans (bare_drewN _ _ _)⟩
theorem mul_bd {a b : Int} {m n : Int} (ha : -m ≤ a ∧ a ≤ m) (hb : -n ≤ b ∧ b ≤ n) (h : 0 ≤ m) (k : 0 ≤ n) : -(m * n) ≤ a * b ∧ a * b ≤ m * n := by
  have h1 : (a * b).natAbs ≤ (m * n).natAbs := by
    rw [Int.natAbs_mul, Int.natAbs_mul]
    exact Nat.mul_le_mul (by omega) (by omega)
  have h2 : 0 ≤ m * n := Int.mul_nonneg h k
  omega
theorem okF_bd {x y z : Int} (h : okF x y z = true) : (-2000000000 ≤ x ∧ x ≤ 2000000000) ∧ (-2000000000 ≤ y ∧ y ≤ 2000000000) ∧ (1 ≤ z ∧ z ≤ 2000000000) := by
  unfold okF at h
  simp only [Bool.and_eq_true] at h
  exact ⟨partB_bd h.1.1.1, partB_bd h.1.1.2, inB_bd h.1.2⟩


/-- A fraction and true, or the zero value and false. -/
def resV : Option (Int × Int × Int) → Value
  | some (a, b, c) => .tuple #[.agg #[.int .i64 a, .int .i64 b, .int .i64 c], .bool true]
  | none => .tuple #[.agg #[.int .i64 0, .int .i64 0, .int .i64 0], .bool false]
def okR : Option (Int × Int × Int) → Bool := Option.isSome
def partsR : Option (Int × Int × Int) → Int × Int × Int := fun o => o.getD (0, 0, 0)
theorem resV_eq (o : Option (Int × Int × Int)) : resV o = .tuple #[.agg #[.int .i64 (partsR o).1, .int .i64 (partsR o).2.1, .int .i64 (partsR o).2.2], .bool (okR o)] := by
  cases o with
  | none => rfl
  | some v => rfl

def Gave (o : Option (Int × Int × Int)) (w : World) (e : Ending) (w' : World) : Prop := e = .returned (resV o) ∧ Below w.heap.size w w'

def lowF (re im den : Int) : Option (Int × Int × Int) :=
  let g : Int := gcd3 re im den
  if okF (re.tdiv g) (im.tdiv g) (den / g) = true then some (re.tdiv g, im.tdiv g, den / g) else none

theorem gcd3_pos {re im den : Int} (h : 1 ≤ den) : 0 < gcd3 re im den := by
  unfold gcd3
  have h1 : 0 < Int.gcd den re := Int.gcd_pos_of_ne_zero_left _ (by omega)
  exact Int.gcd_pos_of_ne_zero_left _ (by omega)

set_option maxHeartbeats 1000000 in
theorem specLow_any (re im den : Int) (w : World) (h1 : -9000000000000000000 ≤ re ∧ re ≤ 9000000000000000000) (h2 : -9000000000000000000 ≤ im ∧ im ≤ 9000000000000000000) (h3 : 1 ≤ den ∧ den ≤ 9000000000000000000) :
    Calls Tryz.prog 109 #[.int .i64 re, .int .i64 im, .int .i64 den] w (Gave (lowF re im den) w) := by
  obtain ⟨g, hg⟩ : ∃ g : Nat, Int.gcd den re = g := ⟨_, rfl⟩
  obtain ⟨k, hk⟩ : ∃ k : Nat, Int.gcd g im = k := ⟨_, rfl⟩
  have e3 : gcd3 re im den = k := by unfold gcd3; rw [hg, hk]
  have k1 : 0 < k := e3 ▸ gcd3_pos h3.1
  have g1 : g ≤ 9000000000000000000 := hg ▸ gcd_le_of (by omega) (by omega)
  have C1 : ∀ w, _ := fun w => specGcd_of den re g (by rw [hg]) (by omega) (by omega) w
  have C2 : ∀ w, _ := fun w => specGcd_of g im k (by rw [hk]) (by omega) (by omega) w
  have e4 : lowF re im den = if okF (re.tdiv k) (im.tdiv k) (den / k) = true then some (re.tdiv k, im.tdiv k, den / k) else none := by unfold lowF; rw [e3]
  obtain ⟨r, hr⟩ : ∃ r, re.tdiv (k : Int) = r := ⟨_, rfl⟩
  obtain ⟨i, hi⟩ : ∃ i, im.tdiv (k : Int) = i := ⟨_, rfl⟩
  obtain ⟨d, hd⟩ : ∃ d, den / (k : Int) = d := ⟨_, rfl⟩
  rw [hr, hi, hd] at e4
  obtain ⟨o, hoo⟩ : ∃ o, lowF re im den = o := ⟨_, rfl⟩
  rw [hoo] at e4 ⊢
  have D1 := Lib.hid C1
  have D2 := Lib.hid C2
  have E4 := Lib.hid e4
  have HR := Lib.hid hr
  have HI := Lib.hid hi
  have HD := Lib.hid hd
  clear hr hi hd
  clear C1 C2 e3 e4 hg hk hoo
  have hk0 : ((k : Int) == 0) = false := by simp; omega
  go_enter Tryz.func109, Tryz.ntmps109
  go_wp2_with fail
  refine (D1.out _).mono ?_
  rintro e w1 ⟨rfl, rfl⟩
  go_wp2_with fail
  refine (D2.out _).mono ?_
  rintro e w1 ⟨rfl, rfl⟩
  go_wp2_with fail
  go_region
  go_wp2_with fail
  rw [HR.out, HI.out, HD.out]
  refine (specValid_any r i d _).mono ?_
  rintro e w1 ⟨rfl, hb⟩
  obtain ⟨hc, hf⟩ := bcell hb
  have HB := Lib.hid hb
  clear hb
  cases ho : okF r i d with
  | false =>
    have e5 := E4.out
    rw [ho] at e5
    subst e5
    clear ho E4
    go_wp2_with fail
    have c0 : w1.cell? ⟨w.heap.size, 0, none⟩ = some (.int .i64 0) := (hc _ _ (by simp; omega)).trans (by go_simp)
    have c1 : w1.cell? ⟨w.heap.size, 1, none⟩ = some (.int .i64 0) := (hc _ _ (by simp; omega)).trans (by go_simp)
    have c2 : w1.cell? ⟨w.heap.size, 2, none⟩ = some (.int .i64 0) := (hc _ _ (by simp; omega)).trans (by go_simp)
    refine bodyPost_ret (v := .tuple #[.agg #[.int .i64 0, .int .i64 0, .int .i64 0], .bool false]) (by simp [results, Tryz.results109, go_sem, c0, c1, c2]) rfl ⟨rfl, ?_⟩
    exact (((((((Below.refl _ _).alloc (Nat.le_refl _) _).alloc (by simp) _).drew).trans (HB.out.mono (by simp; omega))).setCell (Nat.le_refl _) _).setCell (Nat.le_refl _) _).setCell (Nat.le_refl _) _
  | true =>
    have e5 := E4.out
    rw [ho] at e5
    subst e5
    clear ho E4
    go_wp2_with fail
    have c0 : w1.cell? ⟨w.heap.size, 0, none⟩ = some (.int .i64 0) := (hc _ _ (by simp; omega)).trans (by go_simp)
    have c1 : w1.cell? ⟨w.heap.size, 1, none⟩ = some (.int .i64 0) := (hc _ _ (by simp; omega)).trans (by go_simp)
    have c2 : w1.cell? ⟨w.heap.size, 2, none⟩ = some (.int .i64 0) := (hc _ _ (by simp; omega)).trans (by go_simp)
    refine bodyPost_ret (v := .tuple #[.agg #[.int .i64 r, .int .i64 i, .int .i64 d], .bool true]) (by simp [results, Tryz.results109, go_sem, c0, c1, c2]) rfl ⟨rfl, ?_⟩
    exact (((((((Below.refl _ _).alloc (Nat.le_refl _) _).alloc (by simp) _).drew).trans (HB.out.mono (by simp; omega))).setCell (Nat.le_refl _) _).setCell (Nat.le_refl _) _).setCell (Nat.le_refl _) _

def sumF (s x y z a b c : Int) : Option (Int × Int × Int) :=
  if (okF x y z && okF a b c) = true then lowF (x * c + s * a * z) (y * c + s * b * z) (z * c) else none

set_option maxHeartbeats 1000000 in
theorem specSum_any (s x y z a b c : Int) (w : World) (hs : s = 1 ∨ s = -1) :
    Calls Tryz.prog 136 #[.agg #[.int .i64 x, .int .i64 y, .int .i64 z], .int .i64 s, .agg #[.int .i64 a, .int .i64 b, .int .i64 c]] w (Gave (sumF s x y z a b c) w) := by
  cases h1 : okF x y z with
  | false =>
    have e : sumF s x y z a b c = none := by unfold sumF; rw [h1]; rfl
    rw [e]
    have H1 := Lib.hid h1
    clear h1 e
    go_enter Tryz.func136, Tryz.ntmps136
    go_wp2_with fail
    refine (specValid_any x y z _).mono ?_
    rw [H1.out]
    rintro e w1 ⟨rfl, hb⟩
    obtain ⟨q00, q01, q02⟩ := keep3 hb (b := w.heap.size) (x := .int .i64 x) (y := .int .i64 y) (z := .int .i64 z) (by go_simp)
    obtain ⟨q10, q11, q12⟩ := keep3 hb (b := w.heap.size + 1) (x := .int .i64 a) (y := .int .i64 b) (z := .int .i64 c) (by go_simp)
    obtain ⟨r0, r1, r2⟩ := keep3 hb (b := w.heap.size + 1 + 1) (x := .int .i64 0) (y := .int .i64 0) (z := .int .i64 0) (by go_simp)
    have kz : w.heap.size + 1 + 1 < w1.heap.size := World.block_lt_of_cell? _ _ r0
    obtain ⟨f0, f1, f2⟩ := keepf3 hb (b := w.heap.size + 1 + 1) (by go_simp) (by go_simp)
    have haw1 : Acc w w1 := by
      refine Acc.call ?_ hb
      (repeat' (first | assumption | exact Acc.refl _ | refine Acc.drew ?_ | refine Acc.alloc ?_ _ | refine Acc.setCell ?_ (by omega) _))
    clear hb
    go_wp2_with fail
    refine bodyPost_ret (v := .tuple #[.agg #[.int .i64 0, .int .i64 0, .int .i64 0], .bool false]) (by simp [results, Tryz.results136, go_sem, r0, r1, r2]) rfl ⟨rfl, ?_⟩
    show Acc w _
    (repeat' (first | assumption | exact Acc.refl _ | refine Acc.drew ?_ | refine Acc.alloc ?_ _ | refine Acc.setCell ?_ (by omega) _))
  | true =>
    obtain ⟨⟨x0, x1⟩, ⟨y0, y1⟩, ⟨z0, z1⟩⟩ := okF_bd h1
    have H1 := Lib.hid h1
    clear h1
    cases h2 : okF a b c with
    | false =>
      have e : sumF s x y z a b c = none := by unfold sumF; rw [h2, Bool.and_false]; rfl
      rw [e]
      have H2 := Lib.hid h2
      clear h2 e
      go_enter Tryz.func136, Tryz.ntmps136
      go_wp2_with fail
      refine (specValid_any x y z _).mono ?_
      rw [H1.out]
      rintro e w1 ⟨rfl, hb⟩
      obtain ⟨q00, q01, q02⟩ := keep3 hb (b := w.heap.size) (x := .int .i64 x) (y := .int .i64 y) (z := .int .i64 z) (by go_simp)
      obtain ⟨q10, q11, q12⟩ := keep3 hb (b := w.heap.size + 1) (x := .int .i64 a) (y := .int .i64 b) (z := .int .i64 c) (by go_simp)
      obtain ⟨r0, r1, r2⟩ := keep3 hb (b := w.heap.size + 1 + 1) (x := .int .i64 0) (y := .int .i64 0) (z := .int .i64 0) (by go_simp)
      have kz : w.heap.size + 1 + 1 < w1.heap.size := World.block_lt_of_cell? _ _ r0
      obtain ⟨f0, f1, f2⟩ := keepf3 hb (b := w.heap.size + 1 + 1) (by go_simp) (by go_simp)
      have haw1 : Acc w w1 := by
        refine Acc.call ?_ hb
        (repeat' (first | assumption | exact Acc.refl _ | refine Acc.drew ?_ | refine Acc.alloc ?_ _ | refine Acc.setCell ?_ (by omega) _))
      clear hb
      go_wp2_with fail
      refine (specValid_any a b c _).mono ?_
      rw [H2.out]
      rintro e w2 ⟨rfl, hb⟩
      obtain ⟨q00, q01, q02⟩ := keep3 hb (b := w.heap.size) (x := .int .i64 x) (y := .int .i64 y) (z := .int .i64 z) (by go_simp)
      obtain ⟨q10, q11, q12⟩ := keep3 hb (b := w.heap.size + 1) (x := .int .i64 a) (y := .int .i64 b) (z := .int .i64 c) (by go_simp)
      obtain ⟨r0, r1, r2⟩ := keep3 hb (b := w.heap.size + 1 + 1) (x := .int .i64 0) (y := .int .i64 0) (z := .int .i64 0) (by go_simp)
      have kz : w.heap.size + 1 + 1 < w2.heap.size := World.block_lt_of_cell? _ _ r0
      obtain ⟨f0, f1, f2⟩ := keepf3 hb (b := w.heap.size + 1 + 1) (by go_simp) (by go_simp)
      have haw2 : Acc w w2 := by
        refine Acc.call ?_ hb
        (repeat' (first | assumption | exact Acc.refl _ | refine Acc.drew ?_ | refine Acc.alloc ?_ _ | refine Acc.setCell ?_ (by omega) _))
      clear hb
      go_wp2_with fail
      refine bodyPost_ret (v := .tuple #[.agg #[.int .i64 0, .int .i64 0, .int .i64 0], .bool false]) (by simp [results, Tryz.results136, go_sem, r0, r1, r2]) rfl ⟨rfl, ?_⟩
      show Acc w _
      (repeat' (first | assumption | exact Acc.refl _ | refine Acc.drew ?_ | refine Acc.alloc ?_ _ | refine Acc.setCell ?_ (by omega) _))
    | true =>
      obtain ⟨⟨a0, a1⟩, ⟨b0, b1⟩, ⟨c0, c1⟩⟩ := okF_bd h2
      have e : sumF s x y z a b c = lowF (x * c + s * a * z) (y * c + s * b * z) (z * c) := by unfold sumF; rw [H1.out, h2]; rfl
      rw [e]
      have H2 := Lib.hid h2
      clear h2 e
      have m1 := mul_bd (a := x) (b := c) (m := 2000000000) (n := 2000000000) (by omega) (by omega) (by omega) (by omega)
      have m2 := mul_bd (a := a) (b := z) (m := 2000000000) (n := 2000000000) (by omega) (by omega) (by omega) (by omega)
      have m3 := mul_bd (a := y) (b := c) (m := 2000000000) (n := 2000000000) (by omega) (by omega) (by omega) (by omega)
      have m4 := mul_bd (a := b) (b := z) (m := 2000000000) (n := 2000000000) (by omega) (by omega) (by omega) (by omega)
      have m5 := mul_bd (a := z) (b := c) (m := 2000000000) (n := 2000000000) (by omega) (by omega) (by omega) (by omega)
      have m6 : 1 ≤ z * c := by have := Int.mul_le_mul (a := 1) (b := 1) (c := z) (d := c) (by omega) (by omega) (by omega) (by omega); omega
      have N1 : -4000000000000000000 ≤ x * c := by omega
      have N2 : x * c ≤ 4000000000000000000 := by omega
      have N3 : -4000000000000000000 ≤ y * c := by omega
      have N4 : y * c ≤ 4000000000000000000 := by omega
      have N5 : -4000000000000000000 ≤ a * z := by omega
      have N6 : a * z ≤ 4000000000000000000 := by omega
      have N7 : -4000000000000000000 ≤ b * z := by omega
      have N8 : b * z ≤ 4000000000000000000 := by omega
      have N9 : z * c ≤ 4000000000000000000 := by omega
      clear m1 m2 m3 m4 m5
      rcases hs with rfl | rfl
      · rw [Int.one_mul, Int.one_mul]
        obtain ⟨lo, hlo⟩ : ∃ lo, lowF (x * c + a * z) (y * c + b * z) (z * c) = lo := ⟨_, rfl⟩
        rw [hlo]
        have HLO := Lib.hid hlo
        clear hlo
        go_enter Tryz.func136, Tryz.ntmps136
        go_wp2_with fail
        refine (specValid_any x y z _).mono ?_
        rw [H1.out]
        rintro e w1 ⟨rfl, hb⟩
        obtain ⟨q00, q01, q02⟩ := keep3 hb (b := w.heap.size) (x := .int .i64 x) (y := .int .i64 y) (z := .int .i64 z) (by go_simp)
        obtain ⟨q10, q11, q12⟩ := keep3 hb (b := w.heap.size + 1) (x := .int .i64 a) (y := .int .i64 b) (z := .int .i64 c) (by go_simp)
        obtain ⟨r0, r1, r2⟩ := keep3 hb (b := w.heap.size + 1 + 1) (x := .int .i64 0) (y := .int .i64 0) (z := .int .i64 0) (by go_simp)
        have kz : w.heap.size + 1 + 1 < w1.heap.size := World.block_lt_of_cell? _ _ r0
        obtain ⟨f0, f1, f2⟩ := keepf3 hb (b := w.heap.size + 1 + 1) (by go_simp) (by go_simp)
        have haw1 : Acc w w1 := by
          refine Acc.call ?_ hb
          (repeat' (first | assumption | exact Acc.refl _ | refine Acc.drew ?_ | refine Acc.alloc ?_ _ | refine Acc.setCell ?_ (by omega) _))
        clear hb
        go_wp2_with fail
        refine (specValid_any a b c _).mono ?_
        rw [H2.out]
        rintro e w2 ⟨rfl, hb⟩
        obtain ⟨q00, q01, q02⟩ := keep3 hb (b := w.heap.size) (x := .int .i64 x) (y := .int .i64 y) (z := .int .i64 z) (by go_simp)
        obtain ⟨q10, q11, q12⟩ := keep3 hb (b := w.heap.size + 1) (x := .int .i64 a) (y := .int .i64 b) (z := .int .i64 c) (by go_simp)
        obtain ⟨r0, r1, r2⟩ := keep3 hb (b := w.heap.size + 1 + 1) (x := .int .i64 0) (y := .int .i64 0) (z := .int .i64 0) (by go_simp)
        have kz : w.heap.size + 1 + 1 < w2.heap.size := World.block_lt_of_cell? _ _ r0
        obtain ⟨f0, f1, f2⟩ := keepf3 hb (b := w.heap.size + 1 + 1) (by go_simp) (by go_simp)
        have haw2 : Acc w w2 := by
          refine Acc.call ?_ hb
          (repeat' (first | assumption | exact Acc.refl _ | refine Acc.drew ?_ | refine Acc.alloc ?_ _ | refine Acc.setCell ?_ (by omega) _))
        clear hb
        go_wp2_with fail
        refine (specLow_any (x * c + a * z) (y * c + b * z) (z * c) _ (by omega) (by omega) (by omega)).mono ?_
        rw [HLO.out]
        rintro e w3 ⟨rfl, hb⟩
        obtain ⟨q00, q01, q02⟩ := keep3 hb (b := w.heap.size) (x := .int .i64 x) (y := .int .i64 y) (z := .int .i64 z) (by go_simp)
        obtain ⟨q10, q11, q12⟩ := keep3 hb (b := w.heap.size + 1) (x := .int .i64 a) (y := .int .i64 b) (z := .int .i64 c) (by go_simp)
        obtain ⟨r0, r1, r2⟩ := keep3 hb (b := w.heap.size + 1 + 1) (x := .int .i64 0) (y := .int .i64 0) (z := .int .i64 0) (by go_simp)
        have kz : w.heap.size + 1 + 1 < w3.heap.size := World.block_lt_of_cell? _ _ r0
        obtain ⟨f0, f1, f2⟩ := keepf3 hb (b := w.heap.size + 1 + 1) (by go_simp) (by go_simp)
        have haw3 : Acc w w3 := by
          refine Acc.call ?_ hb
          (repeat' (first | assumption | exact Acc.refl _ | refine Acc.drew ?_ | refine Acc.alloc ?_ _ | refine Acc.setCell ?_ (by omega) _))
        clear hb
        rw [resV_eq]
        go_wp2_with fail
        refine bodyPost_ret (v := .tuple #[.agg #[.int .i64 (partsR lo).1, .int .i64 (partsR lo).2.1, .int .i64 (partsR lo).2.2], .bool (okR lo)]) (by simp [results, Tryz.results136, go_sem, r0, r1, r2]) rfl ⟨by rw [resV_eq], ?_⟩
        show Acc w _
        (repeat' (first | assumption | exact Acc.refl _ | refine Acc.drew ?_ | refine Acc.alloc ?_ _ | refine Acc.setCell ?_ (by omega) _))
      · rw [Int.neg_one_mul, Int.neg_one_mul]
        have P1 : -4000000000000000000 ≤ -a * z := by rw [Int.neg_mul]; omega
        have P2 : -a * z ≤ 4000000000000000000 := by rw [Int.neg_mul]; omega
        have P3 : -4000000000000000000 ≤ -b * z := by rw [Int.neg_mul]; omega
        have P4 : -b * z ≤ 4000000000000000000 := by rw [Int.neg_mul]; omega
        obtain ⟨lo, hlo⟩ : ∃ lo, lowF (x * c + -a * z) (y * c + -b * z) (z * c) = lo := ⟨_, rfl⟩
        rw [hlo]
        have HLO := Lib.hid hlo
        clear hlo
        go_enter Tryz.func136, Tryz.ntmps136
        go_wp2_with fail
        refine (specValid_any x y z _).mono ?_
        rw [H1.out]
        rintro e w1 ⟨rfl, hb⟩
        obtain ⟨q00, q01, q02⟩ := keep3 hb (b := w.heap.size) (x := .int .i64 x) (y := .int .i64 y) (z := .int .i64 z) (by go_simp)
        obtain ⟨q10, q11, q12⟩ := keep3 hb (b := w.heap.size + 1) (x := .int .i64 a) (y := .int .i64 b) (z := .int .i64 c) (by go_simp)
        obtain ⟨r0, r1, r2⟩ := keep3 hb (b := w.heap.size + 1 + 1) (x := .int .i64 0) (y := .int .i64 0) (z := .int .i64 0) (by go_simp)
        have kz : w.heap.size + 1 + 1 < w1.heap.size := World.block_lt_of_cell? _ _ r0
        obtain ⟨f0, f1, f2⟩ := keepf3 hb (b := w.heap.size + 1 + 1) (by go_simp) (by go_simp)
        have haw1 : Acc w w1 := by
          refine Acc.call ?_ hb
          (repeat' (first | assumption | exact Acc.refl _ | refine Acc.drew ?_ | refine Acc.alloc ?_ _ | refine Acc.setCell ?_ (by omega) _))
        clear hb
        go_wp2_with fail
        refine (specValid_any a b c _).mono ?_
        rw [H2.out]
        rintro e w2 ⟨rfl, hb⟩
        obtain ⟨q00, q01, q02⟩ := keep3 hb (b := w.heap.size) (x := .int .i64 x) (y := .int .i64 y) (z := .int .i64 z) (by go_simp)
        obtain ⟨q10, q11, q12⟩ := keep3 hb (b := w.heap.size + 1) (x := .int .i64 a) (y := .int .i64 b) (z := .int .i64 c) (by go_simp)
        obtain ⟨r0, r1, r2⟩ := keep3 hb (b := w.heap.size + 1 + 1) (x := .int .i64 0) (y := .int .i64 0) (z := .int .i64 0) (by go_simp)
        have kz : w.heap.size + 1 + 1 < w2.heap.size := World.block_lt_of_cell? _ _ r0
        obtain ⟨f0, f1, f2⟩ := keepf3 hb (b := w.heap.size + 1 + 1) (by go_simp) (by go_simp)
        have haw2 : Acc w w2 := by
          refine Acc.call ?_ hb
          (repeat' (first | assumption | exact Acc.refl _ | refine Acc.drew ?_ | refine Acc.alloc ?_ _ | refine Acc.setCell ?_ (by omega) _))
        clear hb
        go_wp2_with fail
        refine (specLow_any (x * c + -a * z) (y * c + -b * z) (z * c) _ (by omega) (by omega) (by omega)).mono ?_
        rw [HLO.out]
        rintro e w3 ⟨rfl, hb⟩
        obtain ⟨q00, q01, q02⟩ := keep3 hb (b := w.heap.size) (x := .int .i64 x) (y := .int .i64 y) (z := .int .i64 z) (by go_simp)
        obtain ⟨q10, q11, q12⟩ := keep3 hb (b := w.heap.size + 1) (x := .int .i64 a) (y := .int .i64 b) (z := .int .i64 c) (by go_simp)
        obtain ⟨r0, r1, r2⟩ := keep3 hb (b := w.heap.size + 1 + 1) (x := .int .i64 0) (y := .int .i64 0) (z := .int .i64 0) (by go_simp)
        have kz : w.heap.size + 1 + 1 < w3.heap.size := World.block_lt_of_cell? _ _ r0
        obtain ⟨f0, f1, f2⟩ := keepf3 hb (b := w.heap.size + 1 + 1) (by go_simp) (by go_simp)
        have haw3 : Acc w w3 := by
          refine Acc.call ?_ hb
          (repeat' (first | assumption | exact Acc.refl _ | refine Acc.drew ?_ | refine Acc.alloc ?_ _ | refine Acc.setCell ?_ (by omega) _))
        clear hb
        rw [resV_eq]
        go_wp2_with fail
        refine bodyPost_ret (v := .tuple #[.agg #[.int .i64 (partsR lo).1, .int .i64 (partsR lo).2.1, .int .i64 (partsR lo).2.2], .bool (okR lo)]) (by simp [results, Tryz.results136, go_sem, r0, r1, r2]) rfl ⟨by rw [resV_eq], ?_⟩
        show Acc w _
        (repeat' (first | assumption | exact Acc.refl _ | refine Acc.drew ?_ | refine Acc.alloc ?_ _ | refine Acc.setCell ?_ (by omega) _))

def addF (x y z a b c : Int) : Option (Int × Int × Int) := sumF 1 x y z a b c
set_option maxHeartbeats 1000000 in
theorem specAdd_any (x y z a b c : Int) (w : World) :
    Calls Tryz.prog 110 #[.agg #[.int .i64 x, .int .i64 y, .int .i64 z], .agg #[.int .i64 a, .int .i64 b, .int .i64 c]] w (Gave (addF x y z a b c) w) := by
  unfold addF
  obtain ⟨o, ho⟩ : ∃ o, sumF 1 x y z a b c = o := ⟨_, rfl⟩
  rw [ho]
  have HO := Lib.hid ho
  clear ho
  go_enter Tryz.func110, Tryz.ntmps110
  go_wp2_with fail
  refine (specSum_any 1 x y z a b c _ (by simp)).mono ?_
  rw [HO.out]
  rintro e w1 ⟨rfl, hb⟩
  obtain ⟨q00, q01, q02⟩ := keep3 hb (b := w.heap.size) (x := .int .i64 x) (y := .int .i64 y) (z := .int .i64 z) (by go_simp)
  obtain ⟨q10, q11, q12⟩ := keep3 hb (b := w.heap.size + 1) (x := .int .i64 a) (y := .int .i64 b) (z := .int .i64 c) (by go_simp)
  obtain ⟨r0, r1, r2⟩ := keep3 hb (b := w.heap.size + 1 + 1) (x := .int .i64 0) (y := .int .i64 0) (z := .int .i64 0) (by go_simp)
  have kz : w.heap.size + 1 + 1 < w1.heap.size := World.block_lt_of_cell? _ _ r0
  obtain ⟨f0, f1, f2⟩ := keepf3 hb (b := w.heap.size + 1 + 1) (by go_simp) (by go_simp)
  have haw1 : Acc w w1 := by
    refine Acc.call ?_ hb
    (repeat' (first | assumption | exact Acc.refl _ | refine Acc.drew ?_ | refine Acc.alloc ?_ _ | refine Acc.setCell ?_ (by omega) _))
  clear hb
  rw [resV_eq]
  go_wp2_with fail
  refine bodyPost_ret (v := .tuple #[.agg #[.int .i64 (partsR o).1, .int .i64 (partsR o).2.1, .int .i64 (partsR o).2.2], .bool (okR o)]) (by simp [results, Tryz.results110, go_sem, r0, r1, r2]) rfl ⟨by rw [resV_eq], ?_⟩
  show Acc w _
  (repeat' (first | assumption | exact Acc.refl _ | refine Acc.drew ?_ | refine Acc.alloc ?_ _ | refine Acc.setCell ?_ (by omega) _))

def timesF (x y z a b c : Int) : Option (Int × Int × Int) :=
  if (okF x y z && okF a b c) = true then lowF (x * a - y * b) (x * b + y * a) (z * c) else none
set_option maxHeartbeats 1000000 in
theorem specTimes_any (x y z a b c : Int) (w : World) :
    Calls Tryz.prog 69 #[.agg #[.int .i64 x, .int .i64 y, .int .i64 z], .agg #[.int .i64 a, .int .i64 b, .int .i64 c]] w (Gave (timesF x y z a b c) w) := by
  cases h1 : okF x y z with
  | false =>
    have e : timesF x y z a b c = none := by unfold timesF; rw [h1]; rfl
    rw [e]
    have H1 := Lib.hid h1
    clear h1 e
    go_enter Tryz.func69, Tryz.ntmps69
    go_wp2_with fail
    refine (specValid_any x y z _).mono ?_
    rw [H1.out]
    rintro e w1 ⟨rfl, hb⟩
    obtain ⟨q00, q01, q02⟩ := keep3 hb (b := w.heap.size) (x := .int .i64 x) (y := .int .i64 y) (z := .int .i64 z) (by go_simp)
    obtain ⟨q10, q11, q12⟩ := keep3 hb (b := w.heap.size + 1) (x := .int .i64 a) (y := .int .i64 b) (z := .int .i64 c) (by go_simp)
    obtain ⟨r0, r1, r2⟩ := keep3 hb (b := w.heap.size + 1 + 1) (x := .int .i64 0) (y := .int .i64 0) (z := .int .i64 0) (by go_simp)
    have kz : w.heap.size + 1 + 1 < w1.heap.size := World.block_lt_of_cell? _ _ r0
    obtain ⟨f0, f1, f2⟩ := keepf3 hb (b := w.heap.size + 1 + 1) (by go_simp) (by go_simp)
    have haw1 : Acc w w1 := by
      refine Acc.call ?_ hb
      (repeat' (first | assumption | exact Acc.refl _ | refine Acc.drew ?_ | refine Acc.alloc ?_ _ | refine Acc.setCell ?_ (by omega) _))
    clear hb
    go_wp2_with fail
    refine bodyPost_ret (v := .tuple #[.agg #[.int .i64 0, .int .i64 0, .int .i64 0], .bool false]) (by simp [results, Tryz.results69, go_sem, r0, r1, r2]) rfl ⟨rfl, ?_⟩
    show Acc w _
    (repeat' (first | assumption | exact Acc.refl _ | refine Acc.drew ?_ | refine Acc.alloc ?_ _ | refine Acc.setCell ?_ (by omega) _))
  | true =>
    obtain ⟨⟨x0, x1⟩, ⟨y0, y1⟩, ⟨z0, z1⟩⟩ := okF_bd h1
    have H1 := Lib.hid h1
    clear h1
    cases h2 : okF a b c with
    | false =>
      have e : timesF x y z a b c = none := by unfold timesF; rw [h2, Bool.and_false]; rfl
      rw [e]
      have H2 := Lib.hid h2
      clear h2 e
      go_enter Tryz.func69, Tryz.ntmps69
      go_wp2_with fail
      refine (specValid_any x y z _).mono ?_
      rw [H1.out]
      rintro e w1 ⟨rfl, hb⟩
      obtain ⟨q00, q01, q02⟩ := keep3 hb (b := w.heap.size) (x := .int .i64 x) (y := .int .i64 y) (z := .int .i64 z) (by go_simp)
      obtain ⟨q10, q11, q12⟩ := keep3 hb (b := w.heap.size + 1) (x := .int .i64 a) (y := .int .i64 b) (z := .int .i64 c) (by go_simp)
      obtain ⟨r0, r1, r2⟩ := keep3 hb (b := w.heap.size + 1 + 1) (x := .int .i64 0) (y := .int .i64 0) (z := .int .i64 0) (by go_simp)
      have kz : w.heap.size + 1 + 1 < w1.heap.size := World.block_lt_of_cell? _ _ r0
      obtain ⟨f0, f1, f2⟩ := keepf3 hb (b := w.heap.size + 1 + 1) (by go_simp) (by go_simp)
      have haw1 : Acc w w1 := by
        refine Acc.call ?_ hb
        (repeat' (first | assumption | exact Acc.refl _ | refine Acc.drew ?_ | refine Acc.alloc ?_ _ | refine Acc.setCell ?_ (by omega) _))
      clear hb
      go_wp2_with fail
      refine (specValid_any a b c _).mono ?_
      rw [H2.out]
      rintro e w2 ⟨rfl, hb⟩
      obtain ⟨q00, q01, q02⟩ := keep3 hb (b := w.heap.size) (x := .int .i64 x) (y := .int .i64 y) (z := .int .i64 z) (by go_simp)
      obtain ⟨q10, q11, q12⟩ := keep3 hb (b := w.heap.size + 1) (x := .int .i64 a) (y := .int .i64 b) (z := .int .i64 c) (by go_simp)
      obtain ⟨r0, r1, r2⟩ := keep3 hb (b := w.heap.size + 1 + 1) (x := .int .i64 0) (y := .int .i64 0) (z := .int .i64 0) (by go_simp)
      have kz : w.heap.size + 1 + 1 < w2.heap.size := World.block_lt_of_cell? _ _ r0
      obtain ⟨f0, f1, f2⟩ := keepf3 hb (b := w.heap.size + 1 + 1) (by go_simp) (by go_simp)
      have haw2 : Acc w w2 := by
        refine Acc.call ?_ hb
        (repeat' (first | assumption | exact Acc.refl _ | refine Acc.drew ?_ | refine Acc.alloc ?_ _ | refine Acc.setCell ?_ (by omega) _))
      clear hb
      go_wp2_with fail
      refine bodyPost_ret (v := .tuple #[.agg #[.int .i64 0, .int .i64 0, .int .i64 0], .bool false]) (by simp [results, Tryz.results69, go_sem, r0, r1, r2]) rfl ⟨rfl, ?_⟩
      show Acc w _
      (repeat' (first | assumption | exact Acc.refl _ | refine Acc.drew ?_ | refine Acc.alloc ?_ _ | refine Acc.setCell ?_ (by omega) _))
    | true =>
      obtain ⟨⟨a0, a1⟩, ⟨b0, b1⟩, ⟨c0, c1⟩⟩ := okF_bd h2
      have e : timesF x y z a b c = lowF (x * a - y * b) (x * b + y * a) (z * c) := by unfold timesF; rw [H1.out, h2]; rfl
      rw [e]
      have H2 := Lib.hid h2
      clear h2 e
      have m1 := mul_bd (a := x) (b := a) (m := 2000000000) (n := 2000000000) (by omega) (by omega) (by omega) (by omega)
      have m2 := mul_bd (a := y) (b := b) (m := 2000000000) (n := 2000000000) (by omega) (by omega) (by omega) (by omega)
      have m3 := mul_bd (a := x) (b := b) (m := 2000000000) (n := 2000000000) (by omega) (by omega) (by omega) (by omega)
      have m4 := mul_bd (a := y) (b := a) (m := 2000000000) (n := 2000000000) (by omega) (by omega) (by omega) (by omega)
      have m5 := mul_bd (a := z) (b := c) (m := 2000000000) (n := 2000000000) (by omega) (by omega) (by omega) (by omega)
      have m6 : 1 ≤ z * c := by have := Int.mul_le_mul (a := 1) (b := 1) (c := z) (d := c) (by omega) (by omega) (by omega) (by omega); omega
      have N1 : -4000000000000000000 ≤ x * a := by omega
      have N2 : x * a ≤ 4000000000000000000 := by omega
      have N3 : -4000000000000000000 ≤ y * b := by omega
      have N4 : y * b ≤ 4000000000000000000 := by omega
      have N5 : -4000000000000000000 ≤ x * b := by omega
      have N6 : x * b ≤ 4000000000000000000 := by omega
      have N7 : -4000000000000000000 ≤ y * a := by omega
      have N8 : y * a ≤ 4000000000000000000 := by omega
      have N9 : z * c ≤ 4000000000000000000 := by omega
      clear m1 m2 m3 m4 m5
      obtain ⟨o, ho⟩ : ∃ o, lowF (x * a - y * b) (x * b + y * a) (z * c) = o := ⟨_, rfl⟩
      rw [ho]
      have HO := Lib.hid ho
      clear ho
      go_enter Tryz.func69, Tryz.ntmps69
      go_wp2_with fail
      refine (specValid_any x y z _).mono ?_
      rw [H1.out]
      rintro e w1 ⟨rfl, hb⟩
      obtain ⟨q00, q01, q02⟩ := keep3 hb (b := w.heap.size) (x := .int .i64 x) (y := .int .i64 y) (z := .int .i64 z) (by go_simp)
      obtain ⟨q10, q11, q12⟩ := keep3 hb (b := w.heap.size + 1) (x := .int .i64 a) (y := .int .i64 b) (z := .int .i64 c) (by go_simp)
      obtain ⟨r0, r1, r2⟩ := keep3 hb (b := w.heap.size + 1 + 1) (x := .int .i64 0) (y := .int .i64 0) (z := .int .i64 0) (by go_simp)
      have kz : w.heap.size + 1 + 1 < w1.heap.size := World.block_lt_of_cell? _ _ r0
      obtain ⟨f0, f1, f2⟩ := keepf3 hb (b := w.heap.size + 1 + 1) (by go_simp) (by go_simp)
      have haw1 : Acc w w1 := by
        refine Acc.call ?_ hb
        (repeat' (first | assumption | exact Acc.refl _ | refine Acc.drew ?_ | refine Acc.alloc ?_ _ | refine Acc.setCell ?_ (by omega) _))
      clear hb
      go_wp2_with fail
      refine (specValid_any a b c _).mono ?_
      rw [H2.out]
      rintro e w2 ⟨rfl, hb⟩
      obtain ⟨q00, q01, q02⟩ := keep3 hb (b := w.heap.size) (x := .int .i64 x) (y := .int .i64 y) (z := .int .i64 z) (by go_simp)
      obtain ⟨q10, q11, q12⟩ := keep3 hb (b := w.heap.size + 1) (x := .int .i64 a) (y := .int .i64 b) (z := .int .i64 c) (by go_simp)
      obtain ⟨r0, r1, r2⟩ := keep3 hb (b := w.heap.size + 1 + 1) (x := .int .i64 0) (y := .int .i64 0) (z := .int .i64 0) (by go_simp)
      have kz : w.heap.size + 1 + 1 < w2.heap.size := World.block_lt_of_cell? _ _ r0
      obtain ⟨f0, f1, f2⟩ := keepf3 hb (b := w.heap.size + 1 + 1) (by go_simp) (by go_simp)
      have haw2 : Acc w w2 := by
        refine Acc.call ?_ hb
        (repeat' (first | assumption | exact Acc.refl _ | refine Acc.drew ?_ | refine Acc.alloc ?_ _ | refine Acc.setCell ?_ (by omega) _))
      clear hb
      go_wp2_with fail
      refine (specLow_any (x * a - y * b) (x * b + y * a) (z * c) _ (by omega) (by omega) (by omega)).mono ?_
      rw [HO.out]
      rintro e w3 ⟨rfl, hb⟩
      obtain ⟨q00, q01, q02⟩ := keep3 hb (b := w.heap.size) (x := .int .i64 x) (y := .int .i64 y) (z := .int .i64 z) (by go_simp)
      obtain ⟨q10, q11, q12⟩ := keep3 hb (b := w.heap.size + 1) (x := .int .i64 a) (y := .int .i64 b) (z := .int .i64 c) (by go_simp)
      obtain ⟨r0, r1, r2⟩ := keep3 hb (b := w.heap.size + 1 + 1) (x := .int .i64 0) (y := .int .i64 0) (z := .int .i64 0) (by go_simp)
      have kz : w.heap.size + 1 + 1 < w3.heap.size := World.block_lt_of_cell? _ _ r0
      obtain ⟨f0, f1, f2⟩ := keepf3 hb (b := w.heap.size + 1 + 1) (by go_simp) (by go_simp)
      have haw3 : Acc w w3 := by
        refine Acc.call ?_ hb
        (repeat' (first | assumption | exact Acc.refl _ | refine Acc.drew ?_ | refine Acc.alloc ?_ _ | refine Acc.setCell ?_ (by omega) _))
      clear hb
      rw [resV_eq]
      go_wp2_with fail
      refine bodyPost_ret (v := .tuple #[.agg #[.int .i64 (partsR o).1, .int .i64 (partsR o).2.1, .int .i64 (partsR o).2.2], .bool (okR o)]) (by simp [results, Tryz.results69, go_sem, r0, r1, r2]) rfl ⟨by rw [resV_eq], ?_⟩
      show Acc w _
      (repeat' (first | assumption | exact Acc.refl _ | refine Acc.drew ?_ | refine Acc.alloc ?_ _ | refine Acc.setCell ?_ (by omega) _))

def makeF (re im den : Int) : Option (Int × Int × Int) :=
  if (inB den 1 1000000000000000000 && inB re (-1000000000000000000) 1000000000000000000 && inB im (-1000000000000000000) 1000000000000000000) = true then lowF re im den else none
set_option maxHeartbeats 1000000 in
theorem specMake_any (re im den : Int) (w : World) :
    Calls Tryz.prog 85 #[.int .i64 re, .int .i64 im, .int .i64 den] w (Gave (makeF re im den) w) := by
  cases h1 : inB den 1 1000000000000000000 with
  | false =>
    have e : makeF re im den = none := by unfold makeF; rw [h1]; rfl
    rw [e]
    have H1 := Lib.hid h1
    clear h1 e
    go_enter Tryz.func85, Tryz.ntmps85
    go_wp2_with fail
    refine (specIn_of den 1 1000000000000000000 false H1.out _).mono ?_
    rintro e w1 ⟨rfl, rfl⟩
    go_wp2_with fail
    exact bodyPost_ret (v := .tuple #[.agg #[.int .i64 0, .int .i64 0, .int .i64 0], .bool false]) (by simp [results, Tryz.results85, go_sem]) rfl ⟨rfl, (Below.refl _ _).alloc (Nat.le_refl _) _⟩
  | true =>
  have H1 := Lib.hid h1
  cases h2 : inB re (-1000000000000000000) 1000000000000000000 with
  | false =>
    have e : makeF re im den = none := by unfold makeF; rw [h1, h2]; rfl
    rw [e]
    have H2 := Lib.hid h2
    clear h1 h2 e
    go_enter Tryz.func85, Tryz.ntmps85
    go_wp2_with fail
    refine (specIn_of den 1 1000000000000000000 true H1.out _).mono ?_
    rintro e w1 ⟨rfl, rfl⟩
    go_wp2_with fail
    refine (specIn_of re (-1000000000000000000) 1000000000000000000 false H2.out _).mono ?_
    rintro e w1 ⟨rfl, rfl⟩
    go_wp2_with fail
    exact bodyPost_ret (v := .tuple #[.agg #[.int .i64 0, .int .i64 0, .int .i64 0], .bool false]) (by simp [results, Tryz.results85, go_sem]) rfl ⟨rfl, (Below.refl _ _).alloc (Nat.le_refl _) _⟩
  | true =>
  have H2 := Lib.hid h2
  cases h3 : inB im (-1000000000000000000) 1000000000000000000 with
  | false =>
    have e : makeF re im den = none := by unfold makeF; rw [h1, h2, h3]; rfl
    rw [e]
    have H3 := Lib.hid h3
    clear h1 h2 h3 e
    go_enter Tryz.func85, Tryz.ntmps85
    go_wp2_with fail
    refine (specIn_of den 1 1000000000000000000 true H1.out _).mono ?_
    rintro e w1 ⟨rfl, rfl⟩
    go_wp2_with fail
    refine (specIn_of re (-1000000000000000000) 1000000000000000000 true H2.out _).mono ?_
    rintro e w1 ⟨rfl, rfl⟩
    go_wp2_with fail
    refine (specIn_of im (-1000000000000000000) 1000000000000000000 false H3.out _).mono ?_
    rintro e w1 ⟨rfl, rfl⟩
    go_wp2_with fail
    exact bodyPost_ret (v := .tuple #[.agg #[.int .i64 0, .int .i64 0, .int .i64 0], .bool false]) (by simp [results, Tryz.results85, go_sem]) rfl ⟨rfl, (Below.refl _ _).alloc (Nat.le_refl _) _⟩
  | true =>
    have e : makeF re im den = lowF re im den := by unfold makeF; rw [h1, h2, h3]; rfl
    rw [e]
    have H3 := Lib.hid h3
    have b1 := inB_bd h1
    have b2 := inB_bd h2
    have b3 := inB_bd h3
    clear h1 h2 h3 e
    obtain ⟨o, ho⟩ : ∃ o, lowF re im den = o := ⟨_, rfl⟩
    rw [ho]
    have HO := Lib.hid ho
    clear ho
    have C := Lib.hid fun w => specLow_any re im den w (by omega) (by omega) (by omega)
    clear b1 b2 b3
    go_enter Tryz.func85, Tryz.ntmps85
    go_wp2_with fail
    refine (specIn_of den 1 1000000000000000000 true H1.out _).mono ?_
    rintro e w1 ⟨rfl, rfl⟩
    go_wp2_with fail
    refine (specIn_of re (-1000000000000000000) 1000000000000000000 true H2.out _).mono ?_
    rintro e w1 ⟨rfl, rfl⟩
    go_wp2_with fail
    refine (specIn_of im (-1000000000000000000) 1000000000000000000 true H3.out _).mono ?_
    rintro e w1 ⟨rfl, rfl⟩
    go_wp2_with fail
    refine (C.out _).mono ?_
    rw [HO.out]
    rintro e w3 ⟨rfl, hb⟩
    obtain ⟨r0, r1, r2⟩ := keep3 hb (b := w.heap.size) (x := .int .i64 0) (y := .int .i64 0) (z := .int .i64 0) (by go_simp)
    have kz : w.heap.size < w3.heap.size := World.block_lt_of_cell? _ _ r0
    obtain ⟨f0, f1, f2⟩ := keepf3 hb (b := w.heap.size) (by go_simp) (by go_simp)
    have haw3 : Acc w w3 := by
      refine Acc.call ?_ hb
      (repeat' (first | assumption | exact Acc.refl _ | refine Acc.drew ?_ | refine Acc.alloc ?_ _ | refine Acc.setCell ?_ (by omega) _))
    clear hb
    rw [resV_eq]
    go_wp2_with fail
    refine bodyPost_ret (v := .tuple #[.agg #[.int .i64 (partsR o).1, .int .i64 (partsR o).2.1, .int .i64 (partsR o).2.2], .bool (okR o)]) (by simp [results, Tryz.results85, go_sem, r0, r1, r2]) rfl ⟨by rw [resV_eq], ?_⟩
    show Acc w _
    (repeat' (first | assumption | exact Acc.refl _ | refine Acc.drew ?_ | refine Acc.alloc ?_ _ | refine Acc.setCell ?_ (by omega) _))

def mirrorF (x y z : Int) : Option (Int × Int × Int) := if okF x y z = true then some (x, -y, z) else none
set_option maxHeartbeats 1000000 in
theorem specMirror_any (x y z : Int) (w : World) :
    Calls Tryz.prog 133 #[.agg #[.int .i64 x, .int .i64 y, .int .i64 z]] w (Gave (mirrorF x y z) w) := by
  cases h1 : okF x y z with
  | false =>
    have e : mirrorF x y z = none := by unfold mirrorF; rw [h1]; rfl
    rw [e]
    have H1 := Lib.hid h1
    clear h1 e
    go_enter Tryz.func133, Tryz.ntmps133
    go_wp2_with fail
    refine (specValid_any x y z _).mono ?_
    rw [H1.out]
    rintro e w1 ⟨rfl, hb⟩
    obtain ⟨q00, q01, q02⟩ := keep3 hb (b := w.heap.size) (x := .int .i64 x) (y := .int .i64 y) (z := .int .i64 z) (by go_simp)
    obtain ⟨r0, r1, r2⟩ := keep3 hb (b := w.heap.size + 1) (x := .int .i64 0) (y := .int .i64 0) (z := .int .i64 0) (by go_simp)
    have kz : w.heap.size + 1 < w1.heap.size := World.block_lt_of_cell? _ _ r0
    obtain ⟨f0, f1, f2⟩ := keepf3 hb (b := w.heap.size + 1) (by go_simp) (by go_simp)
    have haw1 : Acc w w1 := by
      refine Acc.call ?_ hb
      (repeat' (first | assumption | exact Acc.refl _ | refine Acc.drew ?_ | refine Acc.alloc ?_ _ | refine Acc.setCell ?_ (by omega) _))
    clear hb
    go_wp2_with fail
    refine bodyPost_ret (v := .tuple #[.agg #[.int .i64 0, .int .i64 0, .int .i64 0], .bool false]) (by simp [results, Tryz.results133, go_sem, r0, r1, r2]) rfl ⟨rfl, ?_⟩
    show Acc w _
    (repeat' (first | assumption | exact Acc.refl _ | refine Acc.drew ?_ | refine Acc.alloc ?_ _ | refine Acc.setCell ?_ (by omega) _))
  | true =>
    obtain ⟨⟨x0, x1⟩, ⟨y0, y1⟩, ⟨z0, z1⟩⟩ := okF_bd h1
    have e : mirrorF x y z = some (x, -y, z) := by unfold mirrorF; rw [h1]; rfl
    rw [e]
    have H1 := Lib.hid h1
    clear h1 e
    go_enter Tryz.func133, Tryz.ntmps133
    go_wp2_with fail
    refine (specValid_any x y z _).mono ?_
    rw [H1.out]
    rintro e w1 ⟨rfl, hb⟩
    obtain ⟨q00, q01, q02⟩ := keep3 hb (b := w.heap.size) (x := .int .i64 x) (y := .int .i64 y) (z := .int .i64 z) (by go_simp)
    obtain ⟨r0, r1, r2⟩ := keep3 hb (b := w.heap.size + 1) (x := .int .i64 0) (y := .int .i64 0) (z := .int .i64 0) (by go_simp)
    have kz : w.heap.size + 1 < w1.heap.size := World.block_lt_of_cell? _ _ r0
    obtain ⟨f0, f1, f2⟩ := keepf3 hb (b := w.heap.size + 1) (by go_simp) (by go_simp)
    have haw1 : Acc w w1 := by
      refine Acc.call ?_ hb
      (repeat' (first | assumption | exact Acc.refl _ | refine Acc.drew ?_ | refine Acc.alloc ?_ _ | refine Acc.setCell ?_ (by omega) _))
    clear hb
    go_wp2_with fail
    refine bodyPost_ret (v := .tuple #[.agg #[.int .i64 x, .int .i64 (-y), .int .i64 z], .bool true]) (by simp [results, Tryz.results133, go_sem, r0, r1, r2]) rfl ⟨rfl, ?_⟩
    show Acc w _
    (repeat' (first | assumption | exact Acc.refl _ | refine Acc.drew ?_ | refine Acc.alloc ?_ _ | refine Acc.setCell ?_ (by omega) _))


theorem gcd3_nat (re im den : Int) : gcd3 re im den = Nat.gcd (Nat.gcd den.natAbs re.natAbs) im.natAbs := rfl
theorem gcd3_div {re im den : Int} (h : 1 ≤ den) : gcd3 (re.tdiv (gcd3 re im den)) (im.tdiv (gcd3 re im den)) (den / (gcd3 re im den : Int)) = 1 := by
  have hp := gcd3_pos (re := re) (im := im) h
  obtain ⟨g, hg⟩ : ∃ g, gcd3 re im den = g := ⟨_, rfl⟩
  rw [hg] at hp ⊢
  have e := gcd3_nat re im den
  rw [hg] at e
  have d1 : g ∣ Nat.gcd den.natAbs re.natAbs := e ▸ Nat.gcd_dvd_left _ _
  have d2 : g ∣ im.natAbs := e ▸ Nat.gcd_dvd_right _ _
  have d3 : g ∣ den.natAbs := Nat.dvd_trans d1 (Nat.gcd_dvd_left _ _)
  have d4 : g ∣ re.natAbs := Nat.dvd_trans d1 (Nat.gcd_dvd_right _ _)
  rw [gcd3_nat]
  have e3 : (den / (g : Int)).natAbs = den.natAbs / g := by
    obtain ⟨n, rfl⟩ : ∃ n : Nat, den = n := ⟨den.toNat, by omega⟩
    rw [← Int.natCast_ediv, Int.natAbs_natCast, Int.natAbs_natCast]
  have e1 : (re.tdiv (g : Int)).natAbs = re.natAbs / g := by rw [Int.natAbs_tdiv]; rfl
  have e2 : (im.tdiv (g : Int)).natAbs = im.natAbs / g := by rw [Int.natAbs_tdiv]; rfl
  rw [e1, e2, e3, Nat.gcd_div d3 d4, Nat.gcd_div d1 d2, ← e]
  exact Nat.div_self hp

/-- What the program asks of the quotients is what the model asks. -/
theorem lowF_eq {re im den : Int} (h : 1 ≤ den) : lowF re im den =
    if (partB (re.tdiv (gcd3 re im den)) && partB (im.tdiv (gcd3 re im den)) && decide (den / (gcd3 re im den : Int) ≤ 2000000000)) = true
    then some (re.tdiv (gcd3 re im den), im.tdiv (gcd3 re im den), den / (gcd3 re im den : Int)) else none := by
  have h1 := gcd3_div (re := re) (im := im) h
  have hp := gcd3_pos (re := re) (im := im) h
  have h2 : 1 ≤ den / (gcd3 re im den : Int) := by
    have hd : (gcd3 re im den : Int) ∣ den := by
      have : gcd3 re im den ∣ den.natAbs := Nat.dvd_trans (Nat.gcd_dvd_left _ _) (Nat.gcd_dvd_left _ _)
      exact Int.ofNat_dvd_left.2 this
    have := Int.ediv_pos_of_pos_of_dvd (by omega) (by omega) hd
    omega
  unfold lowF
  simp only []
  have e : okF (re.tdiv (gcd3 re im den)) (im.tdiv (gcd3 re im den)) (den / (gcd3 re im den : Int)) = (partB (re.tdiv (gcd3 re im den)) && partB (im.tdiv (gcd3 re im den)) && decide (den / (gcd3 re im den : Int) ≤ 2000000000)) := by
    unfold okF
    rw [h1]
    have : inB (den / (gcd3 re im den : Int)) 1 2000000000 = decide (den / (gcd3 re im den : Int) ≤ 2000000000) := by
      simp [inB, h2]
    rw [this]; simp
  rw [e]

/-- Lowest terms of parts and a bottom of any size. -/
def lowE (re im den : Int) : Option (Int × Int × Int) := if den < 1 then none else lowF re im den

theorem okF_low {x y z : Int} : okF x y z = true ↔ lowE x y z = some (x, y, z) := by
  unfold lowE
  constructor
  · intro h
    have b := (okF_bd h).2.2
    have hg : gcd3 x y z = 1 := by
      unfold okF at h
      simp only [Bool.and_eq_true, decide_eq_true_eq] at h
      exact h.2
    rw [if_neg (by omega)]
    unfold lowF
    simp only [hg, Int.ofNat_one, Int.tdiv_one, Int.ediv_one]
    rw [if_pos h]
  · intro h
    split at h
    · cases h
    · unfold lowF at h
      simp only at h
      split at h
      · rename_i hk
        simp only [Option.some.injEq, Prod.mk.injEq] at h
        obtain ⟨h1, h2, h3⟩ := h
        rw [h1, h2, h3] at hk
        exact hk
      · cases h

theorem partB_neg (x : Int) : partB (-x) = partB x := by
  unfold partB inB
  rw [decide_eq_decide]
  omega
theorem okF_neg1 (x y z : Int) : okF x (-y) z = okF x y z := by
  unfold okF gcd3
  rw [partB_neg, Int.gcd_neg]
theorem gcd3_dvd {x y z r : Int} (h : gcd3 x y z = 1) (h1 : z ∣ x * r) (h2 : z ∣ y * r) : z ∣ r := by
  have a1 : z.natAbs ∣ x.natAbs * r.natAbs := by rw [← Int.natAbs_mul]; exact Int.natAbs_dvd_natAbs.2 h1
  have a2 : z.natAbs ∣ y.natAbs * r.natAbs := by rw [← Int.natAbs_mul]; exact Int.natAbs_dvd_natAbs.2 h2
  have a3 : z.natAbs ∣ z.natAbs * r.natAbs := Nat.dvd_mul_right _ _
  have b := Nat.dvd_gcd (Nat.dvd_gcd a3 a1) a2
  rw [Nat.gcd_mul_right, Nat.gcd_mul_right, ← gcd3_nat, h, Nat.one_mul] at b
  exact Int.natAbs_dvd_natAbs.1 b
/-- In lowest terms there is one way to write a fraction. -/
theorem uniq {x y z p q r : Int} (h1 : gcd3 x y z = 1) (h2 : gcd3 p q r = 1) (hz : 1 ≤ z) (hr : 1 ≤ r) (e1 : x * r = p * z) (e2 : y * r = q * z) : (x, y, z) = (p, q, r) := by
  have d1 : z ∣ r := gcd3_dvd h1 (e1 ▸ Int.dvd_mul_left _ _) (e2 ▸ Int.dvd_mul_left _ _)
  have d2 : r ∣ z := gcd3_dvd h2 (e1 ▸ Int.dvd_mul_left _ _) (e2 ▸ Int.dvd_mul_left _ _)
  have d3 : z = r := Int.dvd_antisymm (by omega) (by omega) d1 d2
  subst d3
  have c1 : x = p := Int.eq_of_mul_eq_mul_right (by omega) e1
  have c2 : y = q := Int.eq_of_mul_eq_mul_right (by omega) e2
  rw [c1, c2]
theorem okF_gcd {x y z : Int} (h : okF x y z = true) : gcd3 x y z = 1 := by
  unfold okF at h
  simp only [Bool.and_eq_true, decide_eq_true_eq] at h
  exact h.2
theorem uniqF {x y z p q r : Int} (h1 : okF x y z = true) (h2 : okF p q r = true) (e1 : x * r = p * z) (e2 : y * r = q * z) : (x, y, z) = (p, q, r) :=
  uniq (okF_gcd h1) (okF_gcd h2) (okF_bd h1).2.2.1 (okF_bd h2).2.2.1 e1 e2

theorem gcd3_dvds (x y d : Int) : (gcd3 x y d : Int) ∣ d ∧ (gcd3 x y d : Int) ∣ x ∧ (gcd3 x y d : Int) ∣ y := by
  have e := gcd3_nat x y d
  have d1 : gcd3 x y d ∣ Nat.gcd d.natAbs x.natAbs := e ▸ Nat.gcd_dvd_left _ _
  have d2 : gcd3 x y d ∣ y.natAbs := e ▸ Nat.gcd_dvd_right _ _
  exact ⟨Int.ofNat_dvd_left.2 (Nat.dvd_trans d1 (Nat.gcd_dvd_left _ _)), Int.ofNat_dvd_left.2 (Nat.dvd_trans d1 (Nat.gcd_dvd_right _ _)), Int.ofNat_dvd_left.2 d2⟩
/-- What the lowest terms are. -/
theorem low_parts {x y d : Int} (hd : 1 ≤ d) : ∃ g : Int, 1 ≤ g ∧ x = g * x.tdiv (gcd3 x y d) ∧ y = g * y.tdiv (gcd3 x y d) ∧ d = g * (d / (gcd3 x y d : Int)) ∧ g = gcd3 x y d := by
  obtain ⟨a, b, c⟩ := gcd3_dvds x y d
  have hp := gcd3_pos (re := x) (im := y) hd
  refine ⟨gcd3 x y d, by omega, ?_, ?_, ?_, rfl⟩
  · exact (Int.mul_tdiv_cancel' b).symm
  · exact (Int.mul_tdiv_cancel' c).symm
  · exact (Int.mul_ediv_cancel' a).symm
theorem low_iff {x y d p q r : Int} (hd : 1 ≤ d) : lowF x y d = some (p, q, r) ↔ okF p q r = true ∧ p * d = x * r ∧ q * d = y * r := by
  obtain ⟨g, hg, ex, ey, ed, eg⟩ := low_parts (x := x) (y := y) hd
  have h1 := gcd3_div (re := x) (im := y) hd
  obtain ⟨x', hx'⟩ : ∃ x', x.tdiv (gcd3 x y d) = x' := ⟨_, rfl⟩
  obtain ⟨y', hy'⟩ : ∃ y', y.tdiv (gcd3 x y d) = y' := ⟨_, rfl⟩
  obtain ⟨d', hd'⟩ : ∃ d', d / (gcd3 x y d : Int) = d' := ⟨_, rfl⟩
  have el : lowF x y d = if okF x' y' d' = true then some (x', y', d') else none := by
    unfold lowF
    simp only []
    rw [hx', hy', hd']
  rw [hx'] at ex h1
  rw [hy'] at ey h1
  rw [hd'] at ed h1
  have hd1 : 1 ≤ d' := by
    rcases Int.lt_or_le d' 1 with h | h
    · have : g * d' ≤ 0 := Int.mul_nonpos_of_nonneg_of_nonpos (by omega) (by omega)
      omega
    · exact h
  rw [el]
  clear el eg hx' hy' hd'
  constructor
  · intro h
    split at h
    · rename_i hk
      simp only [Option.some.injEq, Prod.mk.injEq] at h
      obtain ⟨rfl, rfl, rfl⟩ := h
      refine ⟨hk, ?_, ?_⟩
      · rw [ed, ex]; grind
      · rw [ed, ey]; grind
    · cases h
  · rintro ⟨hk, e1, e2⟩
    have b := (okF_bd hk).2.2.1
    have f1 : x' * r = p * d' := Int.eq_of_mul_eq_mul_left (a := g) (by omega) (by rw [ed, ex] at e1; grind)
    have f2 : y' * r = q * d' := Int.eq_of_mul_eq_mul_left (a := g) (by omega) (by rw [ed, ey] at e2; grind)
    have u := uniq h1 (okF_gcd hk) hd1 b f1 f2
    simp only [Prod.mk.injEq] at u
    obtain ⟨rfl, rfl, rfl⟩ := u
    rw [if_pos hk]
theorem mul_pos1 {a b : Int} (ha : 1 ≤ a) (hb : 1 ≤ b) : 1 ≤ a * b := by
  have := Int.mul_le_mul (a := 1) (b := 1) (c := a) (d := b) (by omega) (by omega) (by omega) (by omega)
  omega
theorem sum_some {s x y z a b c p q r : Int} (h : sumF s x y z a b c = some (p, q, r)) :
    okF x y z = true ∧ okF a b c = true ∧ okF p q r = true ∧ p * (z * c) = (x * c + s * a * z) * r ∧ q * (z * c) = (y * c + s * b * z) * r := by
  unfold sumF at h
  split at h
  · rename_i hk
    simp only [Bool.and_eq_true] at hk
    exact ⟨hk.1, hk.2, (low_iff (mul_pos1 (okF_bd hk.1).2.2.1 (okF_bd hk.2).2.2.1)).1 h⟩
  · cases h
theorem sum_of {s x y z a b c p q r : Int} (h1 : okF x y z = true) (h2 : okF a b c = true) (h3 : okF p q r = true) (e1 : p * (z * c) = (x * c + s * a * z) * r) (e2 : q * (z * c) = (y * c + s * b * z) * r) :
    sumF s x y z a b c = some (p, q, r) := by
  unfold sumF
  rw [h1, h2]
  exact (low_iff (mul_pos1 (okF_bd h1).2.2.1 (okF_bd h2).2.2.1)).2 ⟨h3, e1, e2⟩
theorem times_some {x y z a b c p q r : Int} (h : timesF x y z a b c = some (p, q, r)) :
    okF x y z = true ∧ okF a b c = true ∧ okF p q r = true ∧ p * (z * c) = (x * a - y * b) * r ∧ q * (z * c) = (x * b + y * a) * r := by
  unfold timesF at h
  split at h
  · rename_i hk
    simp only [Bool.and_eq_true] at hk
    exact ⟨hk.1, hk.2, (low_iff (mul_pos1 (okF_bd hk.1).2.2.1 (okF_bd hk.2).2.2.1)).1 h⟩
  · cases h
theorem times_of {x y z a b c p q r : Int} (h1 : okF x y z = true) (h2 : okF a b c = true) (h3 : okF p q r = true) (e1 : p * (z * c) = (x * a - y * b) * r) (e2 : q * (z * c) = (x * b + y * a) * r) :
    timesF x y z a b c = some (p, q, r) := by
  unfold timesF
  rw [h1, h2]
  exact (low_iff (mul_pos1 (okF_bd h1).2.2.1 (okF_bd h2).2.2.1)).2 ⟨h3, e1, e2⟩

/-! Sums and differences. -/
/-! Products and quotients. -/
/-! Powers. -/
/-! Making and mirroring. -/
/-! Orders. -/
/-- A part over a bottom, as a rational number. -/
def rv (x z : Int) : Rat := (x : Rat) / (z : Rat)
theorem ne0 {z : Int} (h : 1 ≤ z) : (z : Rat) ≠ 0 := by
  intro e
  have : z = 0 := by exact_mod_cast e
  omega
theorem rv_eq {x z p r : Int} (hz : 1 ≤ z) (hr : 1 ≤ r) : rv x z = rv p r ↔ x * r = p * z := by
  have h1 := ne0 hz
  have h2 := ne0 hr
  unfold rv
  constructor
  · intro h
    have : (x : Rat) * r = p * z := by grind
    exact_mod_cast this
  · intro h
    have : (x : Rat) * r = p * z := by exact_mod_cast h
    grind
theorem rv_neg (x z : Int) : rv (-x) z = -rv x z := by
  unfold rv
  have : ((-x : Int) : Rat) = -(x : Rat) := by exact_mod_cast rfl
  rw [this]
  grind
theorem rv_zero (z : Int) : rv 0 z = 0 := by
  unfold rv
  have : ((0 : Int) : Rat) = 0 := by exact_mod_cast rfl
  rw [this]
  grind
theorem rv_one (x : Int) : rv x 1 = (x : Rat) := by
  unfold rv
  have : ((1 : Int) : Rat) = 1 := by exact_mod_cast rfl
  rw [this]
  grind
theorem okF_den {x y z : Int} (h : okF x y z = true) : 1 ≤ z := (okF_bd h).2.2.1
theorem uniqV {x y z p q r : Int} (h1 : okF x y z = true) (h2 : okF p q r = true) (e1 : rv x z = rv p r) (e2 : rv y z = rv q r) : (x, y, z) = (p, q, r) :=
  uniqF h1 h2 ((rv_eq (okF_den h1) (okF_den h2)).1 e1) ((rv_eq (okF_den h1) (okF_den h2)).1 e2)
theorem times_val {x y z a b c p q r : Int} (h : timesF x y z a b c = some (p, q, r)) :
    okF x y z = true ∧ okF a b c = true ∧ okF p q r = true ∧ rv p r = rv x z * rv a c - rv y z * rv b c ∧ rv q r = rv x z * rv b c + rv y z * rv a c := by
  obtain ⟨h1, h2, h3, e1, e2⟩ := times_some h
  refine ⟨h1, h2, h3, ?_, ?_⟩
  all_goals
    have hz := ne0 (okF_den h1)
    have hc := ne0 (okF_den h2)
    have hr := ne0 (okF_den h3)
    unfold rv
  · have : (p : Rat) * (z * c) = (x * a - y * b) * r := by exact_mod_cast e1
    grind
  · have : (q : Rat) * (z * c) = (x * b + y * a) * r := by exact_mod_cast e2
    grind
theorem times_ofV {x y z a b c p q r : Int} (h1 : okF x y z = true) (h2 : okF a b c = true) (h3 : okF p q r = true) (e1 : rv p r = rv x z * rv a c - rv y z * rv b c) (e2 : rv q r = rv x z * rv b c + rv y z * rv a c) : timesF x y z a b c = some (p, q, r) := by
  have hz := ne0 (okF_den h1)
  have hc := ne0 (okF_den h2)
  have hr := ne0 (okF_den h3)
  unfold rv at e1 e2
  refine times_of h1 h2 h3 ?_ ?_
  · have : (p : Rat) * (z * c) = (x * a - y * b) * r := by grind
    exact_mod_cast this
  · have : (q : Rat) * (z * c) = (x * b + y * a) * r := by grind
    exact_mod_cast this
theorem sum_val {x y z a b c p q r : Int} (h : sumF 1 x y z a b c = some (p, q, r)) :
    okF x y z = true ∧ okF a b c = true ∧ okF p q r = true ∧ rv p r = rv x z + rv a c ∧ rv q r = rv y z + rv b c := by
  obtain ⟨h1, h2, h3, e1, e2⟩ := sum_some h
  refine ⟨h1, h2, h3, ?_, ?_⟩
  all_goals
    have hz := ne0 (okF_den h1)
    have hc := ne0 (okF_den h2)
    have hr := ne0 (okF_den h3)
    unfold rv
  · have : (p : Rat) * (z * c) = (x * c + 1 * a * z) * r := by exact_mod_cast e1
    grind
  · have : (q : Rat) * (z * c) = (y * c + 1 * b * z) * r := by exact_mod_cast e2
    grind
theorem sum_ofV {x y z a b c p q r : Int} (h1 : okF x y z = true) (h2 : okF a b c = true) (h3 : okF p q r = true) (e1 : rv p r = rv x z + rv a c) (e2 : rv q r = rv y z + rv b c) : sumF 1 x y z a b c = some (p, q, r) := by
  have hz := ne0 (okF_den h1)
  have hc := ne0 (okF_den h2)
  have hr := ne0 (okF_den h3)
  unfold rv at e1 e2
  refine sum_of h1 h2 h3 ?_ ?_
  · have : (p : Rat) * (z * c) = (x * c + 1 * a * z) * r := by grind
    exact_mod_cast this
  · have : (q : Rat) * (z * c) = (y * c + 1 * b * z) * r := by grind
    exact_mod_cast this
end Go.Proofs.YtkdkeacfifjjoabGreatDoor
