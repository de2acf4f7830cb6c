/-
  The program's vector of four numbers of pure light.
-/
import Derived.Test.YtchdcncnlfgjfaaGreatDoorImplN5
import Derived.Test.YtchdcncnlfgjfaaGreatDoorImplN10
import Derived.Test.YtchdcncnlfgjfaaGreatDoorStokesDef2
import Derived.Test.YtchdcncnlfgjfaaGreatDoorImplAlike
namespace Go.Proofs.YtchdcncnlfgjfaaGreatDoor
open Go.ChangeShapes Go.WideShapes Go.ChangeAt Go.RowKit
set_option linter.unusedVariables false

theorem natAbs_le_sq {n : Nat} (h : n * n ≤ 2000000000) : n ≤ 1000000000 := by
  rcases Nat.lt_or_ge 1000000000 n with k | k
  · have := Nat.mul_le_mul k k
    omega
  · exact k
/-- A real fraction whose square is told has a small top. -/
theorem sq_small {x z p q r : Int} (hk : okF x 0 z = true) (h : timesF x 0 z x 0 z = some (p, q, r)) : -1000000000 ≤ x ∧ x ≤ 1000000000 := by
  obtain ⟨_, _, k, e, -⟩ := times_some h
  have hg := okF_gcd hk
  have bp := okF_bd k
  unfold gcd3 at hg
  rw [Int.gcd_zero_right] at hg
  have hc : Nat.Coprime z.natAbs x.natAbs := by simpa [Int.gcd] using hg
  have hc2 : Nat.Coprime (x.natAbs * x.natAbs) (z.natAbs * z.natAbs) := by
    have h1 : Nat.Coprime (x.natAbs * x.natAbs) z.natAbs := Nat.Coprime.mul_left hc.symm hc.symm
    exact Nat.Coprime.mul_right h1 h1
  have e2 : p.natAbs * (z.natAbs * z.natAbs) = x.natAbs * x.natAbs * r.natAbs := by
    have := congrArg Int.natAbs e
    simpa [Int.natAbs_mul] using this
  have hd : x.natAbs * x.natAbs ∣ p.natAbs := hc2.dvd_of_dvd_mul_right ⟨r.natAbs, e2⟩
  have hx : x.natAbs ≤ 1000000000 := by
    rcases Nat.eq_zero_or_pos p.natAbs with hp | hp
    · rw [hp, Nat.zero_mul] at e2
      have hr : 0 < r.natAbs := by omega
      have h0 : x.natAbs * x.natAbs = 0 := by
        rcases Nat.mul_eq_zero.1 e2.symm with h | h
        · exact h
        · omega
      have : x.natAbs = 0 := by
        rcases Nat.mul_eq_zero.1 h0 with h | h <;> exact h
      omega
    · exact natAbs_le_sq (Nat.le_trans (Nat.le_of_dvd hp hd) (by omega))
  omega
theorem turn_up {x z : Int} (h : okF x 0 z = true) : timesF x 0 z 0 1 1 = some (0, x, z) ∧ timesF x 0 z 0 (-1) 1 = some (0, -x, z) := by
  have k1 : okF 0 x z = true := by
    have hb := okF_bd h
    have hg := okF_gcd h
    unfold okF at h ⊢
    simp only [Bool.and_eq_true, decide_eq_true_eq] at h ⊢
    refine ⟨⟨⟨by unfold partB inB; decide, h.1.1.1⟩, h.1.2⟩, ?_⟩
    have g := h.2
    unfold gcd3 at g ⊢
    rw [Int.gcd_zero_right] at g ⊢
    first | (simpa using g) | (simpa [Int.gcd_natCast_left] using g) | (simpa [Int.gcd] using g)
  have k2 : okF 0 (-x) z = true := by
    have := okF_neg2 0 x z
    simp only [Int.neg_zero] at this
    rw [this]; exact k1
  have o : ((1 : Int) : Rat) = 1 := by exact_mod_cast rfl
  constructor
  · refine times_ofV h (by decide) k1 ?_ ?_
    · simp only [rv_zero]; grind
    · rw [rv_zero, rv_zero, rv_one, o]; grind
  · refine times_ofV h (by decide) k2 ?_ ?_
    · simp only [rv_zero]; grind
    · rw [rv_zero, rv_zero, rv_neg, rv_neg, rv_one, o]; grind
theorem less_up (x y z d t : Int) : sumF (-1) x y z 0 d t = sumF 1 x y z 0 (-d) t := by
  have := okF_neg2 0 d t
  simp only [Int.neg_zero] at this
  unfold sumF
  rw [this, show x * t + -1 * 0 * z = x * t + 1 * 0 * z by omega, show y * t + -1 * d * z = y * t + 1 * -d * z by grind]
theorem twice_told {x z p q r : Int} (hk : okF x 0 z = true) (h : timesF x 0 z x 0 z = some (p, q, r)) : ∃ t1 t2 t3, sumF 1 x 0 z x 0 z = some (t1, t2, t3) ∧ makeF (2 * x) 0 z = some (t1, t2, t3) := by
  obtain ⟨u, t, e1, e2⟩ := low_part x hk (okF_bd hk).1
  rw [okF_low.1 hk] at e1
  obtain ⟨⟩ := e1
  have bx := sq_small hk h
  have bz := okF_bd hk
  obtain ⟨t1, t2, t3, ht⟩ := low_told (x := 2 * x) (y := 0) bz.2.2.1 bz.2.2.2 (by omega) (by omega)
  have hm : makeF (2 * x) 0 z = lowF (2 * x) 0 z := by
    unfold makeF inB
    rw [if_pos (by simp only [Bool.and_eq_true, decide_eq_true_eq]; omega)]
  exact ⟨t1, t2, t3, by rw [e2, hm, ht], by rw [hm, ht]⟩
theorem svec_real {a1 a3 b1 b3 c1 c3 d1 d3 : Int} (hv : pureF a1 0 a3 b1 0 b3 c1 0 c3 d1 0 d3 = true) (hz : ¬ a1 = 0) : ∃ t1 t2 t3, sumF 1 a1 0 a3 a1 0 a3 = some (t1, t2, t3) ∧ timesF d1 0 d3 0 1 1 = some (0, d1, d3) ∧
    svecF a1 0 a3 b1 0 b3 c1 0 c3 d1 0 d3 = (sumF 1 a1 0 a3 b1 0 b3).bind fun s => if s.1 = 0 then some ((0, 0, 1), (t1, t2, t3)) else (sumF (-1) c1 0 c3 0 d1 d3).bind fun y => some (s, y) := by
  obtain ⟨hs, -, ⟨⟨p, q, r⟩, hsq⟩, -, -⟩ := pure_val hv
  obtain ⟨ga, gb, gc, gd⟩ := sValid_ok hs
  have ka := (realB_ok ga).1
  have kd := (realB_ok gd).1
  obtain ⟨t1, t2, t3, e1, e2⟩ := twice_told ka hsq
  refine ⟨t1, t2, t3, e1, (turn_up kd).1, ?_⟩
  have h0 : (!(a1 == 0)) = true := by simp [hz]
  unfold svecF addF
  rw [hv, h0, e2, (turn_up kd).2]
  simp only [Bool.and_self, if_true, Option.bind_some]
  rw [← less_up]
/-- A vector and no error; or an error. -/
def ErredV (o : Option ((Int × Int × Int) × (Int × Int × Int))) (w : World) (e : Ending) (w' : World) : Prop :=
  (∀ x1 x2 x3 y1 y2 y3, o = some ((x1, x2, x3), (y1, y2, y3)) → e = .returned (.tuple #[.agg #[.int .i64 x1, .int .i64 x2, .int .i64 x3, .int .i64 y1, .int .i64 y2, .int .i64 y3], .nilIface])) ∧ (o = none → ∃ x1 x2 x3 y1 y2 y3 s, e = .returned (.tuple #[.agg #[.int .i64 x1, .int .i64 x2, .int .i64 x3, .int .i64 y1, .int .i64 y2, .int .i64 y3], .iface 81 (.agg #[.string s])])) ∧ Below w.heap.size w w'
theorem npure_yes {a1 a2 a3 b1 b2 b3 c1 c2 c3 d1 d2 d3 : Int} (hp : pureF a1 a2 a3 b1 b2 b3 c1 c2 c3 d1 d2 d3 = true) {w : World} {e : Ending} {w' : World} (h : ErredPure (restF a1 a2 a3 b1 b2 b3 c1 c2 c3 d1 d2 d3) (decide (0 ≤ a1)) w e w') : e = .returned (.tuple #[.bool true, .nilIface]) ∧ Below w.heap.size w w' := by
  unfold pureF at hp
  simp only [Bool.and_eq_true, decide_eq_true_eq] at hp
  obtain ⟨⟨h1, h2⟩, h3⟩ := hp
  obtain ⟨n, hn⟩ := Option.isSome_iff_exists.1 h1
  rw [hn] at h2
  refine ⟨?_, h.2.2⟩
  rw [h.1 n hn, show n = 0 from h2]
  simp [h3]
theorem npure_no {a1 a2 a3 b1 b2 b3 c1 c2 c3 d1 d2 d3 : Int} (hp : pureF a1 a2 a3 b1 b2 b3 c1 c2 c3 d1 d2 d3 = false) {w : World} {e : Ending} {w' : World} (h : ErredPure (restF a1 a2 a3 b1 b2 b3 c1 c2 c3 d1 d2 d3) (decide (0 ≤ a1)) w e w') : (e = .returned (.tuple #[.bool false, .nilIface]) ∨ ∃ k s, e = .returned (.tuple #[.bool k, .iface 81 (.agg #[.string s])])) ∧ Below w.heap.size w w' := by
  refine ⟨?_, h.2.2⟩
  cases hr : restF a1 a2 a3 b1 b2 b3 c1 c2 c3 d1 d2 d3 with
  | none => exact Or.inr (h.2.1 hr)
  | some n =>
    refine Or.inl ?_
    rw [h.1 n hr]
    unfold pureF at hp
    rw [hr] at hp
    simp only [Option.isSome_some, Bool.true_and, Option.getD_some] at hp
    rw [hp]
set_option maxHeartbeats 16000000 in
theorem nvector_pure (a1 a3 b1 b3 c1 c3 d1 d3 : Int) (ha1 : i64B a1) (ha3 : i64B a3) (hb1 : i64B b1) (hb3 : i64B b3) (hc1 : i64B c1) (hc3 : i64B c3) (hd1 : i64B d1) (hd3 : i64B d3) (h0 : i64B 0) (h1' : i64B 1) (B : Nat) (w : World) (Ma : Mp w B [.agg #[.int .i64 a1, .int .i64 0, .int .i64 a3], .agg #[.int .i64 b1, .int .i64 0, .int .i64 b3], .agg #[.int .i64 c1, .int .i64 0, .int .i64 c3], .agg #[.int .i64 d1, .int .i64 0, .int .i64 d3]]) (hv : pureF a1 0 a3 b1 0 b3 c1 0 c3 d1 0 d3 = true) :
    Calls Tryz.prog 18 #[.map (some B)] w (ErredV (svecF a1 0 a3 b1 0 b3 c1 0 c3 d1 0 d3) w) := by
  have HP := Lib.hid fun W M => (npure_any a1 0 a3 b1 0 b3 c1 0 c3 d1 0 d3 ha1 h0 ha3 hb1 h0 hb3 hc1 h0 hc3 hd1 h0 hd3 B W M).mono fun e w' h => npure_yes hv h
  have ka := (realB_ok (sValid_ok (pure_val hv).1).1).1
  by_cases hz : a1 = 0
  · rw [svec_dark hz]
    have hi : (a1 == 0 && (0 : Int) == 0 && a3 == 1) = true := by rw [okF_zero ka, hz]; rfl
    have HZ := Lib.hid fun w => misZero_of a1 0 a3 true hi w
    clear hv ka hz hi
    have ma := Ma.out
    have na_w := Ma.lt
    have qr1 := @mapOf_drew
    have qr2 := @mapOf_drewN
    have qr3 := @mapOf_cells
    have qr5 := @mapOf_setCell
    have qa0 := @look0 (B) (.agg #[.int .i64 a1, .int .i64 0, .int .i64 a3]) (.agg #[.int .i64 b1, .int .i64 0, .int .i64 b3]) (.agg #[.int .i64 c1, .int .i64 0, .int .i64 c3]) (.agg #[.int .i64 d1, .int .i64 0, .int .i64 d3])
    have qa1 := @look1 (B) (.agg #[.int .i64 a1, .int .i64 0, .int .i64 a3]) (.agg #[.int .i64 b1, .int .i64 0, .int .i64 b3]) (.agg #[.int .i64 c1, .int .i64 0, .int .i64 c3]) (.agg #[.int .i64 d1, .int .i64 0, .int .i64 d3])
    have qa2 := @look2 (B) (.agg #[.int .i64 a1, .int .i64 0, .int .i64 a3]) (.agg #[.int .i64 b1, .int .i64 0, .int .i64 b3]) (.agg #[.int .i64 c1, .int .i64 0, .int .i64 c3]) (.agg #[.int .i64 d1, .int .i64 0, .int .i64 d3])
    have qa3 := @look3 (B) (.agg #[.int .i64 a1, .int .i64 0, .int .i64 a3]) (.agg #[.int .i64 b1, .int .i64 0, .int .i64 b3]) (.agg #[.int .i64 c1, .int .i64 0, .int .i64 c3]) (.agg #[.int .i64 d1, .int .i64 0, .int .i64 d3])
    go_enter Tryz.func18, Tryz.ntmps18
    go_wp2_with fail
    refine (HP.out _ (by repeat' (first | (with_reducible first | assumption | refine Mp.drew ?_ | refine Mp.drewN ?_ _ | refine Mp.set ?_ _ _ | (refine Mp.new ?_; focus (first | rfl | (simp; done)))) | (refine Mp.put (vs := []) ?_ rfl rfl) | (refine Mp.put (vs := [.agg #[.int .i64 a1, .int .i64 0, .int .i64 a3]]) ?_ rfl rfl) | (refine Mp.put (vs := [.agg #[.int .i64 a1, .int .i64 0, .int .i64 a3], .agg #[.int .i64 b1, .int .i64 0, .int .i64 b3]]) ?_ rfl rfl) | (refine Mp.put (vs := [.agg #[.int .i64 a1, .int .i64 0, .int .i64 a3], .agg #[.int .i64 b1, .int .i64 0, .int .i64 b3], .agg #[.int .i64 c1, .int .i64 0, .int .i64 c3]]) ?_ rfl rfl) | (with_reducible first | refine Mp.putOther ?_ ?_ _ _ | refine Mp.alloc ?_ _) | (refine neB ?_; omega)))).mono ?_
    rintro e W1 ⟨rfl, hb⟩
    have Br : Blk W1 (w.heap.size) [.int .i64 0, .int .i64 0, .int .i64 0, .int .i64 0, .int .i64 0, .int .i64 0] := Blk.keep hb (by repeat' (first | (with_reducible first | assumption | refine Blk.drew ?_ | refine Blk.drewN ?_ _ | refine Blk.mapPut ?_ _ _ | apply Blk.set | (refine Blk.new ?_; focus (first | rfl | (simp; done))) | refine Blk.alloc ?_ _ | refine Blk.other ?_ ?_ _) | exact eqL rfl | (refine neB ?_; omega)))
    have Ma : Mp W1 (B) [.agg #[.int .i64 a1, .int .i64 0, .int .i64 a3], .agg #[.int .i64 b1, .int .i64 0, .int .i64 b3], .agg #[.int .i64 c1, .int .i64 0, .int .i64 c3], .agg #[.int .i64 d1, .int .i64 0, .int .i64 d3]] := Mp.keep hb (by repeat' (first | (with_reducible first | assumption | refine Mp.drew ?_ | refine Mp.drewN ?_ _ | refine Mp.set ?_ _ _ | (refine Mp.new ?_; focus (first | rfl | (simp; done)))) | (refine Mp.put (vs := []) ?_ rfl rfl) | (refine Mp.put (vs := [.agg #[.int .i64 a1, .int .i64 0, .int .i64 a3]]) ?_ rfl rfl) | (refine Mp.put (vs := [.agg #[.int .i64 a1, .int .i64 0, .int .i64 a3], .agg #[.int .i64 b1, .int .i64 0, .int .i64 b3]]) ?_ rfl rfl) | (refine Mp.put (vs := [.agg #[.int .i64 a1, .int .i64 0, .int .i64 a3], .agg #[.int .i64 b1, .int .i64 0, .int .i64 b3], .agg #[.int .i64 c1, .int .i64 0, .int .i64 c3]]) ?_ rfl rfl) | (with_reducible first | refine Mp.putOther ?_ ?_ _ _ | refine Mp.alloc ?_ _) | (refine neB ?_; omega)))
    have cr := Br.cell
    have fr := Br.free
    have lr_W1 := Br.lt
    have ma := Ma.out
    have na_W1 := Ma.lt
    have kaW1 : Acc w W1 := by
      refine Acc.call ?_ hb
      (repeat' (first | (with_reducible first | assumption | exact Acc.refl _ | refine Acc.drew ?_ | refine Acc.drewN ?_ _ | refine Acc.alloc ?_ _ | refine Acc.setCell ?_ ?_ _ | refine Acc.mapPut ?_ ?_ _ _) | (refine leB ?_; omega)))
    clear hb
    go_wp2_with fail
    refine (HZ.out _).mono ?_
    rintro e W2 ⟨rfl, hb⟩
    have Br : Blk W2 (w.heap.size) [.int .i64 0, .int .i64 0, .int .i64 0, .int .i64 0, .int .i64 0, .int .i64 0] := Blk.keep hb (by repeat' (first | (with_reducible first | assumption | refine Blk.drew ?_ | refine Blk.drewN ?_ _ | refine Blk.mapPut ?_ _ _ | apply Blk.set | (refine Blk.new ?_; focus (first | rfl | (simp; done))) | refine Blk.alloc ?_ _ | refine Blk.other ?_ ?_ _) | exact eqL rfl | (refine neB ?_; omega)))
    have Ma : Mp W2 (B) [.agg #[.int .i64 a1, .int .i64 0, .int .i64 a3], .agg #[.int .i64 b1, .int .i64 0, .int .i64 b3], .agg #[.int .i64 c1, .int .i64 0, .int .i64 c3], .agg #[.int .i64 d1, .int .i64 0, .int .i64 d3]] := Mp.keep hb (by repeat' (first | (with_reducible first | assumption | refine Mp.drew ?_ | refine Mp.drewN ?_ _ | refine Mp.set ?_ _ _ | (refine Mp.new ?_; focus (first | rfl | (simp; done)))) | (refine Mp.put (vs := []) ?_ rfl rfl) | (refine Mp.put (vs := [.agg #[.int .i64 a1, .int .i64 0, .int .i64 a3]]) ?_ rfl rfl) | (refine Mp.put (vs := [.agg #[.int .i64 a1, .int .i64 0, .int .i64 a3], .agg #[.int .i64 b1, .int .i64 0, .int .i64 b3]]) ?_ rfl rfl) | (refine Mp.put (vs := [.agg #[.int .i64 a1, .int .i64 0, .int .i64 a3], .agg #[.int .i64 b1, .int .i64 0, .int .i64 b3], .agg #[.int .i64 c1, .int .i64 0, .int .i64 c3]]) ?_ rfl rfl) | (with_reducible first | refine Mp.putOther ?_ ?_ _ _ | refine Mp.alloc ?_ _) | (refine neB ?_; omega)))
    have cr := Br.cell
    have fr := Br.free
    have lr_W2 := Br.lt
    have ma := Ma.out
    have na_W2 := Ma.lt
    have kaW2 : Acc w W2 := by
      refine Acc.call ?_ hb
      (repeat' (first | (with_reducible first | assumption | exact Acc.refl _ | refine Acc.drew ?_ | refine Acc.drewN ?_ _ | refine Acc.alloc ?_ _ | refine Acc.setCell ?_ ?_ _ | refine Acc.mapPut ?_ ?_ _ _) | (refine leB ?_; omega)))
    clear hb
    go_wp2_with fail
    refine bodyPost_ret (by conv => lhs; simp [results, Tryz.results18, go_sem, *]) rfl ⟨fun _ _ _ _ _ _ h => (by cases h), fun _ => ⟨_, _, _, _, _, _, _, rfl⟩, ?_⟩
    show Acc w _
    (repeat' (first | (with_reducible first | assumption | exact Acc.refl _ | refine Acc.drew ?_ | refine Acc.drewN ?_ _ | refine Acc.alloc ?_ _ | refine Acc.setCell ?_ ?_ _ | refine Acc.mapPut ?_ ?_ _ _) | (refine leB ?_; omega)))
  · have hi : (a1 == 0 && (0 : Int) == 0 && a3 == 1) = false := by rw [okF_zero ka]; simp [hz]
    have HZ := Lib.hid fun w => misZero_of a1 0 a3 false hi w
    obtain ⟨t1, t2, t3, e1, e2, e3⟩ := svec_real hv hz
    rw [e3]
    obtain ⟨ht1, ht2, ht3⟩ := okF_i64 (sum_some e1).2.2.1
    have HS := Lib.hid fun w => plus_any a1 0 a3 b1 0 b3 w ha1 h0 ha3 hb1 h0 hb3
    have HT := Lib.hid fun w => plus_any a1 0 a3 a1 0 a3 w ha1 h0 ha3 ha1 h0 ha3
    have HU := Lib.hid fun w => mtimes_any d1 0 d3 0 1 1 w hd1 h0 hd3 h0 h1' h1'
    have HM := Lib.hid fun w => minus_any c1 0 c3 0 d1 d3 w hc1 h0 hc3 h0 hd1 hd3
    rw [e1] at HT
    rw [e2] at HU
    clear hv ka hz hi e1 e2 e3
    obtain ⟨o, ho⟩ : ∃ o, sumF (-1) c1 0 c3 0 d1 d3 = o := ⟨_, rfl⟩
    rw [ho] at HM ⊢
    clear ho
    obtain ⟨O, E⟩ : ∃ O, ((sumF 1 a1 0 a3 b1 0 b3).bind fun s => if s.1 = 0 then some ((0, 0, 1), (t1, t2, t3)) else o.bind fun y => some (s, y)) = O := ⟨_, rfl⟩
    rw [E]
    have HE := Lib.hid E
    clear E
    have ma := Ma.out
    have na_w := Ma.lt
    have qr1 := @mapOf_drew
    have qr2 := @mapOf_drewN
    have qr3 := @mapOf_cells
    have qr5 := @mapOf_setCell
    have qa0 := @look0 (B) (.agg #[.int .i64 a1, .int .i64 0, .int .i64 a3]) (.agg #[.int .i64 b1, .int .i64 0, .int .i64 b3]) (.agg #[.int .i64 c1, .int .i64 0, .int .i64 c3]) (.agg #[.int .i64 d1, .int .i64 0, .int .i64 d3])
    have qa1 := @look1 (B) (.agg #[.int .i64 a1, .int .i64 0, .int .i64 a3]) (.agg #[.int .i64 b1, .int .i64 0, .int .i64 b3]) (.agg #[.int .i64 c1, .int .i64 0, .int .i64 c3]) (.agg #[.int .i64 d1, .int .i64 0, .int .i64 d3])
    have qa2 := @look2 (B) (.agg #[.int .i64 a1, .int .i64 0, .int .i64 a3]) (.agg #[.int .i64 b1, .int .i64 0, .int .i64 b3]) (.agg #[.int .i64 c1, .int .i64 0, .int .i64 c3]) (.agg #[.int .i64 d1, .int .i64 0, .int .i64 d3])
    have qa3 := @look3 (B) (.agg #[.int .i64 a1, .int .i64 0, .int .i64 a3]) (.agg #[.int .i64 b1, .int .i64 0, .int .i64 b3]) (.agg #[.int .i64 c1, .int .i64 0, .int .i64 c3]) (.agg #[.int .i64 d1, .int .i64 0, .int .i64 d3])
    go_enter Tryz.func18, Tryz.ntmps18
    go_wp2_with fail
    refine (HP.out _ (by repeat' (first | (with_reducible first | assumption | refine Mp.drew ?_ | refine Mp.drewN ?_ _ | refine Mp.set ?_ _ _ | (refine Mp.new ?_; focus (first | rfl | (simp; done)))) | (refine Mp.put (vs := []) ?_ rfl rfl) | (refine Mp.put (vs := [.agg #[.int .i64 a1, .int .i64 0, .int .i64 a3]]) ?_ rfl rfl) | (refine Mp.put (vs := [.agg #[.int .i64 a1, .int .i64 0, .int .i64 a3], .agg #[.int .i64 b1, .int .i64 0, .int .i64 b3]]) ?_ rfl rfl) | (refine Mp.put (vs := [.agg #[.int .i64 a1, .int .i64 0, .int .i64 a3], .agg #[.int .i64 b1, .int .i64 0, .int .i64 b3], .agg #[.int .i64 c1, .int .i64 0, .int .i64 c3]]) ?_ rfl rfl) | (with_reducible first | refine Mp.putOther ?_ ?_ _ _ | refine Mp.alloc ?_ _) | (refine neB ?_; omega)))).mono ?_
    rintro e W1 ⟨rfl, hb⟩
    have Br : Blk W1 (w.heap.size) [.int .i64 0, .int .i64 0, .int .i64 0, .int .i64 0, .int .i64 0, .int .i64 0] := Blk.keep hb (by repeat' (first | (with_reducible first | assumption | refine Blk.drew ?_ | refine Blk.drewN ?_ _ | refine Blk.mapPut ?_ _ _ | apply Blk.set | (refine Blk.new ?_; focus (first | rfl | (simp; done))) | refine Blk.alloc ?_ _ | refine Blk.other ?_ ?_ _) | exact eqL rfl | (refine neB ?_; omega)))
    have Ma : Mp W1 (B) [.agg #[.int .i64 a1, .int .i64 0, .int .i64 a3], .agg #[.int .i64 b1, .int .i64 0, .int .i64 b3], .agg #[.int .i64 c1, .int .i64 0, .int .i64 c3], .agg #[.int .i64 d1, .int .i64 0, .int .i64 d3]] := Mp.keep hb (by repeat' (first | (with_reducible first | assumption | refine Mp.drew ?_ | refine Mp.drewN ?_ _ | refine Mp.set ?_ _ _ | (refine Mp.new ?_; focus (first | rfl | (simp; done)))) | (refine Mp.put (vs := []) ?_ rfl rfl) | (refine Mp.put (vs := [.agg #[.int .i64 a1, .int .i64 0, .int .i64 a3]]) ?_ rfl rfl) | (refine Mp.put (vs := [.agg #[.int .i64 a1, .int .i64 0, .int .i64 a3], .agg #[.int .i64 b1, .int .i64 0, .int .i64 b3]]) ?_ rfl rfl) | (refine Mp.put (vs := [.agg #[.int .i64 a1, .int .i64 0, .int .i64 a3], .agg #[.int .i64 b1, .int .i64 0, .int .i64 b3], .agg #[.int .i64 c1, .int .i64 0, .int .i64 c3]]) ?_ rfl rfl) | (with_reducible first | refine Mp.putOther ?_ ?_ _ _ | refine Mp.alloc ?_ _) | (refine neB ?_; omega)))
    have cr := Br.cell
    have fr := Br.free
    have lr_W1 := Br.lt
    have ma := Ma.out
    have na_W1 := Ma.lt
    have kaW1 : Acc w W1 := by
      refine Acc.call ?_ hb
      (repeat' (first | (with_reducible first | assumption | exact Acc.refl _ | refine Acc.drew ?_ | refine Acc.drewN ?_ _ | refine Acc.alloc ?_ _ | refine Acc.setCell ?_ ?_ _ | refine Acc.mapPut ?_ ?_ _ _) | (refine leB ?_; omega)))
    clear hb
    go_wp2_with fail
    refine (HZ.out _).mono ?_
    rintro e W2 ⟨rfl, hb⟩
    have Br : Blk W2 (w.heap.size) [.int .i64 0, .int .i64 0, .int .i64 0, .int .i64 0, .int .i64 0, .int .i64 0] := Blk.keep hb (by repeat' (first | (with_reducible first | assumption | refine Blk.drew ?_ | refine Blk.drewN ?_ _ | refine Blk.mapPut ?_ _ _ | apply Blk.set | (refine Blk.new ?_; focus (first | rfl | (simp; done))) | refine Blk.alloc ?_ _ | refine Blk.other ?_ ?_ _) | exact eqL rfl | (refine neB ?_; omega)))
    have Ma : Mp W2 (B) [.agg #[.int .i64 a1, .int .i64 0, .int .i64 a3], .agg #[.int .i64 b1, .int .i64 0, .int .i64 b3], .agg #[.int .i64 c1, .int .i64 0, .int .i64 c3], .agg #[.int .i64 d1, .int .i64 0, .int .i64 d3]] := Mp.keep hb (by repeat' (first | (with_reducible first | assumption | refine Mp.drew ?_ | refine Mp.drewN ?_ _ | refine Mp.set ?_ _ _ | (refine Mp.new ?_; focus (first | rfl | (simp; done)))) | (refine Mp.put (vs := []) ?_ rfl rfl) | (refine Mp.put (vs := [.agg #[.int .i64 a1, .int .i64 0, .int .i64 a3]]) ?_ rfl rfl) | (refine Mp.put (vs := [.agg #[.int .i64 a1, .int .i64 0, .int .i64 a3], .agg #[.int .i64 b1, .int .i64 0, .int .i64 b3]]) ?_ rfl rfl) | (refine Mp.put (vs := [.agg #[.int .i64 a1, .int .i64 0, .int .i64 a3], .agg #[.int .i64 b1, .int .i64 0, .int .i64 b3], .agg #[.int .i64 c1, .int .i64 0, .int .i64 c3]]) ?_ rfl rfl) | (with_reducible first | refine Mp.putOther ?_ ?_ _ _ | refine Mp.alloc ?_ _) | (refine neB ?_; omega)))
    have cr := Br.cell
    have fr := Br.free
    have lr_W2 := Br.lt
    have ma := Ma.out
    have na_W2 := Ma.lt
    have kaW2 : Acc w W2 := by
      refine Acc.call ?_ hb
      (repeat' (first | (with_reducible first | assumption | exact Acc.refl _ | refine Acc.drew ?_ | refine Acc.drewN ?_ _ | refine Acc.alloc ?_ _ | refine Acc.setCell ?_ ?_ _ | refine Acc.mapPut ?_ ?_ _ _) | (refine leB ?_; omega)))
    clear hb
    go_wp2_with fail
    refine (HS.out _).mono ?_
    rintro e W3 ⟨h1, h2, hb⟩
    have Br : Blk W3 (w.heap.size) [.int .i64 0, .int .i64 0, .int .i64 0, .int .i64 0, .int .i64 0, .int .i64 0] := Blk.keep hb (by repeat' (first | (with_reducible first | assumption | refine Blk.drew ?_ | refine Blk.drewN ?_ _ | refine Blk.mapPut ?_ _ _ | apply Blk.set | (refine Blk.new ?_; focus (first | rfl | (simp; done))) | refine Blk.alloc ?_ _ | refine Blk.other ?_ ?_ _) | exact eqL rfl | (refine neB ?_; omega)))
    have Ma : Mp W3 (B) [.agg #[.int .i64 a1, .int .i64 0, .int .i64 a3], .agg #[.int .i64 b1, .int .i64 0, .int .i64 b3], .agg #[.int .i64 c1, .int .i64 0, .int .i64 c3], .agg #[.int .i64 d1, .int .i64 0, .int .i64 d3]] := Mp.keep hb (by repeat' (first | (with_reducible first | assumption | refine Mp.drew ?_ | refine Mp.drewN ?_ _ | refine Mp.set ?_ _ _ | (refine Mp.new ?_; focus (first | rfl | (simp; done)))) | (refine Mp.put (vs := []) ?_ rfl rfl) | (refine Mp.put (vs := [.agg #[.int .i64 a1, .int .i64 0, .int .i64 a3]]) ?_ rfl rfl) | (refine Mp.put (vs := [.agg #[.int .i64 a1, .int .i64 0, .int .i64 a3], .agg #[.int .i64 b1, .int .i64 0, .int .i64 b3]]) ?_ rfl rfl) | (refine Mp.put (vs := [.agg #[.int .i64 a1, .int .i64 0, .int .i64 a3], .agg #[.int .i64 b1, .int .i64 0, .int .i64 b3], .agg #[.int .i64 c1, .int .i64 0, .int .i64 c3]]) ?_ rfl rfl) | (with_reducible first | refine Mp.putOther ?_ ?_ _ _ | refine Mp.alloc ?_ _) | (refine neB ?_; omega)))
    have cr := Br.cell
    have fr := Br.free
    have lr_W3 := Br.lt
    have ma := Ma.out
    have na_W3 := Ma.lt
    have kaW3 : Acc w W3 := by
      refine Acc.call ?_ hb
      (repeat' (first | (with_reducible first | assumption | exact Acc.refl _ | refine Acc.drew ?_ | refine Acc.drewN ?_ _ | refine Acc.alloc ?_ _ | refine Acc.setCell ?_ ?_ _ | refine Acc.mapPut ?_ ?_ _ _) | (refine leB ?_; omega)))
    clear hb
    cases hp : sumF 1 a1 0 a3 b1 0 b3 with
    | none =>
      obtain rfl : O = none := HE.out.symm.trans (by rw [hp]; rfl)
      obtain ⟨s, rfl⟩ := h2 hp
      clear h1 h2 hp
      go_wp2_with fail
      refine bodyPost_ret (by conv => lhs; simp [results, Tryz.results18, go_sem, *]) rfl ⟨fun _ _ _ _ _ _ h => (by cases h), fun _ => ⟨_, _, _, _, _, _, _, rfl⟩, ?_⟩
      show Acc w _
      (repeat' (first | (with_reducible first | assumption | exact Acc.refl _ | refine Acc.drew ?_ | refine Acc.drewN ?_ _ | refine Acc.alloc ?_ _ | refine Acc.setCell ?_ ?_ _ | refine Acc.mapPut ?_ ?_ _ _) | (refine leB ?_; omega)))
    | some v =>
      obtain ⟨p1, p2, p3⟩ := v
      obtain rfl := h1 _ _ _ hp
      obtain ⟨kp, rfl, -⟩ := sum_real hp
      have e := HE.out
      rw [hp, Option.bind_some] at e
      clear h1 h2 hp HE
      by_cases hz : p1 = 0
      · subst hz
        have hp3 : p3 = 1 := by
          have := okF_zero kp
          simpa using this
        subst hp3
        rw [if_pos rfl] at e
        subst e
        have HI := Lib.hid fun w => misZero_of 0 0 1 true rfl w
        clear kp
        go_wp2_with fail
        refine (HI.out _).mono ?_
        rintro e W4 ⟨rfl, hb⟩
        have Br : Blk W4 (w.heap.size) [.int .i64 0, .int .i64 0, .int .i64 0, .int .i64 0, .int .i64 0, .int .i64 0] := Blk.keep hb (by repeat' (first | (with_reducible first | assumption | refine Blk.drew ?_ | refine Blk.drewN ?_ _ | refine Blk.mapPut ?_ _ _ | apply Blk.set | (refine Blk.new ?_; focus (first | rfl | (simp; done))) | refine Blk.alloc ?_ _ | refine Blk.other ?_ ?_ _) | exact eqL rfl | (refine neB ?_; omega)))
        have Bx : Blk W4 (W3.heap.size) [.int .i64 0, .int .i64 0, .int .i64 1] := Blk.keep hb (by repeat' (first | (with_reducible first | assumption | refine Blk.drew ?_ | refine Blk.drewN ?_ _ | refine Blk.mapPut ?_ _ _ | apply Blk.set | (refine Blk.new ?_; focus (first | rfl | (simp; done))) | refine Blk.alloc ?_ _ | refine Blk.other ?_ ?_ _) | exact eqL rfl | (refine neB ?_; omega)))
        have Ma : Mp W4 (B) [.agg #[.int .i64 a1, .int .i64 0, .int .i64 a3], .agg #[.int .i64 b1, .int .i64 0, .int .i64 b3], .agg #[.int .i64 c1, .int .i64 0, .int .i64 c3], .agg #[.int .i64 d1, .int .i64 0, .int .i64 d3]] := Mp.keep hb (by repeat' (first | (with_reducible first | assumption | refine Mp.drew ?_ | refine Mp.drewN ?_ _ | refine Mp.set ?_ _ _ | (refine Mp.new ?_; focus (first | rfl | (simp; done)))) | (refine Mp.put (vs := []) ?_ rfl rfl) | (refine Mp.put (vs := [.agg #[.int .i64 a1, .int .i64 0, .int .i64 a3]]) ?_ rfl rfl) | (refine Mp.put (vs := [.agg #[.int .i64 a1, .int .i64 0, .int .i64 a3], .agg #[.int .i64 b1, .int .i64 0, .int .i64 b3]]) ?_ rfl rfl) | (refine Mp.put (vs := [.agg #[.int .i64 a1, .int .i64 0, .int .i64 a3], .agg #[.int .i64 b1, .int .i64 0, .int .i64 b3], .agg #[.int .i64 c1, .int .i64 0, .int .i64 c3]]) ?_ rfl rfl) | (with_reducible first | refine Mp.putOther ?_ ?_ _ _ | refine Mp.alloc ?_ _) | (refine neB ?_; omega)))
        have cr := Br.cell
        have fr := Br.free
        have lr_W4 := Br.lt
        have cx := Bx.cell
        have fx := Bx.free
        have lx_W4 := Bx.lt
        have ma := Ma.out
        have na_W4 := Ma.lt
        have kaW4 : Acc w W4 := by
          refine Acc.call ?_ hb
          (repeat' (first | (with_reducible first | assumption | exact Acc.refl _ | refine Acc.drew ?_ | refine Acc.drewN ?_ _ | refine Acc.alloc ?_ _ | refine Acc.setCell ?_ ?_ _ | refine Acc.mapPut ?_ ?_ _ _) | (refine leB ?_; omega)))
        clear hb
        go_wp2_with fail
        refine (HT.out _).mono ?_
        rintro e W5 ⟨h1, -, hb⟩
        obtain rfl := h1 _ _ _ rfl
        clear h1
        have Br : Blk W5 (w.heap.size) [.int .i64 0, .int .i64 0, .int .i64 0, .int .i64 0, .int .i64 0, .int .i64 0] := Blk.keep hb (by repeat' (first | (with_reducible first | assumption | refine Blk.drew ?_ | refine Blk.drewN ?_ _ | refine Blk.mapPut ?_ _ _ | apply Blk.set | (refine Blk.new ?_; focus (first | rfl | (simp; done))) | refine Blk.alloc ?_ _ | refine Blk.other ?_ ?_ _) | exact eqL rfl | (refine neB ?_; omega)))
        have Bx : Blk W5 (W3.heap.size) [.int .i64 0, .int .i64 0, .int .i64 1] := Blk.keep hb (by repeat' (first | (with_reducible first | assumption | refine Blk.drew ?_ | refine Blk.drewN ?_ _ | refine Blk.mapPut ?_ _ _ | apply Blk.set | (refine Blk.new ?_; focus (first | rfl | (simp; done))) | refine Blk.alloc ?_ _ | refine Blk.other ?_ ?_ _) | exact eqL rfl | (refine neB ?_; omega)))
        have Ma : Mp W5 (B) [.agg #[.int .i64 a1, .int .i64 0, .int .i64 a3], .agg #[.int .i64 b1, .int .i64 0, .int .i64 b3], .agg #[.int .i64 c1, .int .i64 0, .int .i64 c3], .agg #[.int .i64 d1, .int .i64 0, .int .i64 d3]] := Mp.keep hb (by repeat' (first | (with_reducible first | assumption | refine Mp.drew ?_ | refine Mp.drewN ?_ _ | refine Mp.set ?_ _ _ | (refine Mp.new ?_; focus (first | rfl | (simp; done)))) | (refine Mp.put (vs := []) ?_ rfl rfl) | (refine Mp.put (vs := [.agg #[.int .i64 a1, .int .i64 0, .int .i64 a3]]) ?_ rfl rfl) | (refine Mp.put (vs := [.agg #[.int .i64 a1, .int .i64 0, .int .i64 a3], .agg #[.int .i64 b1, .int .i64 0, .int .i64 b3]]) ?_ rfl rfl) | (refine Mp.put (vs := [.agg #[.int .i64 a1, .int .i64 0, .int .i64 a3], .agg #[.int .i64 b1, .int .i64 0, .int .i64 b3], .agg #[.int .i64 c1, .int .i64 0, .int .i64 c3]]) ?_ rfl rfl) | (with_reducible first | refine Mp.putOther ?_ ?_ _ _ | refine Mp.alloc ?_ _) | (refine neB ?_; omega)))
        have cr := Br.cell
        have fr := Br.free
        have lr_W5 := Br.lt
        have cx := Bx.cell
        have fx := Bx.free
        have lx_W5 := Bx.lt
        have ma := Ma.out
        have na_W5 := Ma.lt
        have kaW5 : Acc w W5 := by
          refine Acc.call ?_ hb
          (repeat' (first | (with_reducible first | assumption | exact Acc.refl _ | refine Acc.drew ?_ | refine Acc.drewN ?_ _ | refine Acc.alloc ?_ _ | refine Acc.setCell ?_ ?_ _ | refine Acc.mapPut ?_ ?_ _ _) | (refine leB ?_; omega)))
        clear hb
        go_wp2_with fail
        refine bodyPost_ret (by conv => lhs; simp [results, Tryz.results18, go_sem, *]) rfl ⟨fun _ _ _ _ _ _ h => (by cases h; rfl), fun h => (by cases h), ?_⟩
        show Acc w _
        (repeat' (first | (with_reducible first | assumption | exact Acc.refl _ | refine Acc.drew ?_ | refine Acc.drewN ?_ _ | refine Acc.alloc ?_ _ | refine Acc.setCell ?_ ?_ _ | refine Acc.mapPut ?_ ?_ _ _) | (refine leB ?_; omega)))
      · rw [if_neg hz] at e
        have HE := Lib.hid e
        clear e
        have hi : (p1 == 0 && (0 : Int) == 0 && p3 == 1) = false := by simp [hz]
        have HI := Lib.hid fun w => misZero_of p1 0 p3 false hi w
        clear kp hz hi
        go_wp2_with fail
        refine (HI.out _).mono ?_
        rintro e W4 ⟨rfl, hb⟩
        have Br : Blk W4 (w.heap.size) [.int .i64 0, .int .i64 0, .int .i64 0, .int .i64 0, .int .i64 0, .int .i64 0] := Blk.keep hb (by repeat' (first | (with_reducible first | assumption | refine Blk.drew ?_ | refine Blk.drewN ?_ _ | refine Blk.mapPut ?_ _ _ | apply Blk.set | (refine Blk.new ?_; focus (first | rfl | (simp; done))) | refine Blk.alloc ?_ _ | refine Blk.other ?_ ?_ _) | exact eqL rfl | (refine neB ?_; omega)))
        have Bx : Blk W4 (W3.heap.size) [.int .i64 p1, .int .i64 0, .int .i64 p3] := Blk.keep hb (by repeat' (first | (with_reducible first | assumption | refine Blk.drew ?_ | refine Blk.drewN ?_ _ | refine Blk.mapPut ?_ _ _ | apply Blk.set | (refine Blk.new ?_; focus (first | rfl | (simp; done))) | refine Blk.alloc ?_ _ | refine Blk.other ?_ ?_ _) | exact eqL rfl | (refine neB ?_; omega)))
        have Ma : Mp W4 (B) [.agg #[.int .i64 a1, .int .i64 0, .int .i64 a3], .agg #[.int .i64 b1, .int .i64 0, .int .i64 b3], .agg #[.int .i64 c1, .int .i64 0, .int .i64 c3], .agg #[.int .i64 d1, .int .i64 0, .int .i64 d3]] := Mp.keep hb (by repeat' (first | (with_reducible first | assumption | refine Mp.drew ?_ | refine Mp.drewN ?_ _ | refine Mp.set ?_ _ _ | (refine Mp.new ?_; focus (first | rfl | (simp; done)))) | (refine Mp.put (vs := []) ?_ rfl rfl) | (refine Mp.put (vs := [.agg #[.int .i64 a1, .int .i64 0, .int .i64 a3]]) ?_ rfl rfl) | (refine Mp.put (vs := [.agg #[.int .i64 a1, .int .i64 0, .int .i64 a3], .agg #[.int .i64 b1, .int .i64 0, .int .i64 b3]]) ?_ rfl rfl) | (refine Mp.put (vs := [.agg #[.int .i64 a1, .int .i64 0, .int .i64 a3], .agg #[.int .i64 b1, .int .i64 0, .int .i64 b3], .agg #[.int .i64 c1, .int .i64 0, .int .i64 c3]]) ?_ rfl rfl) | (with_reducible first | refine Mp.putOther ?_ ?_ _ _ | refine Mp.alloc ?_ _) | (refine neB ?_; omega)))
        have cr := Br.cell
        have fr := Br.free
        have lr_W4 := Br.lt
        have cx := Bx.cell
        have fx := Bx.free
        have lx_W4 := Bx.lt
        have ma := Ma.out
        have na_W4 := Ma.lt
        have kaW4 : Acc w W4 := by
          refine Acc.call ?_ hb
          (repeat' (first | (with_reducible first | assumption | exact Acc.refl _ | refine Acc.drew ?_ | refine Acc.drewN ?_ _ | refine Acc.alloc ?_ _ | refine Acc.setCell ?_ ?_ _ | refine Acc.mapPut ?_ ?_ _ _) | (refine leB ?_; omega)))
        clear hb
        go_wp2_with fail
        refine (HU.out _).mono ?_
        rintro e W5 ⟨h1, -, hb⟩
        obtain rfl := h1 _ _ _ rfl
        clear h1
        have Br : Blk W5 (w.heap.size) [.int .i64 0, .int .i64 0, .int .i64 0, .int .i64 0, .int .i64 0, .int .i64 0] := Blk.keep hb (by repeat' (first | (with_reducible first | assumption | refine Blk.drew ?_ | refine Blk.drewN ?_ _ | refine Blk.mapPut ?_ _ _ | apply Blk.set | (refine Blk.new ?_; focus (first | rfl | (simp; done))) | refine Blk.alloc ?_ _ | refine Blk.other ?_ ?_ _) | exact eqL rfl | (refine neB ?_; omega)))
        have Bx : Blk W5 (W3.heap.size) [.int .i64 p1, .int .i64 0, .int .i64 p3] := Blk.keep hb (by repeat' (first | (with_reducible first | assumption | refine Blk.drew ?_ | refine Blk.drewN ?_ _ | refine Blk.mapPut ?_ _ _ | apply Blk.set | (refine Blk.new ?_; focus (first | rfl | (simp; done))) | refine Blk.alloc ?_ _ | refine Blk.other ?_ ?_ _) | exact eqL rfl | (refine neB ?_; omega)))
        have Ma : Mp W5 (B) [.agg #[.int .i64 a1, .int .i64 0, .int .i64 a3], .agg #[.int .i64 b1, .int .i64 0, .int .i64 b3], .agg #[.int .i64 c1, .int .i64 0, .int .i64 c3], .agg #[.int .i64 d1, .int .i64 0, .int .i64 d3]] := Mp.keep hb (by repeat' (first | (with_reducible first | assumption | refine Mp.drew ?_ | refine Mp.drewN ?_ _ | refine Mp.set ?_ _ _ | (refine Mp.new ?_; focus (first | rfl | (simp; done)))) | (refine Mp.put (vs := []) ?_ rfl rfl) | (refine Mp.put (vs := [.agg #[.int .i64 a1, .int .i64 0, .int .i64 a3]]) ?_ rfl rfl) | (refine Mp.put (vs := [.agg #[.int .i64 a1, .int .i64 0, .int .i64 a3], .agg #[.int .i64 b1, .int .i64 0, .int .i64 b3]]) ?_ rfl rfl) | (refine Mp.put (vs := [.agg #[.int .i64 a1, .int .i64 0, .int .i64 a3], .agg #[.int .i64 b1, .int .i64 0, .int .i64 b3], .agg #[.int .i64 c1, .int .i64 0, .int .i64 c3]]) ?_ rfl rfl) | (with_reducible first | refine Mp.putOther ?_ ?_ _ _ | refine Mp.alloc ?_ _) | (refine neB ?_; omega)))
        have cr := Br.cell
        have fr := Br.free
        have lr_W5 := Br.lt
        have cx := Bx.cell
        have fx := Bx.free
        have lx_W5 := Bx.lt
        have ma := Ma.out
        have na_W5 := Ma.lt
        have kaW5 : Acc w W5 := by
          refine Acc.call ?_ hb
          (repeat' (first | (with_reducible first | assumption | exact Acc.refl _ | refine Acc.drew ?_ | refine Acc.drewN ?_ _ | refine Acc.alloc ?_ _ | refine Acc.setCell ?_ ?_ _ | refine Acc.mapPut ?_ ?_ _ _) | (refine leB ?_; omega)))
        clear hb
        go_wp2_with fail
        refine (HM.out _).mono ?_
        rintro e W6 ⟨h1, h2, hb⟩
        have Br : Blk W6 (w.heap.size) [.int .i64 0, .int .i64 0, .int .i64 0, .int .i64 0, .int .i64 0, .int .i64 0] := Blk.keep hb (by repeat' (first | (with_reducible first | assumption | refine Blk.drew ?_ | refine Blk.drewN ?_ _ | refine Blk.mapPut ?_ _ _ | apply Blk.set | (refine Blk.new ?_; focus (first | rfl | (simp; done))) | refine Blk.alloc ?_ _ | refine Blk.other ?_ ?_ _) | exact eqL rfl | (refine neB ?_; omega)))
        have Bx : Blk W6 (W3.heap.size) [.int .i64 p1, .int .i64 0, .int .i64 p3] := Blk.keep hb (by repeat' (first | (with_reducible first | assumption | refine Blk.drew ?_ | refine Blk.drewN ?_ _ | refine Blk.mapPut ?_ _ _ | apply Blk.set | (refine Blk.new ?_; focus (first | rfl | (simp; done))) | refine Blk.alloc ?_ _ | refine Blk.other ?_ ?_ _) | exact eqL rfl | (refine neB ?_; omega)))
        have Ma : Mp W6 (B) [.agg #[.int .i64 a1, .int .i64 0, .int .i64 a3], .agg #[.int .i64 b1, .int .i64 0, .int .i64 b3], .agg #[.int .i64 c1, .int .i64 0, .int .i64 c3], .agg #[.int .i64 d1, .int .i64 0, .int .i64 d3]] := Mp.keep hb (by repeat' (first | (with_reducible first | assumption | refine Mp.drew ?_ | refine Mp.drewN ?_ _ | refine Mp.set ?_ _ _ | (refine Mp.new ?_; focus (first | rfl | (simp; done)))) | (refine Mp.put (vs := []) ?_ rfl rfl) | (refine Mp.put (vs := [.agg #[.int .i64 a1, .int .i64 0, .int .i64 a3]]) ?_ rfl rfl) | (refine Mp.put (vs := [.agg #[.int .i64 a1, .int .i64 0, .int .i64 a3], .agg #[.int .i64 b1, .int .i64 0, .int .i64 b3]]) ?_ rfl rfl) | (refine Mp.put (vs := [.agg #[.int .i64 a1, .int .i64 0, .int .i64 a3], .agg #[.int .i64 b1, .int .i64 0, .int .i64 b3], .agg #[.int .i64 c1, .int .i64 0, .int .i64 c3]]) ?_ rfl rfl) | (with_reducible first | refine Mp.putOther ?_ ?_ _ _ | refine Mp.alloc ?_ _) | (refine neB ?_; omega)))
        have cr := Br.cell
        have fr := Br.free
        have lr_W6 := Br.lt
        have cx := Bx.cell
        have fx := Bx.free
        have lx_W6 := Bx.lt
        have ma := Ma.out
        have na_W6 := Ma.lt
        have kaW6 : Acc w W6 := by
          refine Acc.call ?_ hb
          (repeat' (first | (with_reducible first | assumption | exact Acc.refl _ | refine Acc.drew ?_ | refine Acc.drewN ?_ _ | refine Acc.alloc ?_ _ | refine Acc.setCell ?_ ?_ _ | refine Acc.mapPut ?_ ?_ _ _) | (refine leB ?_; omega)))
        clear hb
        cases o with
        | none =>
          obtain rfl : O = none := HE.out.symm
          obtain ⟨s, rfl⟩ := h2 rfl
          clear h1 h2
          go_wp2_with fail
          refine bodyPost_ret (by conv => lhs; simp [results, Tryz.results18, go_sem, *]) rfl ⟨fun _ _ _ _ _ _ h => (by cases h), fun _ => ⟨_, _, _, _, _, _, _, rfl⟩, ?_⟩
          show Acc w _
          (repeat' (first | (with_reducible first | assumption | exact Acc.refl _ | refine Acc.drew ?_ | refine Acc.drewN ?_ _ | refine Acc.alloc ?_ _ | refine Acc.setCell ?_ ?_ _ | refine Acc.mapPut ?_ ?_ _ _) | (refine leB ?_; omega)))
        | some r =>
          obtain ⟨r1, r2, r3⟩ := r
          obtain rfl : O = some ((p1, 0, p3), (r1, r2, r3)) := HE.out.symm
          obtain rfl := h1 _ _ _ rfl
          clear h1 h2
          go_wp2_with fail
          refine bodyPost_ret (by conv => lhs; simp [results, Tryz.results18, go_sem, *]) rfl ⟨fun _ _ _ _ _ _ h => (by cases h; rfl), fun h => (by cases h), ?_⟩
          show Acc w _
          (repeat' (first | (with_reducible first | assumption | exact Acc.refl _ | refine Acc.drew ?_ | refine Acc.drewN ?_ _ | refine Acc.alloc ?_ _ | refine Acc.setCell ?_ ?_ _ | refine Acc.mapPut ?_ ?_ _ _) | (refine leB ?_; omega)))
set_option maxHeartbeats 4000000 in
theorem nvector_any (a1 a2 a3 b1 b2 b3 c1 c2 c3 d1 d2 d3 : Int) (ha1 : i64B a1) (ha2 : i64B a2) (ha3 : i64B a3) (hb1 : i64B b1) (hb2 : i64B b2) (hb3 : i64B b3) (hc1 : i64B c1) (hc2 : i64B c2) (hc3 : i64B c3) (hd1 : i64B d1) (hd2 : i64B d2) (hd3 : i64B d3) (B : Nat) (w : World) (Ma : Mp w B [.agg #[.int .i64 a1, .int .i64 a2, .int .i64 a3], .agg #[.int .i64 b1, .int .i64 b2, .int .i64 b3], .agg #[.int .i64 c1, .int .i64 c2, .int .i64 c3], .agg #[.int .i64 d1, .int .i64 d2, .int .i64 d3]]) :
    Calls Tryz.prog 18 #[.map (some B)] w (ErredV (svecF a1 a2 a3 b1 b2 b3 c1 c2 c3 d1 d2 d3) w) := by
  cases hv : pureF a1 a2 a3 b1 b2 b3 c1 c2 c3 d1 d2 d3 with
  | true =>
    obtain ⟨ga, gb, gc, gd⟩ := sValid_ok (pure_val hv).1
    obtain ⟨_, rfl⟩ := realB_ok ga
    obtain ⟨_, rfl⟩ := realB_ok gb
    obtain ⟨_, rfl⟩ := realB_ok gc
    obtain ⟨_, rfl⟩ := realB_ok gd
    exact nvector_pure a1 a3 b1 b3 c1 c3 d1 d3 ha1 ha3 hb1 hb3 hc1 hc3 hd1 hd3 ha2 (by unfold i64B; omega) B w Ma hv
  | false =>
    rw [svec_not hv]
    have HP := Lib.hid fun W M => (npure_any a1 a2 a3 b1 b2 b3 c1 c2 c3 d1 d2 d3 ha1 ha2 ha3 hb1 hb2 hb3 hc1 hc2 hc3 hd1 hd2 hd3 B W M).mono fun e w' h => npure_no hv h
    clear hv ha1 ha2 ha3 hb1 hb2 hb3 hc1 hc2 hc3 hd1 hd2 hd3
    have ma := Ma.out
    have na_w := Ma.lt
    have qr1 := @mapOf_drew
    have qr2 := @mapOf_drewN
    have qr3 := @mapOf_cells
    have qr5 := @mapOf_setCell
    have qa0 := @look0 (B) (.agg #[.int .i64 a1, .int .i64 a2, .int .i64 a3]) (.agg #[.int .i64 b1, .int .i64 b2, .int .i64 b3]) (.agg #[.int .i64 c1, .int .i64 c2, .int .i64 c3]) (.agg #[.int .i64 d1, .int .i64 d2, .int .i64 d3])
    have qa1 := @look1 (B) (.agg #[.int .i64 a1, .int .i64 a2, .int .i64 a3]) (.agg #[.int .i64 b1, .int .i64 b2, .int .i64 b3]) (.agg #[.int .i64 c1, .int .i64 c2, .int .i64 c3]) (.agg #[.int .i64 d1, .int .i64 d2, .int .i64 d3])
    have qa2 := @look2 (B) (.agg #[.int .i64 a1, .int .i64 a2, .int .i64 a3]) (.agg #[.int .i64 b1, .int .i64 b2, .int .i64 b3]) (.agg #[.int .i64 c1, .int .i64 c2, .int .i64 c3]) (.agg #[.int .i64 d1, .int .i64 d2, .int .i64 d3])
    have qa3 := @look3 (B) (.agg #[.int .i64 a1, .int .i64 a2, .int .i64 a3]) (.agg #[.int .i64 b1, .int .i64 b2, .int .i64 b3]) (.agg #[.int .i64 c1, .int .i64 c2, .int .i64 c3]) (.agg #[.int .i64 d1, .int .i64 d2, .int .i64 d3])
    go_enter Tryz.func18, Tryz.ntmps18
    go_wp2_with fail
    refine (HP.out _ (by repeat' (first | (with_reducible first | assumption | refine Mp.drew ?_ | refine Mp.drewN ?_ _ | refine Mp.set ?_ _ _ | (refine Mp.new ?_; focus (first | rfl | (simp; done)))) | (refine Mp.put (vs := []) ?_ rfl rfl) | (refine Mp.put (vs := [.agg #[.int .i64 a1, .int .i64 a2, .int .i64 a3]]) ?_ rfl rfl) | (refine Mp.put (vs := [.agg #[.int .i64 a1, .int .i64 a2, .int .i64 a3], .agg #[.int .i64 b1, .int .i64 b2, .int .i64 b3]]) ?_ rfl rfl) | (refine Mp.put (vs := [.agg #[.int .i64 a1, .int .i64 a2, .int .i64 a3], .agg #[.int .i64 b1, .int .i64 b2, .int .i64 b3], .agg #[.int .i64 c1, .int .i64 c2, .int .i64 c3]]) ?_ rfl rfl) | (with_reducible first | refine Mp.putOther ?_ ?_ _ _ | refine Mp.alloc ?_ _) | (refine neB ?_; omega)))).mono ?_
    rintro e W1 ⟨h, hb⟩
    have Br : Blk W1 (w.heap.size) [.int .i64 0, .int .i64 0, .int .i64 0, .int .i64 0, .int .i64 0, .int .i64 0] := Blk.keep hb (by repeat' (first | (with_reducible first | assumption | refine Blk.drew ?_ | refine Blk.drewN ?_ _ | refine Blk.mapPut ?_ _ _ | apply Blk.set | (refine Blk.new ?_; focus (first | rfl | (simp; done))) | refine Blk.alloc ?_ _ | refine Blk.other ?_ ?_ _) | exact eqL rfl | (refine neB ?_; omega)))
    have Ma : Mp W1 (B) [.agg #[.int .i64 a1, .int .i64 a2, .int .i64 a3], .agg #[.int .i64 b1, .int .i64 b2, .int .i64 b3], .agg #[.int .i64 c1, .int .i64 c2, .int .i64 c3], .agg #[.int .i64 d1, .int .i64 d2, .int .i64 d3]] := Mp.keep hb (by repeat' (first | (with_reducible first | assumption | refine Mp.drew ?_ | refine Mp.drewN ?_ _ | refine Mp.set ?_ _ _ | (refine Mp.new ?_; focus (first | rfl | (simp; done)))) | (refine Mp.put (vs := []) ?_ rfl rfl) | (refine Mp.put (vs := [.agg #[.int .i64 a1, .int .i64 a2, .int .i64 a3]]) ?_ rfl rfl) | (refine Mp.put (vs := [.agg #[.int .i64 a1, .int .i64 a2, .int .i64 a3], .agg #[.int .i64 b1, .int .i64 b2, .int .i64 b3]]) ?_ rfl rfl) | (refine Mp.put (vs := [.agg #[.int .i64 a1, .int .i64 a2, .int .i64 a3], .agg #[.int .i64 b1, .int .i64 b2, .int .i64 b3], .agg #[.int .i64 c1, .int .i64 c2, .int .i64 c3]]) ?_ rfl rfl) | (with_reducible first | refine Mp.putOther ?_ ?_ _ _ | refine Mp.alloc ?_ _) | (refine neB ?_; omega)))
    have cr := Br.cell
    have fr := Br.free
    have lr_W1 := Br.lt
    have ma := Ma.out
    have na_W1 := Ma.lt
    have kaW1 : Acc w W1 := by
      refine Acc.call ?_ hb
      (repeat' (first | (with_reducible first | assumption | exact Acc.refl _ | refine Acc.drew ?_ | refine Acc.drewN ?_ _ | refine Acc.alloc ?_ _ | refine Acc.setCell ?_ ?_ _ | refine Acc.mapPut ?_ ?_ _ _) | (refine leB ?_; omega)))
    clear hb
    rcases h with rfl | ⟨b, s, rfl⟩
    · skip
      go_wp2_with fail
      refine bodyPost_ret (by conv => lhs; simp [results, Tryz.results18, go_sem, *]) rfl ⟨fun _ _ _ _ _ _ h => (by cases h), fun _ => ⟨_, _, _, _, _, _, _, rfl⟩, ?_⟩
      show Acc w _
      (repeat' (first | (with_reducible first | assumption | exact Acc.refl _ | refine Acc.drew ?_ | refine Acc.drewN ?_ _ | refine Acc.alloc ?_ _ | refine Acc.setCell ?_ ?_ _ | refine Acc.mapPut ?_ ?_ _ _) | (refine leB ?_; omega)))
    · skip
      go_wp2_with fail
      refine bodyPost_ret (by conv => lhs; simp [results, Tryz.results18, go_sem, *]) rfl ⟨fun _ _ _ _ _ _ h => (by cases h), fun _ => ⟨_, _, _, _, _, _, _, rfl⟩, ?_⟩
      show Acc w _
      (repeat' (first | (with_reducible first | assumption | exact Acc.refl _ | refine Acc.drew ?_ | refine Acc.drewN ?_ _ | refine Acc.alloc ?_ _ | refine Acc.setCell ?_ ?_ _ | refine Acc.mapPut ?_ ?_ _ _) | (refine leB ?_; omega)))
end Go.Proofs.YtchdcncnlfgjfaaGreatDoor
