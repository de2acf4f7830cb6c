/-
  The program's four numbers: light and pure light.
-/
import Derived.Test.YtchdcncnlfgjfaaDoorImplN4
namespace Go.Proofs.YtchdcncnlfgjfaaDoor
open Go.ChangeShapes Go.WideShapes Go.ChangeAt Go.RowKit
set_option linter.unusedVariables false

theorem squares_valid {a1 a2 a3 b1 b2 b3 c1 c2 c3 d1 d2 d3 : Int} {o : (Int × Int × Int)} (h : squaresF a1 a2 a3 b1 b2 b3 c1 c2 c3 d1 d2 d3 = some o) : sValid a1 a2 a3 b1 b2 b3 c1 c2 c3 d1 d2 d3 = true := by
  unfold squaresF at h
  split at h
  · assumption
  · cases h
theorem squares_okF {a1 a2 a3 b1 b2 b3 c1 c2 c3 d1 d2 d3 p q r : Int} (h : squaresF a1 a2 a3 b1 b2 b3 c1 c2 c3 d1 d2 d3 = some (p, q, r)) : okF p q r = true := by
  unfold squaresF at h
  split at h
  · generalize sumO (sumO (some (0, 0, 1)) (timesF b1 b2 b3 b1 b2 b3)) (timesF c1 c2 c3 c1 c2 c3) = x at h
    generalize timesF d1 d2 d3 d1 d2 d3 = y at h
    cases x with
    | none => cases h
    | some u =>
      cases y with
      | none => cases h
      | some v => exact (sum_some h).2.2.1
  · cases h
set_option maxHeartbeats 8000000 in
theorem nsurplus_any (a1 a2 a3 b1 b2 b3 c1 c2 c3 d1 d2 d3 : Int) (ha1 : i64B a1) (ha2 : i64B a2) (ha3 : i64B a3) (hb1 : i64B b1) (hb2 : i64B b2) (hb3 : i64B b3) (hc1 : i64B c1) (hc2 : i64B c2) (hc3 : i64B c3) (hd1 : i64B d1) (hd2 : i64B d2) (hd3 : i64B d3) (B : Nat) (w : World) (Ma : Mp w B [.agg #[.int .i64 a1, .int .i64 a2, .int .i64 a3], .agg #[.int .i64 b1, .int .i64 b2, .int .i64 b3], .agg #[.int .i64 c1, .int .i64 c2, .int .i64 c3], .agg #[.int .i64 d1, .int .i64 d2, .int .i64 d3]]) :
    Calls Tryd.prog 40 #[.map (some B)] w (ErredI (restF a1 a2 a3 b1 b2 b3 c1 c2 c3 d1 d2 d3) w) := by
  have HS := Lib.hid fun W M => nsquares_any a1 a2 a3 b1 b2 b3 c1 c2 c3 d1 d2 d3 ha1 ha2 ha3 hb1 hb2 hb3 hc1 hc2 hc3 hd1 hd2 hd3 B W M
  obtain ⟨o, E⟩ : ∃ o, restF a1 a2 a3 b1 b2 b3 c1 c2 c3 d1 d2 d3 = o := ⟨_, rfl⟩
  rw [E]
  have HE := Lib.hid E
  clear E
  have ma := Ma.out
  have na_w := Ma.lt
  have qr1 := @mapOf_drew
  have qr2 := @mapOf_drewN
  have qr3 := @mapOf_cells
  have qr5 := @mapOf_setCell
  have qa0 := @look0 (B) (.agg #[.int .i64 a1, .int .i64 a2, .int .i64 a3]) (.agg #[.int .i64 b1, .int .i64 b2, .int .i64 b3]) (.agg #[.int .i64 c1, .int .i64 c2, .int .i64 c3]) (.agg #[.int .i64 d1, .int .i64 d2, .int .i64 d3])
  have qa1 := @look1 (B) (.agg #[.int .i64 a1, .int .i64 a2, .int .i64 a3]) (.agg #[.int .i64 b1, .int .i64 b2, .int .i64 b3]) (.agg #[.int .i64 c1, .int .i64 c2, .int .i64 c3]) (.agg #[.int .i64 d1, .int .i64 d2, .int .i64 d3])
  have qa2 := @look2 (B) (.agg #[.int .i64 a1, .int .i64 a2, .int .i64 a3]) (.agg #[.int .i64 b1, .int .i64 b2, .int .i64 b3]) (.agg #[.int .i64 c1, .int .i64 c2, .int .i64 c3]) (.agg #[.int .i64 d1, .int .i64 d2, .int .i64 d3])
  have qa3 := @look3 (B) (.agg #[.int .i64 a1, .int .i64 a2, .int .i64 a3]) (.agg #[.int .i64 b1, .int .i64 b2, .int .i64 b3]) (.agg #[.int .i64 c1, .int .i64 c2, .int .i64 c3]) (.agg #[.int .i64 d1, .int .i64 d2, .int .i64 d3])
  go_enter Tryd.func40, Tryd.ntmps40
  go_wp2_with fail
  refine (HS.out _ (by repeat' (first | (with_reducible first | assumption | refine Mp.drew ?_ | refine Mp.drewN ?_ _ | refine Mp.set ?_ _ _ | (refine Mp.new ?_; focus (first | rfl | (simp; done)))) | (refine Mp.put (vs := []) ?_ rfl rfl) | (refine Mp.put (vs := [.agg #[.int .i64 a1, .int .i64 a2, .int .i64 a3]]) ?_ rfl rfl) | (refine Mp.put (vs := [.agg #[.int .i64 a1, .int .i64 a2, .int .i64 a3], .agg #[.int .i64 b1, .int .i64 b2, .int .i64 b3]]) ?_ rfl rfl) | (refine Mp.put (vs := [.agg #[.int .i64 a1, .int .i64 a2, .int .i64 a3], .agg #[.int .i64 b1, .int .i64 b2, .int .i64 b3], .agg #[.int .i64 c1, .int .i64 c2, .int .i64 c3]]) ?_ rfl rfl) | (with_reducible first | refine Mp.putOther ?_ ?_ _ _ | refine Mp.alloc ?_ _) | (refine neB ?_; omega)))).mono ?_
  rintro e W1 ⟨h1, h2, hb⟩
  have Ma : Mp W1 (B) [.agg #[.int .i64 a1, .int .i64 a2, .int .i64 a3], .agg #[.int .i64 b1, .int .i64 b2, .int .i64 b3], .agg #[.int .i64 c1, .int .i64 c2, .int .i64 c3], .agg #[.int .i64 d1, .int .i64 d2, .int .i64 d3]] := Mp.keep hb (by repeat' (first | (with_reducible first | assumption | refine Mp.drew ?_ | refine Mp.drewN ?_ _ | refine Mp.set ?_ _ _ | (refine Mp.new ?_; focus (first | rfl | (simp; done)))) | (refine Mp.put (vs := []) ?_ rfl rfl) | (refine Mp.put (vs := [.agg #[.int .i64 a1, .int .i64 a2, .int .i64 a3]]) ?_ rfl rfl) | (refine Mp.put (vs := [.agg #[.int .i64 a1, .int .i64 a2, .int .i64 a3], .agg #[.int .i64 b1, .int .i64 b2, .int .i64 b3]]) ?_ rfl rfl) | (refine Mp.put (vs := [.agg #[.int .i64 a1, .int .i64 a2, .int .i64 a3], .agg #[.int .i64 b1, .int .i64 b2, .int .i64 b3], .agg #[.int .i64 c1, .int .i64 c2, .int .i64 c3]]) ?_ rfl rfl) | (with_reducible first | refine Mp.putOther ?_ ?_ _ _ | refine Mp.alloc ?_ _) | (refine neB ?_; omega)))
  have ma := Ma.out
  have na_W1 := Ma.lt
  have kaW1 : Acc w W1 := by
    refine Acc.call ?_ hb
    (repeat' (first | (with_reducible first | assumption | exact Acc.refl _ | refine Acc.drew ?_ | refine Acc.drewN ?_ _ | refine Acc.alloc ?_ _ | refine Acc.setCell ?_ ?_ _ | refine Acc.mapPut ?_ ?_ _ _) | (refine leB ?_; omega)))
  clear hb
  cases hp : squaresF a1 a2 a3 b1 b2 b3 c1 c2 c3 d1 d2 d3 with
  | none =>
    obtain ⟨s, rfl⟩ := h2 hp
    clear h1 h2
    obtain rfl : o = none := HE.out.symm.trans (by simp only [restF, Option.bind_none, hp])
    go_wp2_with fail
    go_ret2
    refine ⟨fun _ h => (by cases h), fun _ => ⟨_, rfl⟩, ?_⟩
    show Acc w _
    (repeat' (first | (with_reducible first | assumption | exact Acc.refl _ | refine Acc.drew ?_ | refine Acc.drewN ?_ _ | refine Acc.alloc ?_ _ | refine Acc.setCell ?_ ?_ _ | refine Acc.mapPut ?_ ?_ _ _) | (refine leB ?_; omega)))
  | some v =>
    obtain ⟨m1, m2, m3⟩ := v
    obtain rfl := h1 _ _ _ hp
    clear h1 h2
    have hv := squares_valid hp
    obtain ⟨hm1, hm2, hm3⟩ := okF_i64 (squares_okF hp)
    have HM := Lib.hid hp
    clear hp
    obtain ⟨_, hz⟩ := realB_ok (sValid_ok hv).1
    have HZ : powerF a1 a2 a3 = timesF a1 a2 a3 a1 a2 a3 := by rw [hz]; exact power0 _ _
    clear hv hz
    go_wp2_with fail
    refine (mpower_any a1 a2 a3 _ ha1 ha2 ha3).mono ?_
    rintro e W2 ⟨h1, h2, hb⟩
    rw [HZ] at h1 h2
    have Bm : Blk W2 (W1.heap.size) [.int .i64 m1, .int .i64 m2, .int .i64 m3] := Blk.keep hb (by repeat' (first | (with_reducible first | assumption | refine Blk.drew ?_ | refine Blk.drewN ?_ _ | refine Blk.mapPut ?_ _ _ | apply Blk.set | (refine Blk.new ?_; focus (first | rfl | (simp; done))) | refine Blk.alloc ?_ _ | refine Blk.other ?_ ?_ _) | exact eqL rfl | (refine neB ?_; omega)))
    have Ma : Mp W2 (B) [.agg #[.int .i64 a1, .int .i64 a2, .int .i64 a3], .agg #[.int .i64 b1, .int .i64 b2, .int .i64 b3], .agg #[.int .i64 c1, .int .i64 c2, .int .i64 c3], .agg #[.int .i64 d1, .int .i64 d2, .int .i64 d3]] := Mp.keep hb (by repeat' (first | (with_reducible first | assumption | refine Mp.drew ?_ | refine Mp.drewN ?_ _ | refine Mp.set ?_ _ _ | (refine Mp.new ?_; focus (first | rfl | (simp; done)))) | (refine Mp.put (vs := []) ?_ rfl rfl) | (refine Mp.put (vs := [.agg #[.int .i64 a1, .int .i64 a2, .int .i64 a3]]) ?_ rfl rfl) | (refine Mp.put (vs := [.agg #[.int .i64 a1, .int .i64 a2, .int .i64 a3], .agg #[.int .i64 b1, .int .i64 b2, .int .i64 b3]]) ?_ rfl rfl) | (refine Mp.put (vs := [.agg #[.int .i64 a1, .int .i64 a2, .int .i64 a3], .agg #[.int .i64 b1, .int .i64 b2, .int .i64 b3], .agg #[.int .i64 c1, .int .i64 c2, .int .i64 c3]]) ?_ rfl rfl) | (with_reducible first | refine Mp.putOther ?_ ?_ _ _ | refine Mp.alloc ?_ _) | (refine neB ?_; omega)))
    have cm := Bm.cell
    have fm := Bm.free
    have lm_W2 := Bm.lt
    have ma := Ma.out
    have na_W2 := Ma.lt
    have kaW2 : Acc w W2 := by
      refine Acc.call ?_ hb
      (repeat' (first | (with_reducible first | assumption | exact Acc.refl _ | refine Acc.drew ?_ | refine Acc.drewN ?_ _ | refine Acc.alloc ?_ _ | refine Acc.setCell ?_ ?_ _ | refine Acc.mapPut ?_ ?_ _ _) | (refine leB ?_; omega)))
    clear hb
    cases hp : timesF a1 a2 a3 a1 a2 a3 with
    | none =>
      obtain ⟨s, rfl⟩ := h2 hp
      clear h1 h2
      obtain rfl : o = none := HE.out.symm.trans (by simp only [restF, Option.bind_some, Option.bind_none, HM.out, hp])
      go_wp2_with fail
      go_ret2
      refine ⟨fun _ h => (by cases h), fun _ => ⟨_, rfl⟩, ?_⟩
      show Acc w _
      (repeat' (first | (with_reducible first | assumption | exact Acc.refl _ | refine Acc.drew ?_ | refine Acc.drewN ?_ _ | refine Acc.alloc ?_ _ | refine Acc.setCell ?_ ?_ _ | refine Acc.mapPut ?_ ?_ _ _) | (refine leB ?_; omega)))
    | some v =>
      obtain ⟨n1, n2, n3⟩ := v
      obtain rfl := h1 _ _ _ hp
      clear h1 h2
      obtain ⟨hn1, hn2, hn3⟩ := okF_i64 (times_some hp).2.2.1
      have e0 : compareF n1 n2 n3 m1 m2 m3 = o := Eq.trans (by simp only [restF, Option.bind_some, HM.out, hp]) HE.out
      have E0 := Lib.hid e0
      clear HE hp e0
      go_wp2_with fail
      refine (mcompare_any n1 n2 n3 m1 m2 m3 _ hn1 hn2 hn3 hm1 hm2 hm3).mono ?_
      rw [E0.out]
      rintro e W3 ⟨h1, h2, hb⟩
      clear E0
      have Bm : Blk W3 (W1.heap.size) [.int .i64 m1, .int .i64 m2, .int .i64 m3] := Blk.keep hb (by repeat' (first | (with_reducible first | assumption | refine Blk.drew ?_ | refine Blk.drewN ?_ _ | refine Blk.mapPut ?_ _ _ | apply Blk.set | (refine Blk.new ?_; focus (first | rfl | (simp; done))) | refine Blk.alloc ?_ _ | refine Blk.other ?_ ?_ _) | exact eqL rfl | (refine neB ?_; omega)))
      have Ma : Mp W3 (B) [.agg #[.int .i64 a1, .int .i64 a2, .int .i64 a3], .agg #[.int .i64 b1, .int .i64 b2, .int .i64 b3], .agg #[.int .i64 c1, .int .i64 c2, .int .i64 c3], .agg #[.int .i64 d1, .int .i64 d2, .int .i64 d3]] := Mp.keep hb (by repeat' (first | (with_reducible first | assumption | refine Mp.drew ?_ | refine Mp.drewN ?_ _ | refine Mp.set ?_ _ _ | (refine Mp.new ?_; focus (first | rfl | (simp; done)))) | (refine Mp.put (vs := []) ?_ rfl rfl) | (refine Mp.put (vs := [.agg #[.int .i64 a1, .int .i64 a2, .int .i64 a3]]) ?_ rfl rfl) | (refine Mp.put (vs := [.agg #[.int .i64 a1, .int .i64 a2, .int .i64 a3], .agg #[.int .i64 b1, .int .i64 b2, .int .i64 b3]]) ?_ rfl rfl) | (refine Mp.put (vs := [.agg #[.int .i64 a1, .int .i64 a2, .int .i64 a3], .agg #[.int .i64 b1, .int .i64 b2, .int .i64 b3], .agg #[.int .i64 c1, .int .i64 c2, .int .i64 c3]]) ?_ rfl rfl) | (with_reducible first | refine Mp.putOther ?_ ?_ _ _ | refine Mp.alloc ?_ _) | (refine neB ?_; omega)))
      have cm := Bm.cell
      have fm := Bm.free
      have lm_W3 := Bm.lt
      have ma := Ma.out
      have na_W3 := Ma.lt
      have kaW3 : Acc w W3 := by
        refine Acc.call ?_ hb
        (repeat' (first | (with_reducible first | assumption | exact Acc.refl _ | refine Acc.drew ?_ | refine Acc.drewN ?_ _ | refine Acc.alloc ?_ _ | refine Acc.setCell ?_ ?_ _ | refine Acc.mapPut ?_ ?_ _ _) | (refine leB ?_; omega)))
      clear hb
      cases o with
      | none =>
        obtain ⟨s, rfl⟩ := h2 rfl
        clear h1 h2
        go_wp2_with fail
        go_ret2
        refine ⟨fun _ h => (by cases h), fun _ => ⟨_, rfl⟩, ?_⟩
        show Acc w _
        (repeat' (first | (with_reducible first | assumption | exact Acc.refl _ | refine Acc.drew ?_ | refine Acc.drewN ?_ _ | refine Acc.alloc ?_ _ | refine Acc.setCell ?_ ?_ _ | refine Acc.mapPut ?_ ?_ _ _) | (refine leB ?_; omega)))
      | some n =>
        obtain rfl := h1 _ rfl
        clear h1 h2
        go_wp2_with fail
        go_ret2
        refine ⟨fun _ h => (by cases h; rfl), fun h => (by cases h), ?_⟩
        show Acc w _
        (repeat' (first | (with_reducible first | assumption | exact Acc.refl _ | refine Acc.drew ?_ | refine Acc.drewN ?_ _ | refine Acc.alloc ?_ _ | refine Acc.setCell ?_ ?_ _ | refine Acc.mapPut ?_ ?_ _ _) | (refine leB ?_; omega)))
/-- What the program says of light. -/
def ErredLight (o : Option Int) (b : Bool) (w : World) (e : Ending) (w' : World) : Prop :=
  (∀ n, o = some n → e = .returned (.tuple #[.bool (decide (0 ≤ n) && b), .nilIface])) ∧ (o = none → ∃ k s, e = .returned (.tuple #[.bool k, .iface 82 (.agg #[.string s])])) ∧ Below w.heap.size w w'
theorem sign_ge (n : Int) : decide (0 ≤ signI n) = decide (0 ≤ n) := by
  unfold signI
  split
  · simp; omega
  · split <;> simp <;> omega
/-- What the program says of light. -/
def ErredPure (o : Option Int) (b : Bool) (w : World) (e : Ending) (w' : World) : Prop :=
  (∀ n, o = some n → e = .returned (.tuple #[.bool (decide (n = 0) && b), .nilIface])) ∧ (o = none → ∃ k s, e = .returned (.tuple #[.bool k, .iface 82 (.agg #[.string s])])) ∧ Below w.heap.size w w'
theorem sign_ge2 (n : Int) : decide (0 ≤ signI n) = decide (0 ≤ n) := by
  unfold signI
  split
  · simp; omega
  · split <;> simp <;> omega
set_option maxHeartbeats 8000000 in
theorem npure_any (a1 a2 a3 b1 b2 b3 c1 c2 c3 d1 d2 d3 : Int) (ha1 : i64B a1) (ha2 : i64B a2) (ha3 : i64B a3) (hb1 : i64B b1) (hb2 : i64B b2) (hb3 : i64B b3) (hc1 : i64B c1) (hc2 : i64B c2) (hc3 : i64B c3) (hd1 : i64B d1) (hd2 : i64B d2) (hd3 : i64B d3) (B : Nat) (w : World) (Ma : Mp w B [.agg #[.int .i64 a1, .int .i64 a2, .int .i64 a3], .agg #[.int .i64 b1, .int .i64 b2, .int .i64 b3], .agg #[.int .i64 c1, .int .i64 c2, .int .i64 c3], .agg #[.int .i64 d1, .int .i64 d2, .int .i64 d3]]) :
    Calls Tryd.prog 24 #[.map (some B)] w (ErredPure (restF a1 a2 a3 b1 b2 b3 c1 c2 c3 d1 d2 d3) (decide (0 ≤ a1)) w) := by
  have HS := Lib.hid fun W M => nsurplus_any a1 a2 a3 b1 b2 b3 c1 c2 c3 d1 d2 d3 ha1 ha2 ha3 hb1 hb2 hb3 hc1 hc2 hc3 hd1 hd2 hd3 B W M
  obtain ⟨o, E⟩ : ∃ o, restF a1 a2 a3 b1 b2 b3 c1 c2 c3 d1 d2 d3 = o := ⟨_, rfl⟩
  rw [E] at HS ⊢
  obtain ⟨s1, hs1⟩ : ∃ s, signI a1 = s := ⟨_, rfl⟩
  have C := Lib.hid fun w => msign_any a1 a2 a3 w
  rw [hs1] at C
  have hg := sign_ge a1
  rw [hs1] at hg
  rw [show (decide (0 ≤ a1)) = decide (0 ≤ s1) from hg.symm]
  clear E hs1 hg ha1 ha2 ha3 hb1 hb2 hb3 hc1 hc2 hc3 hd1 hd2 hd3
  have ma := Ma.out
  have na_w := Ma.lt
  have qr1 := @mapOf_drew
  have qr2 := @mapOf_drewN
  have qr3 := @mapOf_cells
  have qr5 := @mapOf_setCell
  have qa0 := @look0 (B) (.agg #[.int .i64 a1, .int .i64 a2, .int .i64 a3]) (.agg #[.int .i64 b1, .int .i64 b2, .int .i64 b3]) (.agg #[.int .i64 c1, .int .i64 c2, .int .i64 c3]) (.agg #[.int .i64 d1, .int .i64 d2, .int .i64 d3])
  have qa1 := @look1 (B) (.agg #[.int .i64 a1, .int .i64 a2, .int .i64 a3]) (.agg #[.int .i64 b1, .int .i64 b2, .int .i64 b3]) (.agg #[.int .i64 c1, .int .i64 c2, .int .i64 c3]) (.agg #[.int .i64 d1, .int .i64 d2, .int .i64 d3])
  have qa2 := @look2 (B) (.agg #[.int .i64 a1, .int .i64 a2, .int .i64 a3]) (.agg #[.int .i64 b1, .int .i64 b2, .int .i64 b3]) (.agg #[.int .i64 c1, .int .i64 c2, .int .i64 c3]) (.agg #[.int .i64 d1, .int .i64 d2, .int .i64 d3])
  have qa3 := @look3 (B) (.agg #[.int .i64 a1, .int .i64 a2, .int .i64 a3]) (.agg #[.int .i64 b1, .int .i64 b2, .int .i64 b3]) (.agg #[.int .i64 c1, .int .i64 c2, .int .i64 c3]) (.agg #[.int .i64 d1, .int .i64 d2, .int .i64 d3])
  go_enter Tryd.func24, Tryd.ntmps24
  go_wp2_with fail
  refine (HS.out _ (by repeat' (first | (with_reducible first | assumption | refine Mp.drew ?_ | refine Mp.drewN ?_ _ | refine Mp.set ?_ _ _ | (refine Mp.new ?_; focus (first | rfl | (simp; done)))) | (refine Mp.put (vs := []) ?_ rfl rfl) | (refine Mp.put (vs := [.agg #[.int .i64 a1, .int .i64 a2, .int .i64 a3]]) ?_ rfl rfl) | (refine Mp.put (vs := [.agg #[.int .i64 a1, .int .i64 a2, .int .i64 a3], .agg #[.int .i64 b1, .int .i64 b2, .int .i64 b3]]) ?_ rfl rfl) | (refine Mp.put (vs := [.agg #[.int .i64 a1, .int .i64 a2, .int .i64 a3], .agg #[.int .i64 b1, .int .i64 b2, .int .i64 b3], .agg #[.int .i64 c1, .int .i64 c2, .int .i64 c3]]) ?_ rfl rfl) | (with_reducible first | refine Mp.putOther ?_ ?_ _ _ | refine Mp.alloc ?_ _) | (refine neB ?_; omega)))).mono ?_
  rintro e W1 ⟨h1, h2, hb⟩
  have Ma : Mp W1 (B) [.agg #[.int .i64 a1, .int .i64 a2, .int .i64 a3], .agg #[.int .i64 b1, .int .i64 b2, .int .i64 b3], .agg #[.int .i64 c1, .int .i64 c2, .int .i64 c3], .agg #[.int .i64 d1, .int .i64 d2, .int .i64 d3]] := Mp.keep hb (by repeat' (first | (with_reducible first | assumption | refine Mp.drew ?_ | refine Mp.drewN ?_ _ | refine Mp.set ?_ _ _ | (refine Mp.new ?_; focus (first | rfl | (simp; done)))) | (refine Mp.put (vs := []) ?_ rfl rfl) | (refine Mp.put (vs := [.agg #[.int .i64 a1, .int .i64 a2, .int .i64 a3]]) ?_ rfl rfl) | (refine Mp.put (vs := [.agg #[.int .i64 a1, .int .i64 a2, .int .i64 a3], .agg #[.int .i64 b1, .int .i64 b2, .int .i64 b3]]) ?_ rfl rfl) | (refine Mp.put (vs := [.agg #[.int .i64 a1, .int .i64 a2, .int .i64 a3], .agg #[.int .i64 b1, .int .i64 b2, .int .i64 b3], .agg #[.int .i64 c1, .int .i64 c2, .int .i64 c3]]) ?_ rfl rfl) | (with_reducible first | refine Mp.putOther ?_ ?_ _ _ | refine Mp.alloc ?_ _) | (refine neB ?_; omega)))
  have ma := Ma.out
  have na_W1 := Ma.lt
  have kaW1 : Acc w W1 := by
    refine Acc.call ?_ hb
    (repeat' (first | (with_reducible first | assumption | exact Acc.refl _ | refine Acc.drew ?_ | refine Acc.drewN ?_ _ | refine Acc.alloc ?_ _ | refine Acc.setCell ?_ ?_ _ | refine Acc.mapPut ?_ ?_ _ _) | (refine leB ?_; omega)))
  clear hb
  cases o with
  | none =>
    obtain ⟨s, rfl⟩ := h2 rfl
    clear h1 h2
    go_wp2_with fail
    refine (C.out _).mono ?_
    rintro e W2 ⟨rfl, hb⟩
    have Ma : Mp W2 (B) [.agg #[.int .i64 a1, .int .i64 a2, .int .i64 a3], .agg #[.int .i64 b1, .int .i64 b2, .int .i64 b3], .agg #[.int .i64 c1, .int .i64 c2, .int .i64 c3], .agg #[.int .i64 d1, .int .i64 d2, .int .i64 d3]] := Mp.keep hb (by repeat' (first | (with_reducible first | assumption | refine Mp.drew ?_ | refine Mp.drewN ?_ _ | refine Mp.set ?_ _ _ | (refine Mp.new ?_; focus (first | rfl | (simp; done)))) | (refine Mp.put (vs := []) ?_ rfl rfl) | (refine Mp.put (vs := [.agg #[.int .i64 a1, .int .i64 a2, .int .i64 a3]]) ?_ rfl rfl) | (refine Mp.put (vs := [.agg #[.int .i64 a1, .int .i64 a2, .int .i64 a3], .agg #[.int .i64 b1, .int .i64 b2, .int .i64 b3]]) ?_ rfl rfl) | (refine Mp.put (vs := [.agg #[.int .i64 a1, .int .i64 a2, .int .i64 a3], .agg #[.int .i64 b1, .int .i64 b2, .int .i64 b3], .agg #[.int .i64 c1, .int .i64 c2, .int .i64 c3]]) ?_ rfl rfl) | (with_reducible first | refine Mp.putOther ?_ ?_ _ _ | refine Mp.alloc ?_ _) | (refine neB ?_; omega)))
    have ma := Ma.out
    have na_W2 := Ma.lt
    have kaW2 : Acc w W2 := by
      refine Acc.call ?_ hb
      (repeat' (first | (with_reducible first | assumption | exact Acc.refl _ | refine Acc.drew ?_ | refine Acc.drewN ?_ _ | refine Acc.alloc ?_ _ | refine Acc.setCell ?_ ?_ _ | refine Acc.mapPut ?_ ?_ _ _) | (refine leB ?_; omega)))
    clear hb
    go_wp2_with fail
    go_ret2
    refine ⟨fun _ h => (by cases h), fun _ => ⟨_, _, rfl⟩, ?_⟩
    show Acc w _
    (repeat' (first | (with_reducible first | assumption | exact Acc.refl _ | refine Acc.drew ?_ | refine Acc.drewN ?_ _ | refine Acc.alloc ?_ _ | refine Acc.setCell ?_ ?_ _ | refine Acc.mapPut ?_ ?_ _ _) | (refine leB ?_; omega)))
  | some n =>
    obtain rfl := h1 _ rfl
    clear h1 h2
    by_cases hn : n = 0
    · skip
      subst hn
      go_wp2_with fail
      refine (C.out _).mono ?_
      rintro e W2 ⟨rfl, hb⟩
      have Ma : Mp W2 (B) [.agg #[.int .i64 a1, .int .i64 a2, .int .i64 a3], .agg #[.int .i64 b1, .int .i64 b2, .int .i64 b3], .agg #[.int .i64 c1, .int .i64 c2, .int .i64 c3], .agg #[.int .i64 d1, .int .i64 d2, .int .i64 d3]] := Mp.keep hb (by repeat' (first | (with_reducible first | assumption | refine Mp.drew ?_ | refine Mp.drewN ?_ _ | refine Mp.set ?_ _ _ | (refine Mp.new ?_; focus (first | rfl | (simp; done)))) | (refine Mp.put (vs := []) ?_ rfl rfl) | (refine Mp.put (vs := [.agg #[.int .i64 a1, .int .i64 a2, .int .i64 a3]]) ?_ rfl rfl) | (refine Mp.put (vs := [.agg #[.int .i64 a1, .int .i64 a2, .int .i64 a3], .agg #[.int .i64 b1, .int .i64 b2, .int .i64 b3]]) ?_ rfl rfl) | (refine Mp.put (vs := [.agg #[.int .i64 a1, .int .i64 a2, .int .i64 a3], .agg #[.int .i64 b1, .int .i64 b2, .int .i64 b3], .agg #[.int .i64 c1, .int .i64 c2, .int .i64 c3]]) ?_ rfl rfl) | (with_reducible first | refine Mp.putOther ?_ ?_ _ _ | refine Mp.alloc ?_ _) | (refine neB ?_; omega)))
      have ma := Ma.out
      have na_W2 := Ma.lt
      have kaW2 : Acc w W2 := by
        refine Acc.call ?_ hb
        (repeat' (first | (with_reducible first | assumption | exact Acc.refl _ | refine Acc.drew ?_ | refine Acc.drewN ?_ _ | refine Acc.alloc ?_ _ | refine Acc.setCell ?_ ?_ _ | refine Acc.mapPut ?_ ?_ _ _) | (refine leB ?_; omega)))
      clear hb
      go_wp2_with fail
      all_goals
        go_ret2
        refine ⟨fun _ h => (by cases h; first | rfl | (simp [*]; done) | (simp [go_sem, *]; done) | (simp [*]; intro h9; omega)), fun h => (by cases h), ?_⟩
        show Acc w _
        (repeat' (first | (with_reducible first | assumption | exact Acc.refl _ | refine Acc.drew ?_ | refine Acc.drewN ?_ _ | refine Acc.alloc ?_ _ | refine Acc.setCell ?_ ?_ _ | refine Acc.mapPut ?_ ?_ _ _) | (refine leB ?_; omega)))
    · skip
      go_wp2_with fail
      all_goals
        go_ret2
        refine ⟨fun _ h => (by cases h; first | rfl | (simp [*]; done) | (simp [go_sem, *]; done) | (simp [*]; intro h9; omega)), fun h => (by cases h), ?_⟩
        show Acc w _
        (repeat' (first | (with_reducible first | assumption | exact Acc.refl _ | refine Acc.drew ?_ | refine Acc.drewN ?_ _ | refine Acc.alloc ?_ _ | refine Acc.setCell ?_ ?_ _ | refine Acc.mapPut ?_ ?_ _ _) | (refine leB ?_; omega)))
end Go.Proofs.YtchdcncnlfgjfaaDoor
