/-
  The draws of an index and of a film.
-/
import Derived.Test.YtkdkeacfifjjoabDoorBDrawF
import Derived.Test.YtkdkeacfifjjoabDoorBMem
import Derived.Test.YtkdkeacfifjjoabDoorBLawS
import Derived.WalkKit
import Derived.OwnWalk
import Derived.Laws.AppendOwn
namespace Go.Proofs.YtkdkeacfifjjoabDoor
open Go.ChangeShapes Go.WideShapes Go.ChangeAt Go.RowKit
set_option linter.unusedVariables false

set_option linter.unusedSimpArgs false
/-- A drawn index. -/
def DrewX (b p : Nat) (w : World) (e : Ending) (w' : World) : Prop :=
  ∃ (x y z : Int) (q : Nat), e = .returned (.agg #[.int .i64 x, .int .i64 y, .int .i64 z]) ∧ (i64B x ∧ i64B y ∧ i64B z) ∧ Only b w w' ∧ q ≤ p + 6 ∧ Rd w' b q
set_option maxHeartbeats 8000000 in
theorem index_any (b p : Nat) (w : World) (h : Rd w b p) (hp : p < 999900) :
    Calls Tryd.prog 17 #[.pointer (some ⟨b, 0, none⟩)] w (DrewX b p w) := by
  have hbw : b < w.heap.size := h.1
  have h0 : Rd (w.alloc (.cells #[.int .i64 0, .int .i64 0, .int .i64 0] 27)) b p := h.keep ((Below.refl _ _).alloc (by omega) _)
  have H0 := Lib.hid h0
  clear h h0
  go_enter Tryd.func17, Tryd.ntmps17
  go_wp2_with fail
  refine (pick_any b p 6 _ H0.out (by omega) (by omega) (by omega)).mono ?_
  rintro e W1 ⟨k0, rfl, hk0, hk1, ho, hr⟩
  have Br : Blk W1 (w.heap.size) [.int .i64 0, .int .i64 0, .int .i64 0] := Blk.keepo ho (neB (by omega)) (by repeat' (first | (with_reducible first | assumption | refine Blk.drew ?_ | refine Blk.drewN ?_ _ | apply Blk.set | (refine Blk.new ?_; focus (first | rfl | (simp; done))) | refine Blk.alloc ?_ _ | refine Blk.other ?_ ?_ _) | exact eqL rfl | (refine neB ?_; omega)))
  have cr := Br.cell
  have fr := Br.free
  have lr_W1 := Br.lt
  have oaW1 : Only b w W1 := by
    refine Only.trans ?_ ho
    (repeat' (first | (with_reducible first | assumption | exact Only.refl _ _ | refine Only.drew ?_ | refine Only.alloc ?_ _ | refine Only.setCell ?_ ?_ _ | (refine Only.call ?_ ?_; rotate_left; assumption)) | (refine leB ?_; omega)))
  have lsW1 := oaW1.size
  have bwW1 : b < W1.heap.size := hr.1
  have HR := Lib.hid fun W (k : Below (b + 1) W1 W) => hr.keep k
  clear ho hr
  by_cases h0 : k0 = 0
  ·
    subst h0
    go_wp2_with fail
    refine (frac_any b (p + 1) _ (HR.out _ (by repeat' (first | (with_reducible first | assumption | exact Below.refl _ _ | refine Below.drew ?_ | refine below_alloc ?_ ?_ _ | refine below_set ?_ ?_ _) | (refine leB ?_; omega)))) (by omega)).mono ?_
    rintro e W2 ⟨x, y, z, q, rfl, hd, ho, hq, hr⟩
    have Br : Blk W2 (w.heap.size) [.int .i64 0, .int .i64 0, .int .i64 0] := Blk.keepo ho (neB (by omega)) (by repeat' (first | (with_reducible first | assumption | refine Blk.drew ?_ | refine Blk.drewN ?_ _ | apply Blk.set | (refine Blk.new ?_; focus (first | rfl | (simp; done))) | refine Blk.alloc ?_ _ | refine Blk.other ?_ ?_ _) | exact eqL rfl | (refine neB ?_; omega)))
    have cr := Br.cell
    have fr := Br.free
    have lr_W2 := Br.lt
    have oaW2 : Only b w W2 := by
      refine Only.trans ?_ ho
      (repeat' (first | (with_reducible first | assumption | exact Only.refl _ _ | refine Only.drew ?_ | refine Only.alloc ?_ _ | refine Only.setCell ?_ ?_ _ | (refine Only.call ?_ ?_; rotate_left; assumption)) | (refine leB ?_; omega)))
    have lsW2 := oaW2.size
    have bwW2 : b < W2.heap.size := hr.1
    have HR := Lib.hid fun W (k : Below (b + 1) W2 W) => hr.keep k
    clear ho hr
    go_wp2_with fail
    have hi := drawn_i64 hd
    refine bodyPost_ret (v := .agg #[.int .i64 x, .int .i64 y, .int .i64 z]) (by simp [results, Tryd.results17, go_sem, *]) rfl ⟨x, y, z, q, rfl, hi, ?_, by omega, HR.out _ ?_⟩
    · (repeat' (first | (with_reducible first | assumption | exact Only.refl _ _ | refine Only.drew ?_ | refine Only.alloc ?_ _ | refine Only.setCell ?_ ?_ _ | (refine Only.call ?_ ?_; rotate_left; assumption)) | (refine leB ?_; omega)))
    · (repeat' (first | (with_reducible first | assumption | exact Below.refl _ _ | refine Below.drew ?_ | refine below_alloc ?_ ?_ _ | refine below_set ?_ ?_ _) | (refine leB ?_; omega)))
  ·
    have h0b : (k0 == 0) = false := by simp [h0]
    go_wp2_with fail
    refine (pick_any b (p + 1) 5 _ (HR.out _ (by repeat' (first | (with_reducible first | assumption | exact Below.refl _ _ | refine Below.drew ?_ | refine below_alloc ?_ ?_ _ | refine below_set ?_ ?_ _) | (refine leB ?_; omega)))) (by omega) (by omega) (by omega)).mono ?_
    rintro e W2 ⟨k1, rfl, h10, h11, ho, hr⟩
    have Br : Blk W2 (w.heap.size) [.int .i64 0, .int .i64 0, .int .i64 0] := Blk.keepo ho (neB (by omega)) (by repeat' (first | (with_reducible first | assumption | refine Blk.drew ?_ | refine Blk.drewN ?_ _ | apply Blk.set | (refine Blk.new ?_; focus (first | rfl | (simp; done))) | refine Blk.alloc ?_ _ | refine Blk.other ?_ ?_ _) | exact eqL rfl | (refine neB ?_; omega)))
    have cr := Br.cell
    have fr := Br.free
    have lr_W2 := Br.lt
    have oaW2 : Only b w W2 := by
      refine Only.trans ?_ ho
      (repeat' (first | (with_reducible first | assumption | exact Only.refl _ _ | refine Only.drew ?_ | refine Only.alloc ?_ _ | refine Only.setCell ?_ ?_ _ | (refine Only.call ?_ ?_; rotate_left; assumption)) | (refine leB ?_; omega)))
    have lsW2 := oaW2.size
    have bwW2 : b < W2.heap.size := hr.1
    have HR := Lib.hid fun W (k : Below (b + 1) W2 W) => hr.keep k
    clear ho hr
    go_wp2_with fail
    refine (pick_any b (p + 1 + 1) 3 _ (HR.out _ (by repeat' (first | (with_reducible first | assumption | exact Below.refl _ _ | refine Below.drew ?_ | refine below_alloc ?_ ?_ _ | refine below_set ?_ ?_ _) | (refine leB ?_; omega)))) (by omega) (by omega) (by omega)).mono ?_
    rintro e W3 ⟨k2, rfl, h20, h21, ho, hr⟩
    have Br : Blk W3 (w.heap.size) [.int .i64 0, .int .i64 0, .int .i64 0] := Blk.keepo ho (neB (by omega)) (by repeat' (first | (with_reducible first | assumption | refine Blk.drew ?_ | refine Blk.drewN ?_ _ | apply Blk.set | (refine Blk.new ?_; focus (first | rfl | (simp; done))) | refine Blk.alloc ?_ _ | refine Blk.other ?_ ?_ _) | exact eqL rfl | (refine neB ?_; omega)))
    have cr := Br.cell
    have fr := Br.free
    have lr_W3 := Br.lt
    have oaW3 : Only b w W3 := by
      refine Only.trans ?_ ho
      (repeat' (first | (with_reducible first | assumption | exact Only.refl _ _ | refine Only.drew ?_ | refine Only.alloc ?_ _ | refine Only.setCell ?_ ?_ _ | (refine Only.call ?_ ?_; rotate_left; assumption)) | (refine leB ?_; omega)))
    have lsW3 := oaW3.size
    have bwW3 : b < W3.heap.size := hr.1
    have HR := Lib.hid fun W (k : Below (b + 1) W3 W) => hr.keep k
    clear ho hr
    go_wp2_with fail
    refine (pick_any b (p + 1 + 1 + 1) 2 _ (HR.out _ (by repeat' (first | (with_reducible first | assumption | exact Below.refl _ _ | refine Below.drew ?_ | refine below_alloc ?_ ?_ _ | refine below_set ?_ ?_ _) | (refine leB ?_; omega)))) (by omega) (by omega) (by omega)).mono ?_
    rintro e W4 ⟨k3, rfl, h30, h31, ho, hr⟩
    have Br : Blk W4 (w.heap.size) [.int .i64 0, .int .i64 0, .int .i64 0] := Blk.keepo ho (neB (by omega)) (by repeat' (first | (with_reducible first | assumption | refine Blk.drew ?_ | refine Blk.drewN ?_ _ | apply Blk.set | (refine Blk.new ?_; focus (first | rfl | (simp; done))) | refine Blk.alloc ?_ _ | refine Blk.other ?_ ?_ _) | exact eqL rfl | (refine neB ?_; omega)))
    have cr := Br.cell
    have fr := Br.free
    have lr_W4 := Br.lt
    have oaW4 : Only b w W4 := by
      refine Only.trans ?_ ho
      (repeat' (first | (with_reducible first | assumption | exact Only.refl _ _ | refine Only.drew ?_ | refine Only.alloc ?_ _ | refine Only.setCell ?_ ?_ _ | (refine Only.call ?_ ?_; rotate_left; assumption)) | (refine leB ?_; omega)))
    have lsW4 := oaW4.size
    have bwW4 : b < W4.heap.size := hr.1
    have HR := Lib.hid fun W (k : Below (b + 1) W4 W) => hr.keep k
    clear ho hr
    obtain rfl | rfl : k3 = 0 ∨ k3 = 1 := by omega
    ·
      go_wp2_with fail
      refine (pick_any b (p + 1 + 1 + 1 + 1) 2 _ (HR.out _ (by repeat' (first | (with_reducible first | assumption | exact Below.refl _ _ | refine Below.drew ?_ | refine below_alloc ?_ ?_ _ | refine below_set ?_ ?_ _) | (refine leB ?_; omega)))) (by omega) (by omega) (by omega)).mono ?_
      rintro e W5 ⟨k4, rfl, h40, h41, ho, hr⟩
      have Br : Blk W5 (w.heap.size) [.int .i64 0, .int .i64 0, .int .i64 0] := Blk.keepo ho (neB (by omega)) (by repeat' (first | (with_reducible first | assumption | refine Blk.drew ?_ | refine Blk.drewN ?_ _ | apply Blk.set | (refine Blk.new ?_; focus (first | rfl | (simp; done))) | refine Blk.alloc ?_ _ | refine Blk.other ?_ ?_ _) | exact eqL rfl | (refine neB ?_; omega)))
      have cr := Br.cell
      have fr := Br.free
      have lr_W5 := Br.lt
      have oaW5 : Only b w W5 := by
        refine Only.trans ?_ ho
        (repeat' (first | (with_reducible first | assumption | exact Only.refl _ _ | refine Only.drew ?_ | refine Only.alloc ?_ _ | refine Only.setCell ?_ ?_ _ | (refine Only.call ?_ ?_; rotate_left; assumption)) | (refine leB ?_; omega)))
      have lsW5 := oaW5.size
      have bwW5 : b < W5.heap.size := hr.1
      have HR := Lib.hid fun W (k : Below (b + 1) W5 W) => hr.keep k
      clear ho hr
      go_wp2_with fail
      obtain ⟨⟨m1, m2, m3⟩, hv⟩ : ∃ o, partsR (lowF (2 + k1) 0 (1 + k4)) = o := ⟨_, rfl⟩
      obtain ⟨km, hk⟩ : ∃ k, okR (lowF (2 + k1) 0 (1 + k4)) = k := ⟨_, rfl⟩
      have Cm := Lib.hid hv
      have Dm := Lib.hid hk
      clear hv hk
      have hi := drawn_i64 (x := m1) (y := m2) (z := m3) (.inr (.inr (.inr (.inr ⟨2 + k1, 0, 1 + k4, by omega, by omega, by omega, Cm.out.symm⟩))))
      refine (gave_any Cm.out Dm.out (specLow_any (2 + k1) 0 (1 + k4) _ (by omega) (by omega) (by omega))).mono ?_
      rintro e W6 ⟨rfl, hb⟩
      have ho : Only b _ W6 := Below.only hb
      have hr := HR.out W6 (Below.trans (by repeat' (first | (with_reducible first | assumption | exact Below.refl _ _ | refine Below.drew ?_ | refine below_alloc ?_ ?_ _ | refine below_set ?_ ?_ _) | (refine leB ?_; omega))) (Below.mono hb (by first | omega | (simp; omega))))
      have Br : Blk W6 (w.heap.size) [.int .i64 0, .int .i64 0, .int .i64 0] := Blk.keepo ho (neB (by omega)) (by repeat' (first | (with_reducible first | assumption | refine Blk.drew ?_ | refine Blk.drewN ?_ _ | apply Blk.set | (refine Blk.new ?_; focus (first | rfl | (simp; done))) | refine Blk.alloc ?_ _ | refine Blk.other ?_ ?_ _) | exact eqL rfl | (refine neB ?_; omega)))
      have cr := Br.cell
      have fr := Br.free
      have lr_W6 := Br.lt
      have oaW6 : Only b w W6 := by
        refine Only.trans ?_ ho
        (repeat' (first | (with_reducible first | assumption | exact Only.refl _ _ | refine Only.drew ?_ | refine Only.alloc ?_ _ | refine Only.setCell ?_ ?_ _ | (refine Only.call ?_ ?_; rotate_left; assumption)) | (refine leB ?_; omega)))
      have lsW6 := oaW6.size
      have bwW6 : b < W6.heap.size := hr.1
      have HR := Lib.hid fun W (k : Below (b + 1) W6 W) => hr.keep k
      clear ho hr
      go_wp2_with fail
      refine bodyPost_ret (v := .agg #[.int .i64 m1, .int .i64 m2, .int .i64 m3]) (by simp [results, Tryd.results17, go_sem, *]) rfl ⟨m1, m2, m3, p + 1 + 1 + 1 + 1 + 1, rfl, hi, ?_, by omega, HR.out _ ?_⟩
      · (repeat' (first | (with_reducible first | assumption | exact Only.refl _ _ | refine Only.drew ?_ | refine Only.alloc ?_ _ | refine Only.setCell ?_ ?_ _ | (refine Only.call ?_ ?_; rotate_left; assumption)) | (refine leB ?_; omega)))
      · (repeat' (first | (with_reducible first | assumption | exact Below.refl _ _ | refine Below.drew ?_ | refine below_alloc ?_ ?_ _ | refine below_set ?_ ?_ _) | (refine leB ?_; omega)))
    ·
      go_wp2_with fail
      refine (pick_any b (p + 1 + 1 + 1 + 1) 2 _ (HR.out _ (by repeat' (first | (with_reducible first | assumption | exact Below.refl _ _ | refine Below.drew ?_ | refine below_alloc ?_ ?_ _ | refine below_set ?_ ?_ _) | (refine leB ?_; omega)))) (by omega) (by omega) (by omega)).mono ?_
      rintro e W5 ⟨k4, rfl, h40, h41, ho, hr⟩
      have Br : Blk W5 (w.heap.size) [.int .i64 0, .int .i64 0, .int .i64 0] := Blk.keepo ho (neB (by omega)) (by repeat' (first | (with_reducible first | assumption | refine Blk.drew ?_ | refine Blk.drewN ?_ _ | apply Blk.set | (refine Blk.new ?_; focus (first | rfl | (simp; done))) | refine Blk.alloc ?_ _ | refine Blk.other ?_ ?_ _) | exact eqL rfl | (refine neB ?_; omega)))
      have cr := Br.cell
      have fr := Br.free
      have lr_W5 := Br.lt
      have oaW5 : Only b w W5 := by
        refine Only.trans ?_ ho
        (repeat' (first | (with_reducible first | assumption | exact Only.refl _ _ | refine Only.drew ?_ | refine Only.alloc ?_ _ | refine Only.setCell ?_ ?_ _ | (refine Only.call ?_ ?_; rotate_left; assumption)) | (refine leB ?_; omega)))
      have lsW5 := oaW5.size
      have bwW5 : b < W5.heap.size := hr.1
      have HR := Lib.hid fun W (k : Below (b + 1) W5 W) => hr.keep k
      clear ho hr
      go_wp2_with fail
      obtain ⟨⟨m1, m2, m3⟩, hv⟩ : ∃ o, partsR (lowF (2 + k1) (1 - k2) (1 + k4)) = o := ⟨_, rfl⟩
      obtain ⟨km, hk⟩ : ∃ k, okR (lowF (2 + k1) (1 - k2) (1 + k4)) = k := ⟨_, rfl⟩
      have Cm := Lib.hid hv
      have Dm := Lib.hid hk
      clear hv hk
      have hi := drawn_i64 (x := m1) (y := m2) (z := m3) (.inr (.inr (.inr (.inr ⟨2 + k1, (1 - k2), 1 + k4, by omega, by omega, by omega, Cm.out.symm⟩))))
      refine (gave_any Cm.out Dm.out (specLow_any (2 + k1) (1 - k2) (1 + k4) _ (by omega) (by omega) (by omega))).mono ?_
      rintro e W6 ⟨rfl, hb⟩
      have ho : Only b _ W6 := Below.only hb
      have hr := HR.out W6 (Below.trans (by repeat' (first | (with_reducible first | assumption | exact Below.refl _ _ | refine Below.drew ?_ | refine below_alloc ?_ ?_ _ | refine below_set ?_ ?_ _) | (refine leB ?_; omega))) (Below.mono hb (by first | omega | (simp; omega))))
      have Br : Blk W6 (w.heap.size) [.int .i64 0, .int .i64 0, .int .i64 0] := Blk.keepo ho (neB (by omega)) (by repeat' (first | (with_reducible first | assumption | refine Blk.drew ?_ | refine Blk.drewN ?_ _ | apply Blk.set | (refine Blk.new ?_; focus (first | rfl | (simp; done))) | refine Blk.alloc ?_ _ | refine Blk.other ?_ ?_ _) | exact eqL rfl | (refine neB ?_; omega)))
      have cr := Br.cell
      have fr := Br.free
      have lr_W6 := Br.lt
      have oaW6 : Only b w W6 := by
        refine Only.trans ?_ ho
        (repeat' (first | (with_reducible first | assumption | exact Only.refl _ _ | refine Only.drew ?_ | refine Only.alloc ?_ _ | refine Only.setCell ?_ ?_ _ | (refine Only.call ?_ ?_; rotate_left; assumption)) | (refine leB ?_; omega)))
      have lsW6 := oaW6.size
      have bwW6 : b < W6.heap.size := hr.1
      have HR := Lib.hid fun W (k : Below (b + 1) W6 W) => hr.keep k
      clear ho hr
      go_wp2_with fail
      refine bodyPost_ret (v := .agg #[.int .i64 m1, .int .i64 m2, .int .i64 m3]) (by simp [results, Tryd.results17, go_sem, *]) rfl ⟨m1, m2, m3, p + 1 + 1 + 1 + 1 + 1, rfl, hi, ?_, by omega, HR.out _ ?_⟩
      · (repeat' (first | (with_reducible first | assumption | exact Only.refl _ _ | refine Only.drew ?_ | refine Only.alloc ?_ _ | refine Only.setCell ?_ ?_ _ | (refine Only.call ?_ ?_; rotate_left; assumption)) | (refine leB ?_; omega)))
      · (repeat' (first | (with_reducible first | assumption | exact Below.refl _ _ | refine Below.drew ?_ | refine below_alloc ?_ ?_ _ | refine below_set ?_ ?_ _) | (refine leB ?_; omega)))
theorem own_only {w w' : World} {b B sz n : Nat} {e : TypeId} {v : Value} {xs : List Value} (h : w.ownsRow B e sz v n xs) (ho : Only b w w') (hb : b < B) : w'.ownsRow B e sz v n xs := by
  refine ⟨h.1, ?_⟩
  rcases h.2 with hn | ⟨g, cap, cur, rfl, hB, hg, rest⟩
  · exact .inl hn
  · exact .inr ⟨g, cap, cur, rfl, hB, (ho.block g (Array.getElem?_eq_some_iff.1 hg).1 (by omega)).trans hg, rest⟩
theorem own_from {w w' : World} {B sz n : Nat} {e : TypeId} {v : Value} {xs : List Value} (h : w.ownsRow B e sz v n xs) (hb : Below w.heap.size w w') : w'.ownsRow B e sz v n xs := own_keep h hb
theorem only_grown {a w w' : World} {b : Nat} {row : Option Nat} (h : Only b a w) (hg : w.grownBy w' row) (hr : ∀ k, row = some k → a.heap.size ≤ k) : Only b a w' :=
  ⟨hg.os.trans h.os, hg.tape.trans h.tape, hg.output.trans h.output, Nat.le_trans h.size hg.size, fun k hk hb => (hg.block k (Nat.lt_of_lt_of_le hk h.size) (fun e => by have := hr k e.symm; omega)).trans (h.block k hk hb)⟩
theorem own_row {w : World} {B sz n g : Nat} {e : TypeId} {v : Value} {xs : List Value} (h : w.ownsRow B e sz v n xs) (hg : v.ownBlock = some g) : B ≤ g := by
  rcases h.2 with ⟨rfl, _⟩ | ⟨g', cap, cur, rfl, hB, _⟩
  · cases hg
  · simp only [Value.ownBlock, Option.some.injEq] at hg
    omega
theorem lys_of_own {w : World} {B : Nat} {e : TypeId} {v : Value} {ls : List L4} (hi : ∀ l ∈ ls, i64L l) (h : w.ownsRow B e 4 v ls.length (layC ls)) : ∃ a cap, v = .slice a ls.length cap ∧ Lys w a ls := by
  rcases h.2 with ⟨rfl, h0⟩ | ⟨g, cap, cur, rfl, hB, hg, h1, h2, h3, h4⟩
  · have e : ls = [] := List.eq_nil_of_length_eq_zero h0
    subst e
    exact ⟨none, 0, rfl, hi, .inl rfl⟩
  · refine ⟨_, cap, rfl, hi, .inr ⟨g, 0, rfl, (Array.getElem?_eq_some_iff.1 hg).1, fun i l hl => ?_⟩⟩
    have hB : Blk w g cur.toList := ⟨e, by simpa using hg⟩
    have key : ∀ j u, (layC ls)[j]? = some u → w.cell? ⟨g, j, none⟩ = some u := fun j u hu => by
      rw [hB.cell]
      rw [← h4, List.getElem?_take] at hu
      split at hu
      · exact hu
      · cases hu
    obtain ⟨k0, k1, k2, k3⟩ := layC_at hl
    simp only [Nat.zero_add]
    exact ⟨key _ _ k0, key _ _ k1, key _ _ k2, key _ _ k3⟩
/-- A drawn film: a row of its own. -/
def DrewFl (b p : Nat) (w : World) (e : Ending) (w' : World) : Prop :=
  ∃ (v : Value) (ls : List L4) (q : Nat), e = .returned v ∧ v ≠ .slice none 0 0 ∧ w'.ownsRow w.heap.size 29 4 v ls.length (layC ls) ∧ (∀ l ∈ ls, i64L l) ∧ ls.length ≤ 4 ∧ Only b w w' ∧ q ≤ p + 40 ∧ Rd w' b q
set_option maxRecDepth 100000 in
set_option maxHeartbeats 16000000 in
theorem film_any (b p : Nat) (w : World) (h : Rd w b p) (hp : p < 999800) :
    Calls Tryd.prog 8 #[.pointer (some ⟨b, 0, none⟩)] w (DrewFl b p w) := by
  have hbw : b < w.heap.size := h.1
  have H0 := Lib.hid fun W (k : Below w.heap.size w W) => h.keep (Below.mono k hbw)
  clear h
  obtain ⟨i0, hi0, hz0, hz1, hz2⟩ := info_parts info_layer
  go_enter Tryd.func8, Tryd.ntmps8
  go_wp2_with fail
  refine (pick_any b p 4 _ (H0.out _ (show Acc w _ by repeat' (first | (with_reducible first | assumption | exact Acc.refl _ | refine Acc.drew ?_ | refine Acc.drewN ?_ _ | refine Acc.alloc ?_ _ | refine Acc.setCell ?_ ?_ _) | (refine leB ?_; omega)))) (by omega) (by omega) (by omega)).mono ?_
  rintro e W1 ⟨n, rfl, hn0, hn1, ho, hr⟩
  have hown : W1.ownsRow w.heap.size 29 4 (.slice (some ⟨w.heap.size, 0, none⟩) 0 0) 0 [] := own_only (World.ownsRow_made w #[] 0 (Nat.le_refl _) (by decide) rfl) ho hbw
  have oa : Only b w W1 := Only.trans (by repeat' (first | (with_reducible first | assumption | exact Only.refl _ _ | refine Only.drew ?_ | refine Only.alloc ?_ _ | refine Only.setCell ?_ ?_ _ | (refine Only.call ?_ ?_; rotate_left; assumption)) | (refine leB ?_; omega))) ho
  clear ho H0
  obtain ⟨N, rfl⟩ : ∃ N : Nat, n = N := ⟨n.toNat, by omega⟩
  go_wp2_with fail
  go_loopw [5, 3] (fun i v wr => ∃ (k q : Nat) (ls : List L4), i = .int .i64 k ∧ k ≤ N ∧ ls.length = k ∧ v ≠ .slice none 0 0 ∧ wr.ownsRow w.heap.size 29 4 v ls.length (layC ls) ∧ (∀ l ∈ ls, i64L l) ∧ Only b w wr ∧ q ≤ p + 1 + 7 * k ∧ Rd wr b q) (fun i _ _ => N - (intOf i).toNat)
  case atStart => exact ⟨0, p + 1, [], rfl, Nat.zero_le _, rfl, (fun h => by cases h), hown, (fun l h => by cases h), oa, by omega, hr⟩
  case round =>
    clear hown oa hr
    obtain ⟨k, q, ls, rfl, hk, hlen, hnn, hown, hi4, oa, hq, hr⟩ := hrel
    have HNN := Lib.hid hnn
    clear hnn
    have ls0 := oa.size
    have HO := Lib.hid hown
    have HV := Lib.hid hi4
    have HLn := Lib.hid hlen
    clear hi4
    by_cases hlt : k < N
    ·
      have hk0 : (k : Int) < (N : Int) := by omega
      clear hlen hown
      go_wp2_with fail
      refine (index_any b q _ hr (by omega)).mono ?_
      rintro e W2 ⟨x, y, z, q2, rfl, hxi, ho, hq2, hr2⟩
      have oa2 : Only b w W2 := oa.trans ho
      have O2 := own_only HO.out ho hbw
      have ls2 := oa2.size
      clear ho hr
      go_wp2_with fail
      refine (pick_any b q2 4 _ hr2 (by omega) (by omega) (by omega)).mono ?_
      rintro e W3 ⟨t, rfl, ht0, ht1, ho, hr3⟩
      have oa3 : Only b w W3 := oa2.trans ho
      have O3 := own_only O2 ho hbw
      have ls3 := oa3.size
      clear ho hr2 O2 oa2 oa
      have HL3 := HLn.out
      go_wp2_with (first | (at_builtin; refine wpList_append_own _ rfl _ _ 23 rfl w.heap.size 29 i0 (.agg #[.int .i64 0, .int .i64 0, .int .i64 0, .int .i64 0]) 4 32 Tryd.underlying23 hi0 hz0 hz1 hz2 rfl (by decide) _ _ _ rfl (own_from O3 ((Below.refl _ _).alloc (Nat.le_refl _) _)) ⟨W3.heap.size, 0, none⟩ 1 1 [.int .i64 x, .int .i64 y, .int .i64 z, .int .i64 t] rfl rfl ?c1 ?c2 ?c3 ?c4 ?c5 ?_) | fail)
      case c1 =>
        intro j u hj
        match j, hj with
        | 0, hj => simp at hj; subst hj; simp [Addr.add]
        | 1, hj => simp at hj; subst hj; simp [Addr.add]
        | 2, hj => simp at hj; subst hj; simp [Addr.add]
        | 3, hj => simp at hj; subst hj; simp [Addr.add]
      case c2 => intro u hu; simp at hu; rcases hu with rfl | rfl | rfl | rfl <;> rfl
      case c3 => unfold maxLen; omega
      case c4 => omega
      case c5 => first | omega | (simp; omega)
      intro v' w' hown' hgrow hnil
      have oa4 : Only b w w' := only_grown (Only.alloc oa3 _) hgrow (fun g hg => own_row O3 hg)
      have hr4 : Rd w' b (q2 + 1) := hr3.keep (((Below.refl _ _).alloc (by have := hr3.1; omega) _).grown hgrow (by have := hr3.1; simp; omega) (fun g hg => by have := own_row O3 hg; omega))
      have HNI := Lib.hid hnil
      clear O3 oa3 hr3 hgrow hnil
      go_wp2_with fail
      go_roundw
      case rel =>
        refine ⟨k + 1, q2 + 1, ls ++ [((x, y, z), t)], by go_num, hlt, by rw [List.length_append, HLn.out]; rfl, (fun h => by first | exact HNI.out h | (have := (HNI.out.1 h).2; omega)), ?_, ?_, oa4, by omega, hr4⟩
        · rw [List.length_append, layC_append, HLn.out]
          exact hown'
        · intro l hl
          rcases List.mem_append.1 hl with hl | hl
          · exact HV.out l hl
          · rw [List.mem_singleton.1 hl]
            exact ⟨hxi.1, hxi.2.1, hxi.2.2, by unfold i64B; omega⟩
      case measure => simp [intOf]; omega
    ·
      have hkN : k = N := by omega
      have hk0 : ¬ (k : Int) < (N : Int) := by omega
      go_wp2_with fail
      refine (pick_any b q 24 _ hr (by omega) (by omega) (by omega)).mono ?_
      rintro e W2 ⟨t, rfl, ht0, ht1, ho, hr2⟩
      have oa2 : Only b w W2 := oa.trans ho
      have O2 := own_only HO.out ho hbw
      have ls2 := oa2.size
      clear ho hr hown
      by_cases h0 : t = 0
      ·
        subst h0
        go_wp2_with (first | (at_builtin; refine wpList_append_own _ rfl _ _ 23 rfl w.heap.size 29 i0 (.agg #[.int .i64 0, .int .i64 0, .int .i64 0, .int .i64 0]) 4 32 Tryd.underlying23 hi0 hz0 hz1 hz2 rfl (by decide) _ _ _ rfl (own_from O2 ((Below.refl _ _).alloc (Nat.le_refl _) _)) ⟨W2.heap.size, 0, none⟩ 1 1 [.int .i64 1, .int .i64 0, .int .i64 1, .int .i64 4] rfl rfl ?c1 ?c2 ?c3 ?c4 ?c5 ?_) | fail)
        case c1 =>
          intro j u hj
          match j, hj with
          | 0, hj => simp at hj; subst hj; simp [Addr.add]
          | 1, hj => simp at hj; subst hj; simp [Addr.add]
          | 2, hj => simp at hj; subst hj; simp [Addr.add]
          | 3, hj => simp at hj; subst hj; simp [Addr.add]
        case c2 => intro u hu; simp at hu; rcases hu with rfl | rfl | rfl | rfl <;> rfl
        case c3 => unfold maxLen; omega
        case c4 => omega
        case c5 => first | omega | (simp; omega)
        intro v' w' hown' hgrow hnil
        have oa4 : Only b w w' := only_grown (Only.alloc oa2 _) hgrow (fun g hg => own_row O2 hg)
        have hr4 : Rd w' b (q + 1) := hr2.keep (((Below.refl _ _).alloc (by have := hr2.1; omega) _).grown hgrow (by have := hr2.1; simp; omega) (fun g hg => by have := own_row O2 hg; omega))
        have HNI := Lib.hid hnil
        clear O2 oa2 hr2 hgrow hnil
        go_wp2_with fail
        go_ret
        refine ⟨_, ls ++ [((1, 0, 1), 4)], q + 1, rfl, (fun h => by first | exact HNI.out h | (have := (HNI.out.1 h).2; omega)), ?_, ?_, by rw [List.length_append, HLn.out]; simp; omega, oa4, by omega, hr4⟩
        · rw [List.length_append, layC_append, HLn.out, hkN]
          exact hown'
        · intro l hl
          rcases List.mem_append.1 hl with hl | hl
          · exact HV.out l hl
          · rw [List.mem_singleton.1 hl]
            show i64B 1 ∧ i64B 0 ∧ i64B 1 ∧ i64B 4
            unfold i64B
            omega
      ·
        have h0b : (t == 0) = false := by simp [h0]
        go_wp2_with fail
        go_ret
        exact ⟨_, ls, q + 1, rfl, HNN.out, O2, HV.out, by rw [HLn.out]; omega, oa2, by omega, hr2⟩
end Go.Proofs.YtkdkeacfifjjoabDoor
