/-
  The draws of fibres, lists compared.
-/
import Derived.Test.YtkdkeacfifjjoabGreatDoorBDrawF
import Derived.Test.YtkdkeacfifjjoabGreatDoorBMem
import Derived.Test.YtkdkeacfifjjoabGreatDoorOwnCut
import Derived.WalkKit
import Derived.OwnWalk
import Derived.Laws.AppendOwn
import Derived.Test.YtkdkeacfifjjoabGreatDoorWr
import Derived.Test.YtkdkeacfifjjoabGreatDoorBDrawM
import Derived.Test.YtkdkeacfifjjoabGreatDoorBLet
import Derived.Test.YtkdkeacfifjjoabGreatDoorBLawS
import Derived.Deep.RegionHeld3
namespace Go.Proofs.YtkdkeacfifjjoabGreatDoor
open Go.ChangeShapes Go.WideShapes Go.ChangeAt Go.RowKit
set_option linter.unusedVariables false

set_option linter.unusedSimpArgs false
theorem only_grownN {a w w' : World} {b : Nat} {row : Option Nat} (h : Only b a w) (hg : w.grownBy w' row) (hr : ∀ k, row = some k → a.heap.size ≤ k) : Only b a w' :=
  ⟨hg.os.trans h.os, hg.tape.trans h.tape, hg.output.trans h.output, Nat.le_trans h.size hg.size, fun k hk hb => (hg.block k (Nat.lt_of_lt_of_le hk h.size) (fun e => by have := hr k e.symm; omega)).trans (h.block k hk hb)⟩
theorem own_onlyN {w w' : World} {b B sz n : Nat} {e : TypeId} {v : Value} {xs : List Value} (h : w.ownsRow B e sz v n xs) (ho : Only b w w') (hb : b < B) : w'.ownsRow B e sz v n xs := by
  refine ⟨h.1, ?_⟩
  rcases h.2 with hn | ⟨g, cap, cur, rfl, hB, hg, rest⟩
  · exact .inl hn
  · exact .inr ⟨g, cap, cur, rfl, hB, (ho.block g (Array.getElem?_eq_some_iff.1 hg).1 (by omega)).trans hg, rest⟩
/-- A drawn fibre: a row of its own. -/
def DrewFb (b p : Nat) (w : World) (e : Ending) (w' : World) : Prop :=
  ∃ (v : Value) (ls : List L4) (q : Nat), e = .returned v ∧ v ≠ .slice none 0 0 ∧ w'.ownsRow w.heap.size 90 4 v ls.length (layC ls) ∧ (∀ l ∈ ls, i64L l) ∧ ls.length ≤ 7 ∧ Only b w w' ∧ q ≤ p + 20 ∧ Rd w' b q
set_option maxRecDepth 100000 in
set_option maxHeartbeats 16000000 in
theorem fibre_any (b p : Nat) (w : World) (h : Rd w b p) (hp : p < 999800) :
    Calls Tryz.prog 22 #[.pointer (some ⟨b, 0, none⟩)] w (DrewFb b p w) := by
  have hbw : b < w.heap.size := h.1
  have H0 := Lib.hid fun W (k : Below w.heap.size w W) => h.keep (Below.mono k hbw)
  clear h
  obtain ⟨i0, hi0, hz0, hz1, hz2⟩ := info_parts info_section
  go_enter Tryz.func22, Tryz.ntmps22
  go_wp2_with fail
  refine (pick_any b p 4 _ (H0.out _ (show Acc w _ by repeat' (first | (with_reducible first | assumption | exact Acc.refl _ | refine Acc.drew ?_ | refine Acc.drewN ?_ _ | refine Acc.alloc ?_ _ | refine Acc.setCell ?_ ?_ _) | (refine leB ?_; omega)))) (by omega) (by omega) (by omega)).mono ?_
  rintro e W1 ⟨n, rfl, hn0, hn1, ho, hr⟩
  have hown : W1.ownsRow w.heap.size 90 4 (.slice (some ⟨w.heap.size, 0, none⟩) 0 0) 0 [] := own_onlyN (World.ownsRow_made w #[] 0 (Nat.le_refl _) (by decide) rfl) ho hbw
  have oa : Only b w W1 := Only.trans (by repeat' (first | (with_reducible first | assumption | exact Only.refl _ _ | refine Only.drew ?_ | refine Only.alloc ?_ _ | refine Only.setCell ?_ ?_ _ | (refine Only.call ?_ ?_; rotate_left; assumption)) | (refine leB ?_; omega))) ho
  clear ho H0
  obtain ⟨N, rfl⟩ : ∃ N : Nat, n = N := ⟨n.toNat, by omega⟩
  go_wp2_with fail
  go_loopw [5, 3] (fun i v wr => ∃ (k q : Nat) (ls : List L4), i = .int .i64 k ∧ k ≤ N ∧ ls.length ≤ 2 * k ∧ v ≠ .slice none 0 0 ∧ wr.ownsRow w.heap.size 90 4 v ls.length (layC ls) ∧ (∀ l ∈ ls, i64L l) ∧ Only b w wr ∧ q ≤ p + 1 + 5 * k ∧ Rd wr b q) (fun i _ _ => N - (intOf i).toNat)
  case atStart => exact ⟨0, p + 1, [], rfl, Nat.zero_le _, Nat.zero_le _, (fun h => by cases h), hown, (fun l h => by cases h), oa, by omega, hr⟩
  case round =>
    clear hown oa hr
    obtain ⟨k, q, ls, rfl, hk, hlen, hnn, hown, hi4, oa, hq, hr⟩ := hrel
    have HNN := Lib.hid hnn
    clear hnn
    have ls0 := oa.size
    have HO := Lib.hid hown
    have HV := Lib.hid hi4
    clear hi4 hown
    by_cases hlt : k < N
    ·
      have hk0 : (k : Int) < (N : Int) := by omega
      go_wp2_with fail
      refine (pick_any b (q) 4 _ hr (by omega) (by omega) (by omega)).mono ?_
      rintro e W2 ⟨k0, rfl, h00, h01, ho, hr⟩
      have oa0 : Only b w W2 := Only.trans (show Only b w _ by repeat' (first | (with_reducible first | assumption | exact Only.refl _ _ | refine Only.drew ?_ | refine Only.alloc ?_ _ | refine Only.setCell ?_ ?_ _ | (refine Only.call ?_ ?_; rotate_left; assumption)) | (refine leB ?_; omega))) ho
      have O0 := own_onlyN (own_keep HO.out (show Below _ _ _ by repeat' (first | (with_reducible first | assumption | exact Below.refl _ _ | refine Below.drew ?_ | refine below_alloc ?_ ?_ _ | refine below_set ?_ ?_ _) | (refine leB ?_; omega)))) ho hbw
      have lsW2 := oa0.size
      clear ho
      go_wp2_with fail
      refine (pick_any b (q + 1) 2 _ hr (by omega) (by omega) (by omega)).mono ?_
      rintro e W3 ⟨k1, rfl, h10, h11, ho, hr⟩
      have oa1 : Only b w W3 := Only.trans (show Only b w _ by repeat' (first | (with_reducible first | assumption | exact Only.refl _ _ | refine Only.drew ?_ | refine Only.alloc ?_ _ | refine Only.setCell ?_ ?_ _ | (refine Only.call ?_ ?_; rotate_left; assumption)) | (refine leB ?_; omega))) ho
      have O1 := own_onlyN (own_keep O0 (show Below _ _ _ by repeat' (first | (with_reducible first | assumption | exact Below.refl _ _ | refine Below.drew ?_ | refine below_alloc ?_ ?_ _ | refine below_set ?_ ?_ _) | (refine leB ?_; omega)))) ho hbw
      have lsW3 := oa1.size
      clear ho
      go_wp2_with fail
      refine (pick_any b (q + 1 + 1) 4 _ hr (by omega) (by omega) (by omega)).mono ?_
      rintro e W4 ⟨k2, rfl, h20, h21, ho, hr⟩
      have oa2 : Only b w W4 := Only.trans (show Only b w _ by repeat' (first | (with_reducible first | assumption | exact Only.refl _ _ | refine Only.drew ?_ | refine Only.alloc ?_ _ | refine Only.setCell ?_ ?_ _ | (refine Only.call ?_ ?_; rotate_left; assumption)) | (refine leB ?_; omega))) ho
      have O2 := own_onlyN (own_keep O1 (show Below _ _ _ by repeat' (first | (with_reducible first | assumption | exact Below.refl _ _ | refine Below.drew ?_ | refine below_alloc ?_ ?_ _ | refine below_set ?_ ?_ _) | (refine leB ?_; omega)))) ho hbw
      have lsW4 := oa2.size
      clear ho
      go_wp2_with fail
      refine (pick_any b (q + 1 + 1 + 1) 6 _ hr (by omega) (by omega) (by omega)).mono ?_
      rintro e W5 ⟨k3, rfl, h30, h31, ho, hr⟩
      have oa3 : Only b w W5 := Only.trans (show Only b w _ by repeat' (first | (with_reducible first | assumption | exact Only.refl _ _ | refine Only.drew ?_ | refine Only.alloc ?_ _ | refine Only.setCell ?_ ?_ _ | (refine Only.call ?_ ?_; rotate_left; assumption)) | (refine leB ?_; omega))) ho
      have O3 := own_onlyN (own_keep O2 (show Below _ _ _ by repeat' (first | (with_reducible first | assumption | exact Below.refl _ _ | refine Below.drew ?_ | refine below_alloc ?_ ?_ _ | refine below_set ?_ ?_ _) | (refine leB ?_; omega)))) ho hbw
      have lsW5 := oa3.size
      clear ho
      go_wp2_with (first | (at_builtin; refine wpList_append_own _ rfl _ _ 23 rfl w.heap.size 90 i0 (.agg #[.int .i64 0, .int .i64 0, .int .i64 0, .int .i64 0]) 4 32 Tryz.underlying23 hi0 hz0 hz1 hz2 rfl (by decide) _ _ _ rfl (own_keep O3 ((Below.refl _ _).alloc (Nat.le_refl _) _)) ⟨W5.heap.size, 0, none⟩ 1 1 [.int .i64 (k0 - 1), .int .i64 (1 + k1), .int .i64 k2, .int .i64 k3] rfl rfl (news4B (show Blk _ (W5.heap.size) [.int .i64 (k0 - 1), .int .i64 (1 + k1), .int .i64 k2, .int .i64 k3] by repeat' (first | (with_reducible first | assumption | refine Blk.drew ?_ | refine Blk.drewN ?_ _ | apply Blk.set | (refine Blk.new ?_; focus (first | rfl | (simp; done) | (simp [drewN_size]; done))) | refine Blk.alloc ?_ _ | refine Blk.other ?_ ?_ _) | exact eqL rfl | (refine neB ?_; omega)))) (by intro u hu; simp at hu; rcases hu with rfl | rfl | rfl | rfl <;> rfl) (by unfold maxLen; omega) (by omega) (by first | omega | (simp; done) | (simp; omega)) ?_) | fail)
      intro v' w' hown' hgrow hnil
      have oa4 : Only b w w' := only_grownN (Only.alloc oa3 _) hgrow (fun g hg => own_rowN O3 hg)
      have hr4 : Rd w' b (q + 1 + 1 + 1 + 1) := hr.keep (((Below.refl _ _).alloc (by have := hr.1; omega) _).grown hgrow (by have := hr.1; simp; omega) (fun g hg => by have := own_rowN O3 hg; omega))
      have HO1 : RowKit.Hid (w'.ownsRow w.heap.size 90 4 v' (ls.length + 1) (layC (ls ++ [((k0 - 1, 1 + k1, k2), k3)]))) := Lib.hid (by rw [layC_append]; exact hown')
      have HI1 : RowKit.Hid (∀ l ∈ ls ++ [((k0 - 1, 1 + k1, k2), k3)], i64L l) := Lib.hid (fun l hl => by
        rcases List.mem_append.1 hl with hl | hl
        · exact HV.out l hl
        · rw [List.mem_singleton.1 hl]
          refine ⟨?_, ?_, ?_, ?_⟩ <;> unfold i64B <;> dsimp only <;> omega)
      have HNI := Lib.hid hnil
      have ls4 := oa4.size
      clear hnil hgrow hown' O0 O1 O2 O3 oa0 oa1 oa2 oa3 oa hr HO HV
      rcases HO1.out.2 with ⟨hz, -⟩ | ⟨g, cap', cur, hv, hB, hg, h1, h2, h3, h4⟩
      · exact absurd hz (fun h => by first | exact HNI.out h | (have := (HNI.out.1 h).2; omega))
      · clear h2 h3 h4 hg HNI
        subst hv
        go_wp2_with fail
        refine (pick_any b (q + 1 + 1 + 1 + 1) 3 _ hr4 (by omega) (by omega) (by omega)).mono ?_
        rintro e W6 ⟨k4, rfl, h40, h41, ho, hr5⟩
        have oa5 : Only b w W6 := Only.trans oa4 ho
        have HO2 : RowKit.Hid (W6.ownsRow w.heap.size 90 4 (.slice (some ⟨g, 0, none⟩) (ls.length + 1) cap') (ls.length + 1) (layC (ls ++ [((k0 - 1, 1 + k1, k2), k3)]))) := Lib.hid (own_onlyN HO1.out ho hbw)
        have ls6 := oa5.size
        clear ho hr4 HO1 oa4
        have hl8 : (ls.length : Int) + 1 < 8 := by omega
        by_cases hz4 : k4 = 0
        ·
          subst hz4
          obtain ⟨hgl, c0, c1, c2, c3, hcap, hgB⟩ := own_last HO2.out rfl
          have hN0 : (0 : Int) ≤ (ls.length : Int) := by omega
          have hNw : IntKind.i64.wrap (ls.length : Int) = (ls.length : Int) := wrapS (by omega)
          go_wp2_with (first | (at_builtin; refine wpList_append_own _ rfl _ _ 23 rfl w.heap.size 90 i0 (.agg #[.int .i64 0, .int .i64 0, .int .i64 0, .int .i64 0]) 4 32 Tryz.underlying23 hi0 hz0 hz1 hz2 rfl (by decide) _ _ _ rfl (own_keep HO2.out ((Below.refl _ _).alloc (Nat.le_refl _) _)) ⟨W6.heap.size, 0, none⟩ 1 1 [.int .i64 (k0 - 1), .int .i64 (1 + k1), .int .i64 k2, .int .i64 k3] rfl rfl (news4B (show Blk _ (W6.heap.size) [.int .i64 (k0 - 1), .int .i64 (1 + k1), .int .i64 k2, .int .i64 k3] by repeat' (first | (with_reducible first | assumption | refine Blk.drew ?_ | refine Blk.drewN ?_ _ | apply Blk.set | (refine Blk.new ?_; focus (first | rfl | (simp; done) | (simp [drewN_size]; done))) | refine Blk.alloc ?_ _ | refine Blk.other ?_ ?_ _) | exact eqL rfl | (refine neB ?_; omega)))) (by intro u hu; simp at hu; rcases hu with rfl | rfl | rfl | rfl <;> rfl) (by unfold maxLen; omega) (by omega) (by first | omega | (simp; done) | (simp; omega)) ?_) | fail)
          intro v' w' hown' hgrow hnil
          have oa7 : Only b w w' := only_grownN (Only.alloc oa5 _) hgrow (fun g hg => own_rowN HO2.out hg)
          have hr7 : Rd w' b (q + 1 + 1 + 1 + 1 + 1) := hr5.keep (((Below.refl _ _).alloc (by have := hr5.1; omega) _).grown hgrow (by have := hr5.1; simp; omega) (fun g hg => by have := own_rowN HO2.out hg; omega))
          have HNI := Lib.hid hnil
          clear hgrow hnil
          go_wp2_with fail
          go_roundw
          case rel =>
            refine ⟨k + 1, q + 1 + 1 + 1 + 1 + 1, ls ++ [((k0 - 1, 1 + k1, k2), k3)] ++ [((k0 - 1, 1 + k1, k2), k3)], by go_num, hlt, by simp only [List.length_append, List.length_cons, List.length_nil]; omega, (fun h => by first | exact HNI.out h | (have := (HNI.out.1 h).2; omega)), ?_, ?_, oa7, by omega, hr7⟩
            · rw [List.length_append, List.length_append, layC_append]
              exact hown'
            · intro l hl
              rcases List.mem_append.1 hl with hl | hl
              · exact HI1.out l hl
              · exact HI1.out l (List.mem_append.2 (.inr hl))
          case measure => (simp [intOf]; try omega)
        ·
          have hz5 : (k4 == 0) = false := by simp [hz4]
          go_wp2_with fail
          go_roundw
          case rel =>
            refine ⟨k + 1, q + 1 + 1 + 1 + 1 + 1, ls ++ [((k0 - 1, 1 + k1, k2), k3)], by go_num, hlt, by simp only [List.length_append, List.length_cons, List.length_nil]; omega, (fun h => by cases h), ?_, HI1.out, oa5, by omega, hr5⟩
            rw [List.length_append]
            exact HO2.out
          case measure => (simp [intOf]; try omega)
    ·
      have hkN : k = N := by omega
      have hk0 : ¬ (k : Int) < (N : Int) := by omega
      have hlen7 : ls.length ≤ 6 := by omega
      go_wp2_with fail
      refine (pick_any b q 24 _ hr (by omega) (by omega) (by omega)).mono ?_
      rintro e W2 ⟨t, rfl, ht0, ht1, ho, hr2⟩
      have oa2 : Only b w W2 := Only.trans oa ho
      have O2 := own_onlyN HO.out ho hbw
      have ls2 := oa2.size
      clear ho hr oa
      by_cases h0 : t = 0
      ·
        subst h0
        go_wp2_with (first | (at_builtin; refine wpList_append_own _ rfl _ _ 23 rfl w.heap.size 90 i0 (.agg #[.int .i64 0, .int .i64 0, .int .i64 0, .int .i64 0]) 4 32 Tryz.underlying23 hi0 hz0 hz1 hz2 rfl (by decide) _ _ _ rfl (own_keep O2 ((Below.refl _ _).alloc (Nat.le_refl _) _)) ⟨W2.heap.size, 0, none⟩ 1 1 [.int .i64 1, .int .i64 0, .int .i64 1, .int .i64 51] rfl rfl (news4B (show Blk _ (W2.heap.size) [.int .i64 1, .int .i64 0, .int .i64 1, .int .i64 51] by repeat' (first | (with_reducible first | assumption | refine Blk.drew ?_ | refine Blk.drewN ?_ _ | apply Blk.set | (refine Blk.new ?_; focus (first | rfl | (simp; done) | (simp [drewN_size]; done))) | refine Blk.alloc ?_ _ | refine Blk.other ?_ ?_ _) | exact eqL rfl | (refine neB ?_; omega)))) (by intro u hu; simp at hu; rcases hu with rfl | rfl | rfl | rfl <;> rfl) (by unfold maxLen; omega) (by omega) (by first | omega | (simp; done) | (simp; omega)) ?_) | fail)
        intro v' w' hown' hgrow hnil
        have oa7 : Only b w w' := only_grownN (Only.alloc oa2 _) hgrow (fun g hg => own_rowN O2 hg)
        have hr7 : Rd w' b (q + 1) := hr2.keep (((Below.refl _ _).alloc (by have := hr2.1; omega) _).grown hgrow (by have := hr2.1; simp; omega) (fun g hg => by have := own_rowN O2 hg; omega))
        have HNI := Lib.hid hnil
        clear hgrow hnil
        go_wp2_with fail
        go_ret
        refine ⟨_, ls ++ [((1, 0, 1), 51)], q + 1, rfl, (fun h => by first | exact HNI.out h | (have := (HNI.out.1 h).2; omega)), ?_, ?_, by simp only [List.length_append, List.length_cons, List.length_nil]; omega, oa7, by omega, hr7⟩
        · rw [List.length_append, layC_append]
          exact hown'
        · intro l hl
          rcases List.mem_append.1 hl with hl | hl
          · exact HV.out l hl
          · rw [List.mem_singleton.1 hl]
            show i64B 1 ∧ i64B 0 ∧ i64B 1 ∧ i64B 51
            unfold i64B
            omega
      ·
        have h0b : (t == 0) = false := by simp [h0]
        go_wp2_with fail
        go_ret
        exact ⟨_, ls, q + 1, rfl, HNN.out, O2, HV.out, by omega, oa2, by omega, hr2⟩

set_option linter.unusedSimpArgs false
set_option linter.unusedSimpArgs false
theorem own_cap {w : World} {B sz n k cap : Nat} {e : TypeId} {v : Value} {a : Option Addr} {xs : List Value} (h : w.ownsRow B e sz v n xs) (hv : v = .slice a k cap) : n ≤ cap := by
  rcases h.2 with ⟨h0, hn⟩ | ⟨g, cap', cur, h0, hB, hg, h1, -⟩
  · omega
  · rw [hv] at h0
    cases h0
    exact h1
theorem Wr.lys2 {g n cap : Nat} {w : World} {a : Option Addr} {ls : List L4} (h : Wr g w (.slice a n cap) ls) : Lys w a ls := by
  obtain ⟨a', cap', e, h⟩ := h.lys
  injection e with e1 e2 e3
  subst e1
  exact h
/-- A drawn list of sections and a vector. -/
def DrewLJ (w : World) (e : Ending) (w' : World) : Prop := ∃ (a : Option Addr) (cap : Nat) (ls : List L4) (v : F3 × F3), e = .returned (.tuple #[.slice a ls.length cap, .agg #[.int .i64 v.1.1, .int .i64 v.1.2.1, .int .i64 v.1.2.2, .int .i64 v.2.1, .int .i64 v.2.2.1, .int .i64 v.2.2.2]]) ∧ Lys w' a ls ∧ ls.length ≤ 7 ∧ i64J v ∧ Below w.heap.size w w'
set_option linter.unusedSimpArgs false
end Go.Proofs.YtkdkeacfifjjoabGreatDoor
