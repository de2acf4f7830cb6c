/-
  The model: fibres: valid.
-/
import Derived.Test.YtkdkeacfifjjoabGreatDoorBFib
import Derived.Test.YtkdkeacfifjjoabGreatDoorSpecM5
import Derived.Test.YtkdkeacfifjjoabGreatDoorBSpecF
namespace Go.Proofs.YtkdkeacfifjjoabGreatDoor
open Go.ChangeShapes Go.WideShapes Go.ChangeAt Go.RowKit
set_option linter.unusedVariables false

set_option linter.unusedSimpArgs false
/-- A direction told by the model. -/
theorem specDir_told (p q : Int) : ∃ c1 c2 c3 s1 s2 s3 : Int, ∀ w, Calls Tryz.prog 44 #[.int .i64 p, .int .i64 q] w fun e w' => e = .returned (.tuple #[.agg #[.int .i64 c1, .int .i64 c2, .int .i64 c3], .agg #[.int .i64 s1, .int .i64 s2, .int .i64 s3], .bool (dirB p q)]) ∧ Below w.heap.size w w' := by
  cases h : dirB p q with
  | true =>
    obtain ⟨⟨c1, c2, c3⟩, hc⟩ : ∃ o, dirC p q = o := ⟨_, rfl⟩
    obtain ⟨⟨s1, s2, s3⟩, hs⟩ : ∃ o, dirS p q = o := ⟨_, rfl⟩
    exact ⟨c1, c2, c3, s1, s2, s3, fun w => specDir_yes p q c1 c2 c3 s1 s2 s3 h hc hs w⟩
  | false => exact ⟨0, 0, 0, 0, 0, 0, fun w => specDir_no p q h w⟩
set_option maxRecDepth 100000 in
set_option maxHeartbeats 8000000 in
theorem specFbValid_any (a : Option Addr) (ls : List L4) (cap : Nat) (w : World) (h : Lys w a ls) (hn : ls.length ≤ 1048576) : Calls Tryz.prog 65 #[.slice a ls.length cap] w fun e w' => e = .returned (.bool (okFb ls)) ∧ Below w.heap.size w w' := by
  have H := Lib.hid h
  clear h
  go_enter Tryz.func65, Tryz.ntmps65
  go_wp2_with fail
  go_loopw [3] (fun i wr => ∃ k : Nat, i = .int .i64 k ∧ k ≤ ls.length ∧ Acc w wr ∧ (ls.take k).all okS = true) (fun i _ => ls.length - (intOf i).toNat)
  case atStart => exact ⟨0, rfl, Nat.zero_le _, Acc.refl _, rfl⟩
  case round =>
    obtain ⟨k, rfl, hk, ka, hall⟩ := hrel
    have HA := Lib.hid hall
    clear hall
    by_cases hlt : k < ls.length
    ·
      obtain ⟨c, off, rfl, hc, hi, e0, e1, e2, e3⟩ := H.out.at hlt
      have HT : RowKit.Hid (ls.take (k + 1) = ls.take k ++ [ls[k]]) := Lib.hid (by rw [List.take_add_one, List.getElem?_eq_getElem hlt]; rfl)
      have HD : RowKit.Hid (ls.drop k = ls[k] :: ls.drop (k + 1)) := Lib.hid (List.drop_eq_getElem_cons hlt)
      have HM : RowKit.Hid (ls[k] ∈ ls) := Lib.hid (List.getElem_mem hlt)
      generalize ls[k] = x at hi e0 e1 e2 e3 HT HD HM
      obtain ⟨⟨n1, n2, n3⟩, q⟩ := x
      dsimp only at e0 e1 e2 e3
      have HC := Lib.hid fun (W : World) (ka : Acc w W) => And.intro ((ka.cell (p := ⟨c, off + k * 4, none⟩) hc).trans e0) (And.intro ((ka.cell (p := ⟨c, off + k * 4 + 1, none⟩) hc).trans e1) (And.intro ((ka.cell (p := ⟨c, off + k * 4 + 2, none⟩) hc).trans e2) ((ka.cell (p := ⟨c, off + k * 4 + 3, none⟩) hc).trans e3)))
      have hk1 : k + 1 ≤ ls.length := hlt
      have HI := Lib.hid hi
      clear hi e0 e1 e2 e3 hc
      obtain ⟨e0, e1, e2, e3⟩ := HC.out _ ka
      obtain ⟨c1, c2, c3, s1, s2, s3, hd⟩ := specDir_told n1 n2
      obtain ⟨v, hv⟩ : ∃ o, dirB n1 n2 = o := ⟨_, rfl⟩
      rw [hv] at hd
      have V := Lib.hid hv
      have TD := Lib.hid hd
      clear hv hd
      obtain ⟨u, hu⟩ : ∃ o, inB n3 0 3 = o := ⟨_, rfl⟩
      have U := Lib.hid hu
      clear hu
      obtain ⟨t, ht⟩ : ∃ o, inB q 0 50 = o := ⟨_, rfl⟩
      have T := Lib.hid ht
      clear ht
      have hk0 : (0 : Int) ≤ (k : Int) := by omega
      have hk2 : (k : Int) < (ls.length : Int) := by omega
      have kas : w.heap.size ≤ wr.heap.size := ka.size
      go_upto_region 4 with fail
      go_cut [6] (fun s6 wx => s6 = .bool v ∧ Acc w wx)
      case first =>
        go_region_held3 (fun w' => w'.cell? ⟨c, off + k * 4, none⟩ = some (.int .i64 n1) ∧ w'.cell? ⟨c, off + k * 4 + 1, none⟩ = some (.int .i64 n2) ∧ w'.cell? ⟨c, off + k * 4 + 2, none⟩ = some (.int .i64 n3) ∧ w'.cell? ⟨c, off + k * 4 + 3, none⟩ = some (.int .i64 q))
          (((try dsimp only); (exact HC.out _ (show Acc w _ by repeat' (first | (with_reducible first | assumption | exact Acc.refl _ | refine Acc.drew ?_ | refine Acc.drewN ?_ _ | refine Acc.alloc ?_ _ | refine Acc.setCell ?_ ?_ _) | (refine leB ?_; omega))))))
          (first
            | (go_at_call 44; refine (TD.out _).mono ?_; rintro e W9 ⟨rfl, hb⟩; (try (refine with_fact (A := Blk W9 (wr.heap.size) [.int .i64 0, .int .i64 0, .int .i64 0]) ?_ ?_; (focus (refine Blk.keep hb ?_; (repeat' (first | (with_reducible first | assumption | refine Blk.drew ?_ | refine Blk.drewN ?_ _ | apply Blk.set | (refine Blk.new ?_; focus (first | rfl | (simp; done))) | refine Blk.alloc ?_ _ | refine Blk.other ?_ ?_ _) | exact eqL rfl | (refine neB ?_; omega))); done)); intro Bz0; have cz0 := Bz0.cell; have fz0 := Bz0.free; have lz0 := Bz0.lt)); (try (refine with_fact (A := Blk W9 (wr.heap.size + 1) [.int .i64 0, .int .i64 0, .int .i64 0]) ?_ ?_; (focus (refine Blk.keep hb ?_; (repeat' (first | (with_reducible first | assumption | refine Blk.drew ?_ | refine Blk.drewN ?_ _ | apply Blk.set | (refine Blk.new ?_; focus (first | rfl | (simp; done))) | refine Blk.alloc ?_ _ | refine Blk.other ?_ ?_ _) | exact eqL rfl | (refine neB ?_; omega))); done)); intro Bz1; have cz1 := Bz1.cell; have fz1 := Bz1.free; have lz1 := Bz1.lt)); have kaW9 : Acc w W9 := (by refine Acc.call ?_ hb; (repeat' (first | (with_reducible first | assumption | exact Acc.refl _ | refine Acc.drew ?_ | refine Acc.drewN ?_ _ | refine Acc.alloc ?_ _ | refine Acc.setCell ?_ ?_ _) | (refine leB ?_; omega)))); clear hb))
        all_goals
          go_wp2_with fail
        all_goals
          go_meet
          refine ⟨rfl, ?_⟩
          and_intros
          all_goals
            first
              | ((repeat' (first | (with_reducible first | assumption | refine Blk.drew ?_ | refine Blk.drewN ?_ _ | apply Blk.set | (refine Blk.new ?_; focus (first | rfl | (simp; done))) | refine Blk.alloc ?_ _ | refine Blk.other ?_ ?_ _) | exact eqL rfl | (refine neB ?_; omega))); done)
              | ((show Acc w _); (repeat' (first | (with_reducible first | assumption | exact Acc.refl _ | refine Acc.drew ?_ | refine Acc.drewN ?_ _ | refine Acc.alloc ?_ _ | refine Acc.setCell ?_ ?_ _) | (refine leB ?_; omega))); done)
      case rest =>
        obtain ⟨rfl, kawc⟩ := hcut
        cases v with
        | false =>
          go_wp2_with fail
          go_ret
          refine ⟨congrArg (fun b => Ending.returned (.bool b)) (allS_no HT.out (okS_no1 V.out)).symm, ?_⟩
          show Acc w _
          (repeat' (first | (with_reducible first | assumption | exact Acc.refl _ | refine Acc.drew ?_ | refine Acc.drewN ?_ _ | refine Acc.alloc ?_ _ | refine Acc.setCell ?_ ?_ _) | (refine leB ?_; omega)))
        | true =>
          obtain ⟨e0, e1, e2, e3⟩ := HC.out _ kawc
          go_wp2_with fail
          refine (specIn_of n3 0 3 u U.out _).mono ?_
          rintro e wq ⟨rfl, rfl⟩
          cases u with
          | false =>
            go_wp2_with fail
            go_ret
            refine ⟨congrArg (fun b => Ending.returned (.bool b)) (allS_no HT.out (okS_no2 U.out)).symm, ?_⟩
            show Acc w _
            (repeat' (first | (with_reducible first | assumption | exact Acc.refl _ | refine Acc.drew ?_ | refine Acc.drewN ?_ _ | refine Acc.alloc ?_ _ | refine Acc.setCell ?_ ?_ _) | (refine leB ?_; omega)))
          | true =>
            go_wp2_with fail
            refine (specIn_of q 0 50 t T.out _).mono ?_
            rintro e wq ⟨rfl, rfl⟩
            cases t with
            | false =>
              go_wp2_with fail
              go_ret
              refine ⟨congrArg (fun b => Ending.returned (.bool b)) (allS_no HT.out (okS_no3 T.out)).symm, ?_⟩
              show Acc w _
              (repeat' (first | (with_reducible first | assumption | exact Acc.refl _ | refine Acc.drew ?_ | refine Acc.drewN ?_ _ | refine Acc.alloc ?_ _ | refine Acc.setCell ?_ ?_ _) | (refine leB ?_; omega)))
            | true =>
              go_wp2_with fail
              go_roundw
              case rel => exact ⟨k + 1, by go_num, hk1, ‹Acc w _›, allS_yes HT.out (okS_mk V.out U.out T.out) HA.out⟩
              case measure => simp [intOf]; omega
    · obtain rfl : k = ls.length := by omega
      have HL : RowKit.Hid (decide ((ls.length : Int) ≤ 8) = okFb ls) := Lib.hid (by
        unfold okFb
        rw [show ls.all okS = true by have := HA.out; rwa [List.take_length] at this, Bool.true_and]
        exact decide_eq_decide.2 (by omega))
      go_wp2_with fail
      go_ret
      refine ⟨congrArg (fun b => Ending.returned (.bool b)) HL.out, ?_⟩
      show Acc w _
      (repeat' (first | (with_reducible first | assumption | exact Acc.refl _ | refine Acc.drew ?_ | refine Acc.drewN ?_ _ | refine Acc.alloc ?_ _ | refine Acc.setCell ?_ ?_ _) | (refine leB ?_; omega)))
end Go.Proofs.YtkdkeacfifjjoabGreatDoor
