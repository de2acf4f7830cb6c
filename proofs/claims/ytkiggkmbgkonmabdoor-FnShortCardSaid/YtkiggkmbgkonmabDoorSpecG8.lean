/-
  The model: FibreShort.
-/
import Derived.Test.YtkiggkmbgkonmabDoorSpecG7
import Derived.Test.YtkiggkmbgkonmabDoorSecShort
import Derived.Test.YtkiggkmbgkonmabDoorSpecG4
import Derived.Test.YtkiggkmbgkonmabDoorImplG13
import Derived.Deep.RegionHeld3
import Derived.Deep.RegionWith
import Derived.Deep.QuietTactic
import Derived.BigQuiet
namespace Go.Proofs.YtkiggkmbgkonmabDoor
open Go.ChangeShapes Go.WideShapes Go.ChangeAt Go.RowKit
set_option linter.unusedVariables false

set_option linter.unusedSimpArgs false
theorem wrapS {x : Int} (h : 0 ≤ x ∧ x ≤ 1000) : IntKind.i64.wrap x = x := by
  have e : x % 2 ^ 64 = x := Int.emod_eq_of_lt (by omega) (by omega)
  have hc : ¬ (IntKind.i64.signed = true ∧ (2 : Int) ^ (IntKind.i64.bits - 1) ≤ x) := by
    intro hc
    have h2 := hc.2
    simp only [IntKind.bits] at h2
    omega
  unfold IntKind.wrap
  simp only [IntKind.bits, IntKind.signed, e] at hc ⊢
  first
    | (rw [if_neg hc]; done)
    | (rw [if_neg]; simp; done)
    | (rw [if_neg]; simp; omega)
    | (split <;> first | rfl | omega | (simp at *; omega))
theorem drewN_size (w : World) (n : Nat) : (w.drewN n).heap.size = w.heap.size := rfl
theorem news4B {w : World} {b : Nat} {x0 x1 x2 x3 : Value} (h : Blk w b [x0, x1, x2, x3]) : ∀ j u, [x0, x1, x2, x3][j]? = some u → w.cell? ((⟨b, 0, none⟩ : Addr).add j) = some u :=
  news4 (h.cell 0) (h.cell 1) (h.cell 2) (h.cell 3)
/-- The row without its last section. -/
theorem own_cut {w : World} {B g N cap : Nat} {r : L4} {pre : List L4} (h : w.ownsRow B 26 4 (.slice (some ⟨g, 0, none⟩) (N + 1) cap) (N + 1) (layC (pre ++ [r]))) (hN : pre.length = N) : w.ownsRow B 26 4 (.slice (some ⟨g, 0, none⟩) N cap) N (layC pre) := by
  refine ⟨by rw [layC_len, hN], ?_⟩
  rcases h.2 with ⟨h0, _⟩ | ⟨g', cap', cur, hv, hB, hg, h1, h2, h3, h4⟩
  · cases h0
  · cases hv
    refine .inr ⟨g, cap, cur, rfl, hB, hg, by omega, h2, h3, ?_⟩
    have e := congrArg (List.take (N * 4)) h4
    rw [List.take_take, Nat.min_eq_left (by omega)] at e
    rw [e, layC_append, List.take_append_of_le_length (by rw [layC_len, hN]; exact Nat.le_refl _), List.take_of_length_le (by rw [layC_len, hN]; exact Nat.le_refl _)]
/-- The last section's cells. -/
theorem own_last {w : World} {B g N cap : Nat} {m1 m2 m3 u : Int} {pre : List L4} (h : w.ownsRow B 26 4 (.slice (some ⟨g, 0, none⟩) (N + 1) cap) (N + 1) (layC (pre ++ [((m1, m2, m3), u)]))) (hN : pre.length = N) :
    g < w.heap.size ∧ w.cell? ⟨g, N * 4, none⟩ = some (.int .i64 m1) ∧ w.cell? ⟨g, N * 4 + 1, none⟩ = some (.int .i64 m2) ∧ w.cell? ⟨g, N * 4 + 2, none⟩ = some (.int .i64 m3) ∧ w.cell? ⟨g, N * 4 + 3, none⟩ = some (.int .i64 u) ∧ N + 1 ≤ cap ∧ B ≤ g := by
  have hcell := h.cells (g := g) rfl
  have hlt := h.lt g rfl
  have hcap : N + 1 ≤ cap := by
    rcases h.2 with ⟨h0, _⟩ | ⟨g', cap', cur, hv, hB, hg, h1, h2, h3, h4⟩
    · cases h0
    · cases hv
      exact h1
  obtain ⟨k0, k1, k2, k3⟩ := layC_at (ls := pre ++ [((m1, m2, m3), u)]) (i := N) (l := ((m1, m2, m3), u)) (by rw [List.getElem?_append_right (by omega), hN, Nat.sub_self]; rfl)
  have add0 : ∀ k, (⟨g, 0, none⟩ : Addr).add k = ⟨g, k, none⟩ := fun k => by
    unfold Addr.add
    split
    · rename_i e; rw [e]
    · rw [Nat.zero_add]
  have c0 := hcell _ _ k0
  have c1 := hcell _ _ k1
  have c2 := hcell _ _ k2
  have c3 := hcell _ _ k3
  rw [add0] at c0 c1 c2 c3
  exact ⟨hlt.2, c0, c1, c2, c3, hcap, hlt.1⟩
set_option maxRecDepth 100000 in
set_option maxHeartbeats 64000000 in
theorem specFbShort_any (a : Option Addr) (ls : List L4) (cap : Nat) (w : World) (h : Lys w a ls) (hn : ls.length ≤ 1048576) : Calls Tryd.prog 18 #[.slice a ls.length cap] w (GaveS (if okFb ls = true then (shoE ls).reverse else []) (okFb ls) w) := by
  have H := Lib.hid h
  clear h
  obtain ⟨v, hv⟩ : ∃ v, okFb ls = v := ⟨_, rfl⟩
  rw [hv]
  have V := Lib.hid hv
  clear hv
  obtain ⟨i0, hi0, hz0, hz1, hz2⟩ := info_parts info_section
  cases v with
  | false =>
    show Calls _ _ _ _ (GaveS [] false w)
    go_enter Tryd.func18, Tryd.ntmps18
    go_wp2_with fail
    refine (valid_at V.out (specFbValid_any a ls cap _ (H.out.keep (show Acc w _ by repeat' (first | (with_reducible first | assumption | exact Acc.refl _ | refine Acc.drew ?_ | refine Acc.drewN ?_ _ | refine Acc.alloc ?_ _ | refine Acc.setCell ?_ ?_ _) | (refine leB ?_; omega)))) hn)).mono ?_
    rintro e W1 ⟨rfl, hb⟩
    have hown : W1.ownsRow w.heap.size 26 4 (.slice (some ⟨w.heap.size, 0, none⟩) 0 0) 0 [] := own_keep (World.ownsRow_made w #[] 0 (Nat.le_refl _) (by decide) rfl) hb
    have kaW1 : Acc w W1 := by
      refine Acc.call ?_ hb
      (repeat' (first | (with_reducible first | assumption | exact Acc.refl _ | refine Acc.drew ?_ | refine Acc.drewN ?_ _ | refine Acc.alloc ?_ _ | refine Acc.setCell ?_ ?_ _) | (refine leB ?_; omega)))
    clear hb
    have HO := Lib.hid hown
    clear hown hi0 hz0 hz1 hz2
    go_wp2_with fail
    refine bodyPost_ret (by conv => lhs; simp [results, Tryd.results18, go_sem, *]) rfl ?_
    obtain ⟨g, hg1, hg2, hg3⟩ := Wr.of_own' (ls := []) (fun l h => by cases h) (fun h => by cases h) HO.out
    exact ⟨_, g, rfl, hg1, hg2, hg3, kaW1⟩
  | true =>
    show Calls _ _ _ _ (GaveS (shoE ls).reverse true w)
    go_enter Tryd.func18, Tryd.ntmps18
    go_wp2_with fail
    refine (valid_at V.out (specFbValid_any a ls cap _ (H.out.keep (show Acc w _ by repeat' (first | (with_reducible first | assumption | exact Acc.refl _ | refine Acc.drew ?_ | refine Acc.drewN ?_ _ | refine Acc.alloc ?_ _ | refine Acc.setCell ?_ ?_ _) | (refine leB ?_; omega)))) hn)).mono ?_
    rintro e W1 ⟨rfl, hb⟩
    have hown : W1.ownsRow w.heap.size 26 4 (.slice (some ⟨w.heap.size, 0, none⟩) 0 0) 0 [] := own_keep (World.ownsRow_made w #[] 0 (Nat.le_refl _) (by decide) rfl) hb
    have kaW1 : Acc w W1 := by
      refine Acc.call ?_ hb
      (repeat' (first | (with_reducible first | assumption | exact Acc.refl _ | refine Acc.drew ?_ | refine Acc.drewN ?_ _ | refine Acc.alloc ?_ _ | refine Acc.setCell ?_ ?_ _) | (refine leB ?_; omega)))
    clear hb
    have HALL : RowKit.Hid (∀ k, ∀ s ∈ ls.take k, okS s = true) := Lib.hid fun k s hs => okFb_mem V.out (List.mem_of_mem_take hs)
    go_wp2_with fail
    go_loopw [5, 4] (fun i v wr => ∃ k : Nat, i = .int .i64 k ∧ k ≤ ls.length ∧ Acc w wr ∧ v ≠ .slice none 0 0 ∧ wr.ownsRow w.heap.size 26 4 v (shoE (ls.take k)).length (layC (shoE (ls.take k)).reverse)) (fun i _ _ => ls.length - (intOf i).toNat)
    case atStart => exact ⟨0, rfl, Nat.zero_le _, kaW1, (fun h => by cases h), hown⟩
    case round =>
      clear hown
      obtain ⟨k, rfl, hk, ka, hnn, hown⟩ := hrel
      have HNN := Lib.hid hnn
      have HO := Lib.hid hown
      clear hnn hown
      by_cases hlt : k < ls.length
      ·
        obtain ⟨c, off, rfl, hc, hi, e0, e1, e2, e3⟩ := H.out.at hlt
        have HT : RowKit.Hid (ls.take (k + 1) = ls.take k ++ [ls[k]]) := Lib.hid (by rw [List.take_add_one, List.getElem?_eq_getElem hlt]; rfl)
        have HD : RowKit.Hid (ls.drop k = ls[k] :: ls.drop (k + 1)) := Lib.hid (List.drop_eq_getElem_cons hlt)
        have HM : RowKit.Hid (ls[k] ∈ ls) := Lib.hid (List.getElem_mem hlt)
        generalize ls[k] = x at hi e0 e1 e2 e3 HT HD HM
        obtain ⟨⟨n1, n2, n3⟩, q⟩ := x
        dsimp only at e0 e1 e2 e3
        have HC := Lib.hid fun (W : World) (ka : Acc w W) => And.intro ((ka.cell (p := ⟨c, off + k * 4, none⟩) hc).trans e0) (And.intro ((ka.cell (p := ⟨c, off + k * 4 + 1, none⟩) hc).trans e1) (And.intro ((ka.cell (p := ⟨c, off + k * 4 + 2, none⟩) hc).trans e2) ((ka.cell (p := ⟨c, off + k * 4 + 3, none⟩) hc).trans e3)))
        have hk1 : k + 1 ≤ ls.length := hlt
        have HI := Lib.hid hi
        clear hi e0 e1 e2 e3 hc
        obtain ⟨e0, e1, e2, e3⟩ := HC.out _ ka
        have HS : RowKit.Hid (shoE (ls.take (k + 1)) = putE (shoE (ls.take k)) ((n1, n2, n3), q)) := Lib.hid (by rw [HT.out, shoE_snoc])
        obtain ⟨-, hph, q0, q1⟩ := okS_out (okFb_mem V.out HM.out)
        have h8 := (okFb_all V.out).2
        obtain ⟨hAok, hAl⟩ := shoE_ok (HALL.out k)
        rw [List.length_take, Nat.min_eq_left hk] at hAl
        obtain ⟨acc, hacc⟩ : ∃ acc, shoE (ls.take k) = acc := ⟨_, rfl⟩
        rw [hacc] at HO HS hAok hAl
        clear hacc
        have HA := Lib.hid hAok
        clear hAok
        have kas : w.heap.size ≤ wr.heap.size := ka.size
        have hk0 : (0 : Int) ≤ (k : Int) := by omega
        have hk2 : (k : Int) < (ls.length : Int) := by omega
        have HNd := Lib.hid (pha_in hph)
        clear hph
        obtain ⟨v', hv', HO', HNN'⟩ : ∃ v', v' = _ ∧ RowKit.Hid (wr.ownsRow w.heap.size 26 4 v' acc.length (layC acc.reverse)) ∧ RowKit.Hid (v' ≠ .slice none 0 0) := ⟨_, rfl, HO, HNN⟩
        rw [← hv']
        clear hv' HO HNN
        rcases HO'.out.2 with ⟨h0, -⟩ | ⟨g, cap', cur, hv, hB, hg, h1, h2, h3, h4⟩
        · exact absurd h0 HNN'.out
        · clear h2 h3 h4 hg h1
          subst hv
          clear HNN'
          cases acc with
          | nil =>
            have kaw : Acc wr wr := Acc.refl _
            go_upto_region 9 with fail
            first
              | go_quiet (fail)
              | go_region_with (fail)
            all_goals
              rcases HNd.out with rfl | rfl | rfl | rfl
              · skip
                have TG := Lib.hid fun w => specGcd_of 4 0 4 (by decide) (by omega) (by omega) w
                go_upto_region 12 with fail
                go_cut [] (fun wx => Blk wx (wr.heap.size) [.int .i64 n1, .int .i64 n2, .int .i64 0, .int .i64 0] ∧ Acc wr wx)
                case first =>
                  go_region_with (go_at_call 26; refine (TG.out _).mono ?_; rintro e W9 ⟨rfl, rfl⟩)
                  all_goals
                    go_wp2_with fail
                  all_goals
                    go_meet
                    and_intros
                    all_goals
                      first
                        | (refine Blk.set (vs := [.int .i64 n1, .int .i64 n2, .int .i64 0, .int .i64 q]) ?_ rfl; (repeat' (first | (with_reducible first | assumption | refine Blk.drew ?_ | refine Blk.drewN ?_ _ | apply Blk.set | (refine Blk.new ?_; focus (first | rfl | (simp; done))) | refine Blk.alloc ?_ _ | refine Blk.other ?_ ?_ _) | exact eqL rfl | (refine neB ?_; omega))); done)
                        | ((repeat' (first | (with_reducible first | assumption | refine Blk.drew ?_ | refine Blk.drewN ?_ _ | apply Blk.set | (refine Blk.new ?_; focus (first | rfl | (simp; done))) | refine Blk.alloc ?_ _ | refine Blk.other ?_ ?_ _) | exact eqL rfl | (refine neB ?_; omega))); done)
                        | ((show Acc wr _); (repeat' (first | (with_reducible first | assumption | exact Acc.refl _ | refine Acc.drew ?_ | refine Acc.drewN ?_ _ | refine Acc.alloc ?_ _ | refine Acc.setCell ?_ ?_ _) | (refine leB ?_; omega))); done)
                case rest =>
                  obtain ⟨Bs, kawc⟩ := hcut
                  have cs := Bs.cell
                  have fs := Bs.free
                  have ls_wc := Bs.lt
                  have kawd : Acc w wc := Acc.call ka kawc
                  have ksz : w.heap.size ≤ wc.heap.size := kawd.size
                  go_wp2_with fail
                  go_roundw
                  case rel =>
                    refine ⟨k + 1, by go_num, hk1, (show Acc w _ by repeat' (first | (with_reducible first | assumption | exact Acc.refl _ | refine Acc.drew ?_ | refine Acc.drewN ?_ _ | refine Acc.alloc ?_ _ | refine Acc.setCell ?_ ?_ _) | (refine leB ?_; omega))), (fun h => by cases h), ?_⟩
                    rw [HS.out, putE_nil0 (s := ((n1, n2, 0), q)) (show q % 1 = 0 by omega)]
                    exact own_keep HO'.out (show Acc wr _ by repeat' (first | (with_reducible first | assumption | exact Acc.refl _ | refine Acc.drew ?_ | refine Acc.drewN ?_ _ | refine Acc.alloc ?_ _ | refine Acc.setCell ?_ ?_ _) | (refine leB ?_; omega)))
                  case measure => simp [intOf]; omega
              · skip
                have TG := Lib.hid fun w => specGcd_of 4 1 1 (by decide) (by omega) (by omega) w
                go_upto_region 12 with fail
                go_cut [] (fun wx => Blk wx (wr.heap.size) [.int .i64 n1, .int .i64 n2, .int .i64 1, .int .i64 ((q) % 4)] ∧ Acc wr wx)
                case first =>
                  go_region_with (go_at_call 26; refine (TG.out _).mono ?_; rintro e W9 ⟨rfl, rfl⟩)
                  all_goals
                    go_wp2_with fail
                  all_goals
                    go_meet
                    and_intros
                    all_goals
                      first
                        | (refine Blk.set (vs := [.int .i64 n1, .int .i64 n2, .int .i64 1, .int .i64 q]) ?_ rfl; (repeat' (first | (with_reducible first | assumption | refine Blk.drew ?_ | refine Blk.drewN ?_ _ | apply Blk.set | (refine Blk.new ?_; focus (first | rfl | (simp; done))) | refine Blk.alloc ?_ _ | refine Blk.other ?_ ?_ _) | exact eqL rfl | (refine neB ?_; omega))); done)
                        | ((repeat' (first | (with_reducible first | assumption | refine Blk.drew ?_ | refine Blk.drewN ?_ _ | apply Blk.set | (refine Blk.new ?_; focus (first | rfl | (simp; done))) | refine Blk.alloc ?_ _ | refine Blk.other ?_ ?_ _) | exact eqL rfl | (refine neB ?_; omega))); done)
                        | ((show Acc wr _); (repeat' (first | (with_reducible first | assumption | exact Acc.refl _ | refine Acc.drew ?_ | refine Acc.drewN ?_ _ | refine Acc.alloc ?_ _ | refine Acc.setCell ?_ ?_ _) | (refine leB ?_; omega))); done)
                case rest =>
                  obtain ⟨Bs, kawc⟩ := hcut
                  have cs := Bs.cell
                  have fs := Bs.free
                  have ls_wc := Bs.lt
                  have kawd : Acc w wc := Acc.call ka kawc
                  have ksz : w.heap.size ≤ wc.heap.size := kawd.size
                  by_cases hz : (q) % 4 = 0
                  · skip
                    go_wp2_with fail
                    go_roundw
                    case rel =>
                      refine ⟨k + 1, by go_num, hk1, (show Acc w _ by repeat' (first | (with_reducible first | assumption | exact Acc.refl _ | refine Acc.drew ?_ | refine Acc.drewN ?_ _ | refine Acc.alloc ?_ _ | refine Acc.setCell ?_ ?_ _) | (refine leB ?_; omega))), (fun h => by cases h), ?_⟩
                      rw [HS.out, putE_nil0 (s := ((n1, n2, 1), q)) (show q % 4 = 0 by omega)]
                      exact own_keep HO'.out (show Acc wr _ by repeat' (first | (with_reducible first | assumption | exact Acc.refl _ | refine Acc.drew ?_ | refine Acc.drewN ?_ _ | refine Acc.alloc ?_ _ | refine Acc.setCell ?_ ?_ _) | (refine leB ?_; omega)))
                    case measure => simp [intOf]; omega
                  · skip
                    have hzp : 0 < (q) % 4 := by omega
                    go_wp2_with (first | (at_builtin; refine wpList_append_own _ rfl _ _ 31 rfl w.heap.size 26 i0 (.agg #[.int .i64 0, .int .i64 0, .int .i64 0, .int .i64 0]) 4 32 Tryd.underlying31 hi0 hz0 hz1 hz2 rfl (by decide) _ _ _ rfl (own_keep HO'.out (show Acc wr _ by repeat' (first | (with_reducible first | assumption | exact Acc.refl _ | refine Acc.drew ?_ | refine Acc.drewN ?_ _ | refine Acc.alloc ?_ _ | refine Acc.setCell ?_ ?_ _) | (refine leB ?_; omega)))) ⟨wc.heap.size, 0, none⟩ 1 1 [.int .i64 n1, .int .i64 n2, .int .i64 1, .int .i64 ((q) % 4)] rfl rfl (news4B (show Blk _ (wc.heap.size) [.int .i64 n1, .int .i64 n2, .int .i64 1, .int .i64 ((q) % 4)] by repeat' (first | (with_reducible first | assumption | refine Blk.drew ?_ | refine Blk.drewN ?_ _ | apply Blk.set | (refine Blk.new ?_; focus (first | rfl | (simp; done) | (simp [drewN_size]; done))) | refine Blk.alloc ?_ _ | refine Blk.other ?_ ?_ _) | exact eqL rfl | (refine neB ?_; omega)))) (by intro u hu; simp at hu; rcases hu with rfl | rfl | rfl | rfl <;> rfl) (by unfold maxLen; omega) (by omega) (by first | omega | (simp; done) | (simp; omega)) ?_) | fail)
                    intro v' w' hown' hgrow hnil
                    have HNI := Lib.hid hnil
                    have HG := Lib.hid hgrow
                    clear hnil hgrow
                    go_wp2_with fail
                    go_roundw
                    case rel =>
                      refine ⟨k + 1, by go_num, hk1, ?_, (fun h => by first | exact HNI.out h | (have := (HNI.out.1 h).2; omega)), ?_⟩
                      · exact Below.grown (show Acc w _ by repeat' (first | (with_reducible first | assumption | exact Acc.refl _ | refine Acc.drew ?_ | refine Acc.drewN ?_ _ | refine Acc.alloc ?_ _ | refine Acc.setCell ?_ ?_ _) | (refine leB ?_; omega))) HG.out (by simp; omega) (fun g hg => own_rowN HO'.out hg)
                      · rw [HS.out, putE_nil1 (s := ((n1, n2, 1), q)) (show ¬ q % 4 = 0 by omega), List.reverse_cons, layC_append]
                        exact hown'
                    case measure => simp [intOf]; omega
              · skip
                have TG := Lib.hid fun w => specGcd_of 4 2 2 (by decide) (by omega) (by omega) w
                go_upto_region 12 with fail
                go_cut [] (fun wx => Blk wx (wr.heap.size) [.int .i64 n1, .int .i64 n2, .int .i64 2, .int .i64 ((q) % 2)] ∧ Acc wr wx)
                case first =>
                  go_region_with (go_at_call 26; refine (TG.out _).mono ?_; rintro e W9 ⟨rfl, rfl⟩)
                  all_goals
                    go_wp2_with fail
                  all_goals
                    go_meet
                    and_intros
                    all_goals
                      first
                        | (refine Blk.set (vs := [.int .i64 n1, .int .i64 n2, .int .i64 2, .int .i64 q]) ?_ rfl; (repeat' (first | (with_reducible first | assumption | refine Blk.drew ?_ | refine Blk.drewN ?_ _ | apply Blk.set | (refine Blk.new ?_; focus (first | rfl | (simp; done))) | refine Blk.alloc ?_ _ | refine Blk.other ?_ ?_ _) | exact eqL rfl | (refine neB ?_; omega))); done)
                        | ((repeat' (first | (with_reducible first | assumption | refine Blk.drew ?_ | refine Blk.drewN ?_ _ | apply Blk.set | (refine Blk.new ?_; focus (first | rfl | (simp; done))) | refine Blk.alloc ?_ _ | refine Blk.other ?_ ?_ _) | exact eqL rfl | (refine neB ?_; omega))); done)
                        | ((show Acc wr _); (repeat' (first | (with_reducible first | assumption | exact Acc.refl _ | refine Acc.drew ?_ | refine Acc.drewN ?_ _ | refine Acc.alloc ?_ _ | refine Acc.setCell ?_ ?_ _) | (refine leB ?_; omega))); done)
                case rest =>
                  obtain ⟨Bs, kawc⟩ := hcut
                  have cs := Bs.cell
                  have fs := Bs.free
                  have ls_wc := Bs.lt
                  have kawd : Acc w wc := Acc.call ka kawc
                  have ksz : w.heap.size ≤ wc.heap.size := kawd.size
                  by_cases hz : (q) % 2 = 0
                  · skip
                    go_wp2_with fail
                    go_roundw
                    case rel =>
                      refine ⟨k + 1, by go_num, hk1, (show Acc w _ by repeat' (first | (with_reducible first | assumption | exact Acc.refl _ | refine Acc.drew ?_ | refine Acc.drewN ?_ _ | refine Acc.alloc ?_ _ | refine Acc.setCell ?_ ?_ _) | (refine leB ?_; omega))), (fun h => by cases h), ?_⟩
                      rw [HS.out, putE_nil0 (s := ((n1, n2, 2), q)) (show q % 2 = 0 by omega)]
                      exact own_keep HO'.out (show Acc wr _ by repeat' (first | (with_reducible first | assumption | exact Acc.refl _ | refine Acc.drew ?_ | refine Acc.drewN ?_ _ | refine Acc.alloc ?_ _ | refine Acc.setCell ?_ ?_ _) | (refine leB ?_; omega)))
                    case measure => simp [intOf]; omega
                  · skip
                    have hzp : 0 < (q) % 2 := by omega
                    go_wp2_with (first | (at_builtin; refine wpList_append_own _ rfl _ _ 31 rfl w.heap.size 26 i0 (.agg #[.int .i64 0, .int .i64 0, .int .i64 0, .int .i64 0]) 4 32 Tryd.underlying31 hi0 hz0 hz1 hz2 rfl (by decide) _ _ _ rfl (own_keep HO'.out (show Acc wr _ by repeat' (first | (with_reducible first | assumption | exact Acc.refl _ | refine Acc.drew ?_ | refine Acc.drewN ?_ _ | refine Acc.alloc ?_ _ | refine Acc.setCell ?_ ?_ _) | (refine leB ?_; omega)))) ⟨wc.heap.size, 0, none⟩ 1 1 [.int .i64 n1, .int .i64 n2, .int .i64 2, .int .i64 ((q) % 2)] rfl rfl (news4B (show Blk _ (wc.heap.size) [.int .i64 n1, .int .i64 n2, .int .i64 2, .int .i64 ((q) % 2)] by repeat' (first | (with_reducible first | assumption | refine Blk.drew ?_ | refine Blk.drewN ?_ _ | apply Blk.set | (refine Blk.new ?_; focus (first | rfl | (simp; done) | (simp [drewN_size]; done))) | refine Blk.alloc ?_ _ | refine Blk.other ?_ ?_ _) | exact eqL rfl | (refine neB ?_; omega)))) (by intro u hu; simp at hu; rcases hu with rfl | rfl | rfl | rfl <;> rfl) (by unfold maxLen; omega) (by omega) (by first | omega | (simp; done) | (simp; omega)) ?_) | fail)
                    intro v' w' hown' hgrow hnil
                    have HNI := Lib.hid hnil
                    have HG := Lib.hid hgrow
                    clear hnil hgrow
                    go_wp2_with fail
                    go_roundw
                    case rel =>
                      refine ⟨k + 1, by go_num, hk1, ?_, (fun h => by first | exact HNI.out h | (have := (HNI.out.1 h).2; omega)), ?_⟩
                      · exact Below.grown (show Acc w _ by repeat' (first | (with_reducible first | assumption | exact Acc.refl _ | refine Acc.drew ?_ | refine Acc.drewN ?_ _ | refine Acc.alloc ?_ _ | refine Acc.setCell ?_ ?_ _) | (refine leB ?_; omega))) HG.out (by simp; omega) (fun g hg => own_rowN HO'.out hg)
                      · rw [HS.out, putE_nil1 (s := ((n1, n2, 2), q)) (show ¬ q % 2 = 0 by omega), List.reverse_cons, layC_append]
                        exact hown'
                    case measure => simp [intOf]; omega
              · skip
                have TG := Lib.hid fun w => specGcd_of 4 3 1 (by decide) (by omega) (by omega) w
                go_upto_region 12 with fail
                go_cut [] (fun wx => Blk wx (wr.heap.size) [.int .i64 n1, .int .i64 n2, .int .i64 3, .int .i64 ((q) % 4)] ∧ Acc wr wx)
                case first =>
                  go_region_with (go_at_call 26; refine (TG.out _).mono ?_; rintro e W9 ⟨rfl, rfl⟩)
                  all_goals
                    go_wp2_with fail
                  all_goals
                    go_meet
                    and_intros
                    all_goals
                      first
                        | (refine Blk.set (vs := [.int .i64 n1, .int .i64 n2, .int .i64 3, .int .i64 q]) ?_ rfl; (repeat' (first | (with_reducible first | assumption | refine Blk.drew ?_ | refine Blk.drewN ?_ _ | apply Blk.set | (refine Blk.new ?_; focus (first | rfl | (simp; done))) | refine Blk.alloc ?_ _ | refine Blk.other ?_ ?_ _) | exact eqL rfl | (refine neB ?_; omega))); done)
                        | ((repeat' (first | (with_reducible first | assumption | refine Blk.drew ?_ | refine Blk.drewN ?_ _ | apply Blk.set | (refine Blk.new ?_; focus (first | rfl | (simp; done))) | refine Blk.alloc ?_ _ | refine Blk.other ?_ ?_ _) | exact eqL rfl | (refine neB ?_; omega))); done)
                        | ((show Acc wr _); (repeat' (first | (with_reducible first | assumption | exact Acc.refl _ | refine Acc.drew ?_ | refine Acc.drewN ?_ _ | refine Acc.alloc ?_ _ | refine Acc.setCell ?_ ?_ _) | (refine leB ?_; omega))); done)
                case rest =>
                  obtain ⟨Bs, kawc⟩ := hcut
                  have cs := Bs.cell
                  have fs := Bs.free
                  have ls_wc := Bs.lt
                  have kawd : Acc w wc := Acc.call ka kawc
                  have ksz : w.heap.size ≤ wc.heap.size := kawd.size
                  by_cases hz : (q) % 4 = 0
                  · skip
                    go_wp2_with fail
                    go_roundw
                    case rel =>
                      refine ⟨k + 1, by go_num, hk1, (show Acc w _ by repeat' (first | (with_reducible first | assumption | exact Acc.refl _ | refine Acc.drew ?_ | refine Acc.drewN ?_ _ | refine Acc.alloc ?_ _ | refine Acc.setCell ?_ ?_ _) | (refine leB ?_; omega))), (fun h => by cases h), ?_⟩
                      rw [HS.out, putE_nil0 (s := ((n1, n2, 3), q)) (show q % 4 = 0 by omega)]
                      exact own_keep HO'.out (show Acc wr _ by repeat' (first | (with_reducible first | assumption | exact Acc.refl _ | refine Acc.drew ?_ | refine Acc.drewN ?_ _ | refine Acc.alloc ?_ _ | refine Acc.setCell ?_ ?_ _) | (refine leB ?_; omega)))
                    case measure => simp [intOf]; omega
                  · skip
                    have hzp : 0 < (q) % 4 := by omega
                    go_wp2_with (first | (at_builtin; refine wpList_append_own _ rfl _ _ 31 rfl w.heap.size 26 i0 (.agg #[.int .i64 0, .int .i64 0, .int .i64 0, .int .i64 0]) 4 32 Tryd.underlying31 hi0 hz0 hz1 hz2 rfl (by decide) _ _ _ rfl (own_keep HO'.out (show Acc wr _ by repeat' (first | (with_reducible first | assumption | exact Acc.refl _ | refine Acc.drew ?_ | refine Acc.drewN ?_ _ | refine Acc.alloc ?_ _ | refine Acc.setCell ?_ ?_ _) | (refine leB ?_; omega)))) ⟨wc.heap.size, 0, none⟩ 1 1 [.int .i64 n1, .int .i64 n2, .int .i64 3, .int .i64 ((q) % 4)] rfl rfl (news4B (show Blk _ (wc.heap.size) [.int .i64 n1, .int .i64 n2, .int .i64 3, .int .i64 ((q) % 4)] by repeat' (first | (with_reducible first | assumption | refine Blk.drew ?_ | refine Blk.drewN ?_ _ | apply Blk.set | (refine Blk.new ?_; focus (first | rfl | (simp; done) | (simp [drewN_size]; done))) | refine Blk.alloc ?_ _ | refine Blk.other ?_ ?_ _) | exact eqL rfl | (refine neB ?_; omega)))) (by intro u hu; simp at hu; rcases hu with rfl | rfl | rfl | rfl <;> rfl) (by unfold maxLen; omega) (by omega) (by first | omega | (simp; done) | (simp; omega)) ?_) | fail)
                    intro v' w' hown' hgrow hnil
                    have HNI := Lib.hid hnil
                    have HG := Lib.hid hgrow
                    clear hnil hgrow
                    go_wp2_with fail
                    go_roundw
                    case rel =>
                      refine ⟨k + 1, by go_num, hk1, ?_, (fun h => by first | exact HNI.out h | (have := (HNI.out.1 h).2; omega)), ?_⟩
                      · exact Below.grown (show Acc w _ by repeat' (first | (with_reducible first | assumption | exact Acc.refl _ | refine Acc.drew ?_ | refine Acc.drewN ?_ _ | refine Acc.alloc ?_ _ | refine Acc.setCell ?_ ?_ _) | (refine leB ?_; omega))) HG.out (by simp; omega) (fun g hg => own_rowN HO'.out hg)
                      · rw [HS.out, putE_nil1 (s := ((n1, n2, 3), q)) (show ¬ q % 4 = 0 by omega), List.reverse_cons, layC_append]
                        exact hown'
                    case measure => simp [intOf]; omega
          | cons r rest =>
            obtain ⟨⟨m1, m2, m3⟩, u⟩ := r
            obtain ⟨u0, u1⟩ := (okS_out (HA.out _ (List.mem_cons_self ..))).2.2
            obtain ⟨N, hN⟩ : ∃ N, rest.reverse.length = N := ⟨_, rfl⟩
            have hN2 : (((m1, m2, m3), u) :: rest).length = N + 1 := by rw [List.length_cons, ← hN, List.length_reverse]
            rw [hN2, List.reverse_cons] at HO'
            rw [hN2] at hAl ⊢
            have HN := Lib.hid hN
            have hN8 : N ≤ 8 := by omega
            have hrl : rest.length ≤ 8 := by rw [← List.length_reverse, hN]; exact hN8
            have hN8i : (N : Int) ≤ 8 := by omega
            have hNw : IntKind.i64.wrap (N : Int) = (N : Int) := wrapS (by omega)
            have hNw2 : IntKind.i64.wrap ((N : Int) + 1 - 1) = (N : Int) := by rw [show (N : Int) + 1 - 1 = (N : Int) by omega]; exact hNw
            have hquw : IntKind.i64.wrap (q + u) = q + u := wrapS (by omega)
            clear hN hN2 hAl
            obtain ⟨hgl, c0, c1, c2, c3, hcap, hgB⟩ := own_last HO'.out HN.out
            have hN0 : (0 : Int) ≤ (N : Int) := by omega
            have hNc : (N : Int) ≤ (cap' : Int) := by omega
            have hNl : (N : Int) < (N : Int) + 1 := by omega
            have kaw : Acc wr wr := Acc.refl _
            by_cases heq : (m1, m2, m3) = (n1, n2, n3)
            · skip
              simp only [Prod.mk.injEq] at heq
              obtain ⟨rfl, rfl, rfl⟩ := heq
              go_upto_region 9 with fail
              first
                | go_quiet (fail)
                | go_region_with (fail)
              all_goals
                go_upto_region 10 with fail
                go_cut [] (fun wx => Blk wx (wr.heap.size) [.int .i64 m1, .int .i64 m2, .int .i64 m3, .int .i64 (q + u)] ∧ Acc wr wx)
                case first =>
                  go_region_with (fail)
                  all_goals
                    go_wp2_with fail
                  all_goals
                    go_meet
                    and_intros
                    all_goals
                      first
                        | (refine Blk.set (vs := [.int .i64 m1, .int .i64 m2, .int .i64 m3, .int .i64 q]) ?_ rfl; (repeat' (first | (with_reducible first | assumption | refine Blk.drew ?_ | refine Blk.drewN ?_ _ | apply Blk.set | (refine Blk.new ?_; focus (first | rfl | (simp; done))) | refine Blk.alloc ?_ _ | refine Blk.other ?_ ?_ _) | exact eqL rfl | (refine neB ?_; omega))); done)
                        | ((repeat' (first | (with_reducible first | assumption | refine Blk.drew ?_ | refine Blk.drewN ?_ _ | apply Blk.set | (refine Blk.new ?_; focus (first | rfl | (simp; done))) | refine Blk.alloc ?_ _ | refine Blk.other ?_ ?_ _) | exact eqL rfl | (refine neB ?_; omega))); done)
                        | ((show Acc wr _); (repeat' (first | (with_reducible first | assumption | exact Acc.refl _ | refine Acc.drew ?_ | refine Acc.drewN ?_ _ | refine Acc.alloc ?_ _ | refine Acc.setCell ?_ ?_ _) | (refine leB ?_; omega))); done)
                case rest =>
                  obtain ⟨Bs, kawc⟩ := hcut
                  have cs := Bs.cell
                  have fs := Bs.free
                  have ls_wc := Bs.lt
                  have kawe := kawc
                  have HC2 : RowKit.Hid (wr.ownsRow w.heap.size 26 4 (.slice (some ⟨g, 0, none⟩) N cap') rest.length (layC rest.reverse)) := Lib.hid (by have := own_cut HO'.out HN.out; rw [show rest.length = N by rw [← HN.out, List.length_reverse]]; exact this)
                  rcases HNd.out with rfl | rfl | rfl | rfl
                  · skip
                    have TG := Lib.hid fun w => specGcd_of 4 0 4 (by decide) (by omega) (by omega) w
                    go_upto_region 12 with fail
                    go_cut [] (fun wx => Blk wx (wr.heap.size) [.int .i64 m1, .int .i64 m2, .int .i64 0, .int .i64 0] ∧ Acc wr wx)
                    case first =>
                      go_region_with (go_at_call 26; refine (TG.out _).mono ?_; rintro e W9 ⟨rfl, rfl⟩)
                      all_goals
                        go_wp2_with fail
                      all_goals
                        go_meet
                        and_intros
                        all_goals
                          first
                            | ((repeat' (first | (with_reducible first | assumption | refine Blk.drew ?_ | refine Blk.drewN ?_ _ | apply Blk.set | (refine Blk.new ?_; focus (first | rfl | (simp; done))) | refine Blk.alloc ?_ _ | refine Blk.other ?_ ?_ _) | exact eqL rfl | (refine neB ?_; omega))); done)
                            | ((show Acc wr _); (repeat' (first | (with_reducible first | assumption | exact Acc.refl _ | refine Acc.drew ?_ | refine Acc.drewN ?_ _ | refine Acc.alloc ?_ _ | refine Acc.setCell ?_ ?_ _) | (refine leB ?_; omega))); done)
                    case rest =>
                      obtain ⟨Bs, kawc⟩ := hcut
                      have cs := Bs.cell
                      have fs := Bs.free
                      have ls_wc := Bs.lt
                      have kawd : Acc w wc := Acc.call ka kawc
                      have ksz : w.heap.size ≤ wc.heap.size := kawd.size
                      go_wp2_with fail
                      go_roundw
                      case rel =>
                        refine ⟨k + 1, by go_num, hk1, (show Acc w _ by repeat' (first | (with_reducible first | assumption | exact Acc.refl _ | refine Acc.drew ?_ | refine Acc.drewN ?_ _ | refine Acc.alloc ?_ _ | refine Acc.setCell ?_ ?_ _) | (refine leB ?_; omega))), (fun h => by cases h), ?_⟩
                        rw [HS.out, putE_eq0 (s := ((m1, m2, 0), q)) (r := ((m1, m2, 0), u)) rfl (show (q + u) % 1 = 0 by omega)]
                        exact own_keep HC2.out (show Acc wr _ by repeat' (first | (with_reducible first | assumption | exact Acc.refl _ | refine Acc.drew ?_ | refine Acc.drewN ?_ _ | refine Acc.alloc ?_ _ | refine Acc.setCell ?_ ?_ _) | (refine leB ?_; omega)))
                      case measure => simp [intOf]; omega
                  · skip
                    have TG := Lib.hid fun w => specGcd_of 4 1 1 (by decide) (by omega) (by omega) w
                    go_upto_region 12 with fail
                    go_cut [] (fun wx => Blk wx (wr.heap.size) [.int .i64 m1, .int .i64 m2, .int .i64 1, .int .i64 ((q + u) % 4)] ∧ Acc wr wx)
                    case first =>
                      go_region_with (go_at_call 26; refine (TG.out _).mono ?_; rintro e W9 ⟨rfl, rfl⟩)
                      all_goals
                        go_wp2_with fail
                      all_goals
                        go_meet
                        and_intros
                        all_goals
                          first
                            | ((repeat' (first | (with_reducible first | assumption | refine Blk.drew ?_ | refine Blk.drewN ?_ _ | apply Blk.set | (refine Blk.new ?_; focus (first | rfl | (simp; done))) | refine Blk.alloc ?_ _ | refine Blk.other ?_ ?_ _) | exact eqL rfl | (refine neB ?_; omega))); done)
                            | ((show Acc wr _); (repeat' (first | (with_reducible first | assumption | exact Acc.refl _ | refine Acc.drew ?_ | refine Acc.drewN ?_ _ | refine Acc.alloc ?_ _ | refine Acc.setCell ?_ ?_ _) | (refine leB ?_; omega))); done)
                    case rest =>
                      obtain ⟨Bs, kawc⟩ := hcut
                      have cs := Bs.cell
                      have fs := Bs.free
                      have ls_wc := Bs.lt
                      have kawd : Acc w wc := Acc.call ka kawc
                      have ksz : w.heap.size ≤ wc.heap.size := kawd.size
                      by_cases hz : (q + u) % 4 = 0
                      · skip
                        go_wp2_with fail
                        go_roundw
                        case rel =>
                          refine ⟨k + 1, by go_num, hk1, (show Acc w _ by repeat' (first | (with_reducible first | assumption | exact Acc.refl _ | refine Acc.drew ?_ | refine Acc.drewN ?_ _ | refine Acc.alloc ?_ _ | refine Acc.setCell ?_ ?_ _) | (refine leB ?_; omega))), (fun h => by cases h), ?_⟩
                          rw [HS.out, putE_eq0 (s := ((m1, m2, 1), q)) (r := ((m1, m2, 1), u)) rfl (show (q + u) % 4 = 0 by omega)]
                          exact own_keep HC2.out (show Acc wr _ by repeat' (first | (with_reducible first | assumption | exact Acc.refl _ | refine Acc.drew ?_ | refine Acc.drewN ?_ _ | refine Acc.alloc ?_ _ | refine Acc.setCell ?_ ?_ _) | (refine leB ?_; omega)))
                        case measure => simp [intOf]; omega
                      · skip
                        have hzp : 0 < (q + u) % 4 := by omega
                        go_wp2_with (first | (at_builtin; refine wpList_append_own _ rfl _ _ 31 rfl w.heap.size 26 i0 (.agg #[.int .i64 0, .int .i64 0, .int .i64 0, .int .i64 0]) 4 32 Tryd.underlying31 hi0 hz0 hz1 hz2 rfl (by decide) _ _ _ rfl (own_keep HC2.out (show Acc wr _ by repeat' (first | (with_reducible first | assumption | exact Acc.refl _ | refine Acc.drew ?_ | refine Acc.drewN ?_ _ | refine Acc.alloc ?_ _ | refine Acc.setCell ?_ ?_ _) | (refine leB ?_; omega)))) ⟨wc.heap.size, 0, none⟩ 1 1 [.int .i64 m1, .int .i64 m2, .int .i64 1, .int .i64 ((q + u) % 4)] rfl rfl (news4B (show Blk _ (wc.heap.size) [.int .i64 m1, .int .i64 m2, .int .i64 1, .int .i64 ((q + u) % 4)] by repeat' (first | (with_reducible first | assumption | refine Blk.drew ?_ | refine Blk.drewN ?_ _ | apply Blk.set | (refine Blk.new ?_; focus (first | rfl | (simp; done) | (simp [drewN_size]; done))) | refine Blk.alloc ?_ _ | refine Blk.other ?_ ?_ _) | exact eqL rfl | (refine neB ?_; omega)))) (by intro u hu; simp at hu; rcases hu with rfl | rfl | rfl | rfl <;> rfl) (by unfold maxLen; omega) (by omega) (by first | omega | (simp; done) | (simp; omega)) ?_) | fail)
                        intro v' w' hown' hgrow hnil
                        have HNI := Lib.hid hnil
                        have HG := Lib.hid hgrow
                        clear hnil hgrow
                        go_wp2_with fail
                        go_roundw
                        case rel =>
                          refine ⟨k + 1, by go_num, hk1, ?_, (fun h => by first | exact HNI.out h | (have := (HNI.out.1 h).2; omega)), ?_⟩
                          · exact Below.grown (show Acc w _ by repeat' (first | (with_reducible first | assumption | exact Acc.refl _ | refine Acc.drew ?_ | refine Acc.drewN ?_ _ | refine Acc.alloc ?_ _ | refine Acc.setCell ?_ ?_ _) | (refine leB ?_; omega))) HG.out (by simp; omega) (fun g hg => own_rowN HC2.out hg)
                          · rw [HS.out, putE_eq1 (s := ((m1, m2, 1), q)) (r := ((m1, m2, 1), u)) rfl (show ¬ (q + u) % 4 = 0 by omega), List.reverse_cons, layC_append]
                            exact hown'
                        case measure => simp [intOf]; omega
                  · skip
                    have TG := Lib.hid fun w => specGcd_of 4 2 2 (by decide) (by omega) (by omega) w
                    go_upto_region 12 with fail
                    go_cut [] (fun wx => Blk wx (wr.heap.size) [.int .i64 m1, .int .i64 m2, .int .i64 2, .int .i64 ((q + u) % 2)] ∧ Acc wr wx)
                    case first =>
                      go_region_with (go_at_call 26; refine (TG.out _).mono ?_; rintro e W9 ⟨rfl, rfl⟩)
                      all_goals
                        go_wp2_with fail
                      all_goals
                        go_meet
                        and_intros
                        all_goals
                          first
                            | ((repeat' (first | (with_reducible first | assumption | refine Blk.drew ?_ | refine Blk.drewN ?_ _ | apply Blk.set | (refine Blk.new ?_; focus (first | rfl | (simp; done))) | refine Blk.alloc ?_ _ | refine Blk.other ?_ ?_ _) | exact eqL rfl | (refine neB ?_; omega))); done)
                            | ((show Acc wr _); (repeat' (first | (with_reducible first | assumption | exact Acc.refl _ | refine Acc.drew ?_ | refine Acc.drewN ?_ _ | refine Acc.alloc ?_ _ | refine Acc.setCell ?_ ?_ _) | (refine leB ?_; omega))); done)
                    case rest =>
                      obtain ⟨Bs, kawc⟩ := hcut
                      have cs := Bs.cell
                      have fs := Bs.free
                      have ls_wc := Bs.lt
                      have kawd : Acc w wc := Acc.call ka kawc
                      have ksz : w.heap.size ≤ wc.heap.size := kawd.size
                      by_cases hz : (q + u) % 2 = 0
                      · skip
                        go_wp2_with fail
                        go_roundw
                        case rel =>
                          refine ⟨k + 1, by go_num, hk1, (show Acc w _ by repeat' (first | (with_reducible first | assumption | exact Acc.refl _ | refine Acc.drew ?_ | refine Acc.drewN ?_ _ | refine Acc.alloc ?_ _ | refine Acc.setCell ?_ ?_ _) | (refine leB ?_; omega))), (fun h => by cases h), ?_⟩
                          rw [HS.out, putE_eq0 (s := ((m1, m2, 2), q)) (r := ((m1, m2, 2), u)) rfl (show (q + u) % 2 = 0 by omega)]
                          exact own_keep HC2.out (show Acc wr _ by repeat' (first | (with_reducible first | assumption | exact Acc.refl _ | refine Acc.drew ?_ | refine Acc.drewN ?_ _ | refine Acc.alloc ?_ _ | refine Acc.setCell ?_ ?_ _) | (refine leB ?_; omega)))
                        case measure => simp [intOf]; omega
                      · skip
                        have hzp : 0 < (q + u) % 2 := by omega
                        go_wp2_with (first | (at_builtin; refine wpList_append_own _ rfl _ _ 31 rfl w.heap.size 26 i0 (.agg #[.int .i64 0, .int .i64 0, .int .i64 0, .int .i64 0]) 4 32 Tryd.underlying31 hi0 hz0 hz1 hz2 rfl (by decide) _ _ _ rfl (own_keep HC2.out (show Acc wr _ by repeat' (first | (with_reducible first | assumption | exact Acc.refl _ | refine Acc.drew ?_ | refine Acc.drewN ?_ _ | refine Acc.alloc ?_ _ | refine Acc.setCell ?_ ?_ _) | (refine leB ?_; omega)))) ⟨wc.heap.size, 0, none⟩ 1 1 [.int .i64 m1, .int .i64 m2, .int .i64 2, .int .i64 ((q + u) % 2)] rfl rfl (news4B (show Blk _ (wc.heap.size) [.int .i64 m1, .int .i64 m2, .int .i64 2, .int .i64 ((q + u) % 2)] by repeat' (first | (with_reducible first | assumption | refine Blk.drew ?_ | refine Blk.drewN ?_ _ | apply Blk.set | (refine Blk.new ?_; focus (first | rfl | (simp; done) | (simp [drewN_size]; done))) | refine Blk.alloc ?_ _ | refine Blk.other ?_ ?_ _) | exact eqL rfl | (refine neB ?_; omega)))) (by intro u hu; simp at hu; rcases hu with rfl | rfl | rfl | rfl <;> rfl) (by unfold maxLen; omega) (by omega) (by first | omega | (simp; done) | (simp; omega)) ?_) | fail)
                        intro v' w' hown' hgrow hnil
                        have HNI := Lib.hid hnil
                        have HG := Lib.hid hgrow
                        clear hnil hgrow
                        go_wp2_with fail
                        go_roundw
                        case rel =>
                          refine ⟨k + 1, by go_num, hk1, ?_, (fun h => by first | exact HNI.out h | (have := (HNI.out.1 h).2; omega)), ?_⟩
                          · exact Below.grown (show Acc w _ by repeat' (first | (with_reducible first | assumption | exact Acc.refl _ | refine Acc.drew ?_ | refine Acc.drewN ?_ _ | refine Acc.alloc ?_ _ | refine Acc.setCell ?_ ?_ _) | (refine leB ?_; omega))) HG.out (by simp; omega) (fun g hg => own_rowN HC2.out hg)
                          · rw [HS.out, putE_eq1 (s := ((m1, m2, 2), q)) (r := ((m1, m2, 2), u)) rfl (show ¬ (q + u) % 2 = 0 by omega), List.reverse_cons, layC_append]
                            exact hown'
                        case measure => simp [intOf]; omega
                  · skip
                    have TG := Lib.hid fun w => specGcd_of 4 3 1 (by decide) (by omega) (by omega) w
                    go_upto_region 12 with fail
                    go_cut [] (fun wx => Blk wx (wr.heap.size) [.int .i64 m1, .int .i64 m2, .int .i64 3, .int .i64 ((q + u) % 4)] ∧ Acc wr wx)
                    case first =>
                      go_region_with (go_at_call 26; refine (TG.out _).mono ?_; rintro e W9 ⟨rfl, rfl⟩)
                      all_goals
                        go_wp2_with fail
                      all_goals
                        go_meet
                        and_intros
                        all_goals
                          first
                            | ((repeat' (first | (with_reducible first | assumption | refine Blk.drew ?_ | refine Blk.drewN ?_ _ | apply Blk.set | (refine Blk.new ?_; focus (first | rfl | (simp; done))) | refine Blk.alloc ?_ _ | refine Blk.other ?_ ?_ _) | exact eqL rfl | (refine neB ?_; omega))); done)
                            | ((show Acc wr _); (repeat' (first | (with_reducible first | assumption | exact Acc.refl _ | refine Acc.drew ?_ | refine Acc.drewN ?_ _ | refine Acc.alloc ?_ _ | refine Acc.setCell ?_ ?_ _) | (refine leB ?_; omega))); done)
                    case rest =>
                      obtain ⟨Bs, kawc⟩ := hcut
                      have cs := Bs.cell
                      have fs := Bs.free
                      have ls_wc := Bs.lt
                      have kawd : Acc w wc := Acc.call ka kawc
                      have ksz : w.heap.size ≤ wc.heap.size := kawd.size
                      by_cases hz : (q + u) % 4 = 0
                      · skip
                        go_wp2_with fail
                        go_roundw
                        case rel =>
                          refine ⟨k + 1, by go_num, hk1, (show Acc w _ by repeat' (first | (with_reducible first | assumption | exact Acc.refl _ | refine Acc.drew ?_ | refine Acc.drewN ?_ _ | refine Acc.alloc ?_ _ | refine Acc.setCell ?_ ?_ _) | (refine leB ?_; omega))), (fun h => by cases h), ?_⟩
                          rw [HS.out, putE_eq0 (s := ((m1, m2, 3), q)) (r := ((m1, m2, 3), u)) rfl (show (q + u) % 4 = 0 by omega)]
                          exact own_keep HC2.out (show Acc wr _ by repeat' (first | (with_reducible first | assumption | exact Acc.refl _ | refine Acc.drew ?_ | refine Acc.drewN ?_ _ | refine Acc.alloc ?_ _ | refine Acc.setCell ?_ ?_ _) | (refine leB ?_; omega)))
                        case measure => simp [intOf]; omega
                      · skip
                        have hzp : 0 < (q + u) % 4 := by omega
                        go_wp2_with (first | (at_builtin; refine wpList_append_own _ rfl _ _ 31 rfl w.heap.size 26 i0 (.agg #[.int .i64 0, .int .i64 0, .int .i64 0, .int .i64 0]) 4 32 Tryd.underlying31 hi0 hz0 hz1 hz2 rfl (by decide) _ _ _ rfl (own_keep HC2.out (show Acc wr _ by repeat' (first | (with_reducible first | assumption | exact Acc.refl _ | refine Acc.drew ?_ | refine Acc.drewN ?_ _ | refine Acc.alloc ?_ _ | refine Acc.setCell ?_ ?_ _) | (refine leB ?_; omega)))) ⟨wc.heap.size, 0, none⟩ 1 1 [.int .i64 m1, .int .i64 m2, .int .i64 3, .int .i64 ((q + u) % 4)] rfl rfl (news4B (show Blk _ (wc.heap.size) [.int .i64 m1, .int .i64 m2, .int .i64 3, .int .i64 ((q + u) % 4)] by repeat' (first | (with_reducible first | assumption | refine Blk.drew ?_ | refine Blk.drewN ?_ _ | apply Blk.set | (refine Blk.new ?_; focus (first | rfl | (simp; done) | (simp [drewN_size]; done))) | refine Blk.alloc ?_ _ | refine Blk.other ?_ ?_ _) | exact eqL rfl | (refine neB ?_; omega)))) (by intro u hu; simp at hu; rcases hu with rfl | rfl | rfl | rfl <;> rfl) (by unfold maxLen; omega) (by omega) (by first | omega | (simp; done) | (simp; omega)) ?_) | fail)
                        intro v' w' hown' hgrow hnil
                        have HNI := Lib.hid hnil
                        have HG := Lib.hid hgrow
                        clear hnil hgrow
                        go_wp2_with fail
                        go_roundw
                        case rel =>
                          refine ⟨k + 1, by go_num, hk1, ?_, (fun h => by first | exact HNI.out h | (have := (HNI.out.1 h).2; omega)), ?_⟩
                          · exact Below.grown (show Acc w _ by repeat' (first | (with_reducible first | assumption | exact Acc.refl _ | refine Acc.drew ?_ | refine Acc.drewN ?_ _ | refine Acc.alloc ?_ _ | refine Acc.setCell ?_ ?_ _) | (refine leB ?_; omega))) HG.out (by simp; omega) (fun g hg => own_rowN HC2.out hg)
                          · rw [HS.out, putE_eq1 (s := ((m1, m2, 3), q)) (r := ((m1, m2, 3), u)) rfl (show ¬ (q + u) % 4 = 0 by omega), List.reverse_cons, layC_append]
                            exact hown'
                        case measure => simp [intOf]; omega
            · skip
              have HNE := Lib.hid heq
              have hw3 : m1 ≠ n1 ∨ (m1 = n1 ∧ m2 ≠ n2) ∨ (m1 = n1 ∧ m2 = n2 ∧ m3 ≠ n3) := by
                simp only [Prod.mk.injEq] at heq
                omega
              clear heq
              have HC3 : RowKit.Hid (wr.ownsRow w.heap.size 26 4 (.slice (some ⟨g, 0, none⟩) (N + 1) cap') (rest.length + 1) (layC (((m1, m2, m3), u) :: rest).reverse)) := Lib.hid (by rw [show rest.length = N by rw [← HN.out, List.length_reverse], List.reverse_cons]; exact HO'.out)
              rcases hw3 with hw | ⟨rfl, hw⟩ | ⟨rfl, rfl, hw⟩
              · skip
                have hwb : (m1 == n1) = false := by simp [hw]
                go_upto_region 9 with fail
                first
                  | go_quiet (fail)
                  | go_region_with (fail)
                all_goals
                  rcases HNd.out with rfl | rfl | rfl | rfl
                  · skip
                    have TG := Lib.hid fun w => specGcd_of 4 0 4 (by decide) (by omega) (by omega) w
                    go_upto_region 12 with fail
                    go_cut [] (fun wx => Blk wx (wr.heap.size) [.int .i64 n1, .int .i64 n2, .int .i64 0, .int .i64 0] ∧ Acc wr wx)
                    case first =>
                      go_region_with (go_at_call 26; refine (TG.out _).mono ?_; rintro e W9 ⟨rfl, rfl⟩)
                      all_goals
                        go_wp2_with fail
                      all_goals
                        go_meet
                        and_intros
                        all_goals
                          first
                            | (refine Blk.set (vs := [.int .i64 n1, .int .i64 n2, .int .i64 0, .int .i64 q]) ?_ rfl; (repeat' (first | (with_reducible first | assumption | refine Blk.drew ?_ | refine Blk.drewN ?_ _ | apply Blk.set | (refine Blk.new ?_; focus (first | rfl | (simp; done))) | refine Blk.alloc ?_ _ | refine Blk.other ?_ ?_ _) | exact eqL rfl | (refine neB ?_; omega))); done)
                            | ((repeat' (first | (with_reducible first | assumption | refine Blk.drew ?_ | refine Blk.drewN ?_ _ | apply Blk.set | (refine Blk.new ?_; focus (first | rfl | (simp; done))) | refine Blk.alloc ?_ _ | refine Blk.other ?_ ?_ _) | exact eqL rfl | (refine neB ?_; omega))); done)
                            | ((show Acc wr _); (repeat' (first | (with_reducible first | assumption | exact Acc.refl _ | refine Acc.drew ?_ | refine Acc.drewN ?_ _ | refine Acc.alloc ?_ _ | refine Acc.setCell ?_ ?_ _) | (refine leB ?_; omega))); done)
                    case rest =>
                      obtain ⟨Bs, kawc⟩ := hcut
                      have cs := Bs.cell
                      have fs := Bs.free
                      have ls_wc := Bs.lt
                      have kawd : Acc w wc := Acc.call ka kawc
                      have ksz : w.heap.size ≤ wc.heap.size := kawd.size
                      go_wp2_with fail
                      go_roundw
                      case rel =>
                        refine ⟨k + 1, by go_num, hk1, (show Acc w _ by repeat' (first | (with_reducible first | assumption | exact Acc.refl _ | refine Acc.drew ?_ | refine Acc.drewN ?_ _ | refine Acc.alloc ?_ _ | refine Acc.setCell ?_ ?_ _) | (refine leB ?_; omega))), (fun h => by cases h), ?_⟩
                        rw [HS.out, putE_ne0 (s := ((n1, n2, 0), q)) (r := ((m1, m2, m3), u)) HNE.out (show q % 1 = 0 by omega)]
                        exact own_keep HC3.out (show Acc wr _ by repeat' (first | (with_reducible first | assumption | exact Acc.refl _ | refine Acc.drew ?_ | refine Acc.drewN ?_ _ | refine Acc.alloc ?_ _ | refine Acc.setCell ?_ ?_ _) | (refine leB ?_; omega)))
                      case measure => simp [intOf]; omega
                  · skip
                    have TG := Lib.hid fun w => specGcd_of 4 1 1 (by decide) (by omega) (by omega) w
                    go_upto_region 12 with fail
                    go_cut [] (fun wx => Blk wx (wr.heap.size) [.int .i64 n1, .int .i64 n2, .int .i64 1, .int .i64 ((q) % 4)] ∧ Acc wr wx)
                    case first =>
                      go_region_with (go_at_call 26; refine (TG.out _).mono ?_; rintro e W9 ⟨rfl, rfl⟩)
                      all_goals
                        go_wp2_with fail
                      all_goals
                        go_meet
                        and_intros
                        all_goals
                          first
                            | (refine Blk.set (vs := [.int .i64 n1, .int .i64 n2, .int .i64 1, .int .i64 q]) ?_ rfl; (repeat' (first | (with_reducible first | assumption | refine Blk.drew ?_ | refine Blk.drewN ?_ _ | apply Blk.set | (refine Blk.new ?_; focus (first | rfl | (simp; done))) | refine Blk.alloc ?_ _ | refine Blk.other ?_ ?_ _) | exact eqL rfl | (refine neB ?_; omega))); done)
                            | ((repeat' (first | (with_reducible first | assumption | refine Blk.drew ?_ | refine Blk.drewN ?_ _ | apply Blk.set | (refine Blk.new ?_; focus (first | rfl | (simp; done))) | refine Blk.alloc ?_ _ | refine Blk.other ?_ ?_ _) | exact eqL rfl | (refine neB ?_; omega))); done)
                            | ((show Acc wr _); (repeat' (first | (with_reducible first | assumption | exact Acc.refl _ | refine Acc.drew ?_ | refine Acc.drewN ?_ _ | refine Acc.alloc ?_ _ | refine Acc.setCell ?_ ?_ _) | (refine leB ?_; omega))); done)
                    case rest =>
                      obtain ⟨Bs, kawc⟩ := hcut
                      have cs := Bs.cell
                      have fs := Bs.free
                      have ls_wc := Bs.lt
                      have kawd : Acc w wc := Acc.call ka kawc
                      have ksz : w.heap.size ≤ wc.heap.size := kawd.size
                      by_cases hz : (q) % 4 = 0
                      · skip
                        go_wp2_with fail
                        go_roundw
                        case rel =>
                          refine ⟨k + 1, by go_num, hk1, (show Acc w _ by repeat' (first | (with_reducible first | assumption | exact Acc.refl _ | refine Acc.drew ?_ | refine Acc.drewN ?_ _ | refine Acc.alloc ?_ _ | refine Acc.setCell ?_ ?_ _) | (refine leB ?_; omega))), (fun h => by cases h), ?_⟩
                          rw [HS.out, putE_ne0 (s := ((n1, n2, 1), q)) (r := ((m1, m2, m3), u)) HNE.out (show q % 4 = 0 by omega)]
                          exact own_keep HC3.out (show Acc wr _ by repeat' (first | (with_reducible first | assumption | exact Acc.refl _ | refine Acc.drew ?_ | refine Acc.drewN ?_ _ | refine Acc.alloc ?_ _ | refine Acc.setCell ?_ ?_ _) | (refine leB ?_; omega)))
                        case measure => simp [intOf]; omega
                      · skip
                        have hzp : 0 < (q) % 4 := by omega
                        go_wp2_with (first | (at_builtin; refine wpList_append_own _ rfl _ _ 31 rfl w.heap.size 26 i0 (.agg #[.int .i64 0, .int .i64 0, .int .i64 0, .int .i64 0]) 4 32 Tryd.underlying31 hi0 hz0 hz1 hz2 rfl (by decide) _ _ _ rfl (own_keep HC3.out (show Acc wr _ by repeat' (first | (with_reducible first | assumption | exact Acc.refl _ | refine Acc.drew ?_ | refine Acc.drewN ?_ _ | refine Acc.alloc ?_ _ | refine Acc.setCell ?_ ?_ _) | (refine leB ?_; omega)))) ⟨wc.heap.size, 0, none⟩ 1 1 [.int .i64 n1, .int .i64 n2, .int .i64 1, .int .i64 ((q) % 4)] rfl rfl (news4B (show Blk _ (wc.heap.size) [.int .i64 n1, .int .i64 n2, .int .i64 1, .int .i64 ((q) % 4)] by repeat' (first | (with_reducible first | assumption | refine Blk.drew ?_ | refine Blk.drewN ?_ _ | apply Blk.set | (refine Blk.new ?_; focus (first | rfl | (simp; done) | (simp [drewN_size]; done))) | refine Blk.alloc ?_ _ | refine Blk.other ?_ ?_ _) | exact eqL rfl | (refine neB ?_; omega)))) (by intro u hu; simp at hu; rcases hu with rfl | rfl | rfl | rfl <;> rfl) (by unfold maxLen; omega) (by omega) (by first | omega | (simp; done) | (simp; omega)) ?_) | fail)
                        intro v' w' hown' hgrow hnil
                        have HNI := Lib.hid hnil
                        have HG := Lib.hid hgrow
                        clear hnil hgrow
                        go_wp2_with fail
                        go_roundw
                        case rel =>
                          refine ⟨k + 1, by go_num, hk1, ?_, (fun h => by first | exact HNI.out h | (have := (HNI.out.1 h).2; omega)), ?_⟩
                          · exact Below.grown (show Acc w _ by repeat' (first | (with_reducible first | assumption | exact Acc.refl _ | refine Acc.drew ?_ | refine Acc.drewN ?_ _ | refine Acc.alloc ?_ _ | refine Acc.setCell ?_ ?_ _) | (refine leB ?_; omega))) HG.out (by simp; omega) (fun g hg => own_rowN HC3.out hg)
                          · rw [HS.out, putE_ne1 (s := ((n1, n2, 1), q)) (r := ((m1, m2, m3), u)) HNE.out (show ¬ q % 4 = 0 by omega), List.reverse_cons, layC_append, List.reverse_cons]
                            exact hown'
                        case measure => simp [intOf]; omega
                  · skip
                    have TG := Lib.hid fun w => specGcd_of 4 2 2 (by decide) (by omega) (by omega) w
                    go_upto_region 12 with fail
                    go_cut [] (fun wx => Blk wx (wr.heap.size) [.int .i64 n1, .int .i64 n2, .int .i64 2, .int .i64 ((q) % 2)] ∧ Acc wr wx)
                    case first =>
                      go_region_with (go_at_call 26; refine (TG.out _).mono ?_; rintro e W9 ⟨rfl, rfl⟩)
                      all_goals
                        go_wp2_with fail
                      all_goals
                        go_meet
                        and_intros
                        all_goals
                          first
                            | (refine Blk.set (vs := [.int .i64 n1, .int .i64 n2, .int .i64 2, .int .i64 q]) ?_ rfl; (repeat' (first | (with_reducible first | assumption | refine Blk.drew ?_ | refine Blk.drewN ?_ _ | apply Blk.set | (refine Blk.new ?_; focus (first | rfl | (simp; done))) | refine Blk.alloc ?_ _ | refine Blk.other ?_ ?_ _) | exact eqL rfl | (refine neB ?_; omega))); done)
                            | ((repeat' (first | (with_reducible first | assumption | refine Blk.drew ?_ | refine Blk.drewN ?_ _ | apply Blk.set | (refine Blk.new ?_; focus (first | rfl | (simp; done))) | refine Blk.alloc ?_ _ | refine Blk.other ?_ ?_ _) | exact eqL rfl | (refine neB ?_; omega))); done)
                            | ((show Acc wr _); (repeat' (first | (with_reducible first | assumption | exact Acc.refl _ | refine Acc.drew ?_ | refine Acc.drewN ?_ _ | refine Acc.alloc ?_ _ | refine Acc.setCell ?_ ?_ _) | (refine leB ?_; omega))); done)
                    case rest =>
                      obtain ⟨Bs, kawc⟩ := hcut
                      have cs := Bs.cell
                      have fs := Bs.free
                      have ls_wc := Bs.lt
                      have kawd : Acc w wc := Acc.call ka kawc
                      have ksz : w.heap.size ≤ wc.heap.size := kawd.size
                      by_cases hz : (q) % 2 = 0
                      · skip
                        go_wp2_with fail
                        go_roundw
                        case rel =>
                          refine ⟨k + 1, by go_num, hk1, (show Acc w _ by repeat' (first | (with_reducible first | assumption | exact Acc.refl _ | refine Acc.drew ?_ | refine Acc.drewN ?_ _ | refine Acc.alloc ?_ _ | refine Acc.setCell ?_ ?_ _) | (refine leB ?_; omega))), (fun h => by cases h), ?_⟩
                          rw [HS.out, putE_ne0 (s := ((n1, n2, 2), q)) (r := ((m1, m2, m3), u)) HNE.out (show q % 2 = 0 by omega)]
                          exact own_keep HC3.out (show Acc wr _ by repeat' (first | (with_reducible first | assumption | exact Acc.refl _ | refine Acc.drew ?_ | refine Acc.drewN ?_ _ | refine Acc.alloc ?_ _ | refine Acc.setCell ?_ ?_ _) | (refine leB ?_; omega)))
                        case measure => simp [intOf]; omega
                      · skip
                        have hzp : 0 < (q) % 2 := by omega
                        go_wp2_with (first | (at_builtin; refine wpList_append_own _ rfl _ _ 31 rfl w.heap.size 26 i0 (.agg #[.int .i64 0, .int .i64 0, .int .i64 0, .int .i64 0]) 4 32 Tryd.underlying31 hi0 hz0 hz1 hz2 rfl (by decide) _ _ _ rfl (own_keep HC3.out (show Acc wr _ by repeat' (first | (with_reducible first | assumption | exact Acc.refl _ | refine Acc.drew ?_ | refine Acc.drewN ?_ _ | refine Acc.alloc ?_ _ | refine Acc.setCell ?_ ?_ _) | (refine leB ?_; omega)))) ⟨wc.heap.size, 0, none⟩ 1 1 [.int .i64 n1, .int .i64 n2, .int .i64 2, .int .i64 ((q) % 2)] rfl rfl (news4B (show Blk _ (wc.heap.size) [.int .i64 n1, .int .i64 n2, .int .i64 2, .int .i64 ((q) % 2)] by repeat' (first | (with_reducible first | assumption | refine Blk.drew ?_ | refine Blk.drewN ?_ _ | apply Blk.set | (refine Blk.new ?_; focus (first | rfl | (simp; done) | (simp [drewN_size]; done))) | refine Blk.alloc ?_ _ | refine Blk.other ?_ ?_ _) | exact eqL rfl | (refine neB ?_; omega)))) (by intro u hu; simp at hu; rcases hu with rfl | rfl | rfl | rfl <;> rfl) (by unfold maxLen; omega) (by omega) (by first | omega | (simp; done) | (simp; omega)) ?_) | fail)
                        intro v' w' hown' hgrow hnil
                        have HNI := Lib.hid hnil
                        have HG := Lib.hid hgrow
                        clear hnil hgrow
                        go_wp2_with fail
                        go_roundw
                        case rel =>
                          refine ⟨k + 1, by go_num, hk1, ?_, (fun h => by first | exact HNI.out h | (have := (HNI.out.1 h).2; omega)), ?_⟩
                          · exact Below.grown (show Acc w _ by repeat' (first | (with_reducible first | assumption | exact Acc.refl _ | refine Acc.drew ?_ | refine Acc.drewN ?_ _ | refine Acc.alloc ?_ _ | refine Acc.setCell ?_ ?_ _) | (refine leB ?_; omega))) HG.out (by simp; omega) (fun g hg => own_rowN HC3.out hg)
                          · rw [HS.out, putE_ne1 (s := ((n1, n2, 2), q)) (r := ((m1, m2, m3), u)) HNE.out (show ¬ q % 2 = 0 by omega), List.reverse_cons, layC_append, List.reverse_cons]
                            exact hown'
                        case measure => simp [intOf]; omega
                  · skip
                    have TG := Lib.hid fun w => specGcd_of 4 3 1 (by decide) (by omega) (by omega) w
                    go_upto_region 12 with fail
                    go_cut [] (fun wx => Blk wx (wr.heap.size) [.int .i64 n1, .int .i64 n2, .int .i64 3, .int .i64 ((q) % 4)] ∧ Acc wr wx)
                    case first =>
                      go_region_with (go_at_call 26; refine (TG.out _).mono ?_; rintro e W9 ⟨rfl, rfl⟩)
                      all_goals
                        go_wp2_with fail
                      all_goals
                        go_meet
                        and_intros
                        all_goals
                          first
                            | (refine Blk.set (vs := [.int .i64 n1, .int .i64 n2, .int .i64 3, .int .i64 q]) ?_ rfl; (repeat' (first | (with_reducible first | assumption | refine Blk.drew ?_ | refine Blk.drewN ?_ _ | apply Blk.set | (refine Blk.new ?_; focus (first | rfl | (simp; done))) | refine Blk.alloc ?_ _ | refine Blk.other ?_ ?_ _) | exact eqL rfl | (refine neB ?_; omega))); done)
                            | ((repeat' (first | (with_reducible first | assumption | refine Blk.drew ?_ | refine Blk.drewN ?_ _ | apply Blk.set | (refine Blk.new ?_; focus (first | rfl | (simp; done))) | refine Blk.alloc ?_ _ | refine Blk.other ?_ ?_ _) | exact eqL rfl | (refine neB ?_; omega))); done)
                            | ((show Acc wr _); (repeat' (first | (with_reducible first | assumption | exact Acc.refl _ | refine Acc.drew ?_ | refine Acc.drewN ?_ _ | refine Acc.alloc ?_ _ | refine Acc.setCell ?_ ?_ _) | (refine leB ?_; omega))); done)
                    case rest =>
                      obtain ⟨Bs, kawc⟩ := hcut
                      have cs := Bs.cell
                      have fs := Bs.free
                      have ls_wc := Bs.lt
                      have kawd : Acc w wc := Acc.call ka kawc
                      have ksz : w.heap.size ≤ wc.heap.size := kawd.size
                      by_cases hz : (q) % 4 = 0
                      · skip
                        go_wp2_with fail
                        go_roundw
                        case rel =>
                          refine ⟨k + 1, by go_num, hk1, (show Acc w _ by repeat' (first | (with_reducible first | assumption | exact Acc.refl _ | refine Acc.drew ?_ | refine Acc.drewN ?_ _ | refine Acc.alloc ?_ _ | refine Acc.setCell ?_ ?_ _) | (refine leB ?_; omega))), (fun h => by cases h), ?_⟩
                          rw [HS.out, putE_ne0 (s := ((n1, n2, 3), q)) (r := ((m1, m2, m3), u)) HNE.out (show q % 4 = 0 by omega)]
                          exact own_keep HC3.out (show Acc wr _ by repeat' (first | (with_reducible first | assumption | exact Acc.refl _ | refine Acc.drew ?_ | refine Acc.drewN ?_ _ | refine Acc.alloc ?_ _ | refine Acc.setCell ?_ ?_ _) | (refine leB ?_; omega)))
                        case measure => simp [intOf]; omega
                      · skip
                        have hzp : 0 < (q) % 4 := by omega
                        go_wp2_with (first | (at_builtin; refine wpList_append_own _ rfl _ _ 31 rfl w.heap.size 26 i0 (.agg #[.int .i64 0, .int .i64 0, .int .i64 0, .int .i64 0]) 4 32 Tryd.underlying31 hi0 hz0 hz1 hz2 rfl (by decide) _ _ _ rfl (own_keep HC3.out (show Acc wr _ by repeat' (first | (with_reducible first | assumption | exact Acc.refl _ | refine Acc.drew ?_ | refine Acc.drewN ?_ _ | refine Acc.alloc ?_ _ | refine Acc.setCell ?_ ?_ _) | (refine leB ?_; omega)))) ⟨wc.heap.size, 0, none⟩ 1 1 [.int .i64 n1, .int .i64 n2, .int .i64 3, .int .i64 ((q) % 4)] rfl rfl (news4B (show Blk _ (wc.heap.size) [.int .i64 n1, .int .i64 n2, .int .i64 3, .int .i64 ((q) % 4)] by repeat' (first | (with_reducible first | assumption | refine Blk.drew ?_ | refine Blk.drewN ?_ _ | apply Blk.set | (refine Blk.new ?_; focus (first | rfl | (simp; done) | (simp [drewN_size]; done))) | refine Blk.alloc ?_ _ | refine Blk.other ?_ ?_ _) | exact eqL rfl | (refine neB ?_; omega)))) (by intro u hu; simp at hu; rcases hu with rfl | rfl | rfl | rfl <;> rfl) (by unfold maxLen; omega) (by omega) (by first | omega | (simp; done) | (simp; omega)) ?_) | fail)
                        intro v' w' hown' hgrow hnil
                        have HNI := Lib.hid hnil
                        have HG := Lib.hid hgrow
                        clear hnil hgrow
                        go_wp2_with fail
                        go_roundw
                        case rel =>
                          refine ⟨k + 1, by go_num, hk1, ?_, (fun h => by first | exact HNI.out h | (have := (HNI.out.1 h).2; omega)), ?_⟩
                          · exact Below.grown (show Acc w _ by repeat' (first | (with_reducible first | assumption | exact Acc.refl _ | refine Acc.drew ?_ | refine Acc.drewN ?_ _ | refine Acc.alloc ?_ _ | refine Acc.setCell ?_ ?_ _) | (refine leB ?_; omega))) HG.out (by simp; omega) (fun g hg => own_rowN HC3.out hg)
                          · rw [HS.out, putE_ne1 (s := ((n1, n2, 3), q)) (r := ((m1, m2, m3), u)) HNE.out (show ¬ q % 4 = 0 by omega), List.reverse_cons, layC_append, List.reverse_cons]
                            exact hown'
                        case measure => simp [intOf]; omega
              · skip
                have hwb : (m2 == n2) = false := by simp [hw]
                go_upto_region 9 with fail
                first
                  | go_quiet (fail)
                  | go_region_with (fail)
                all_goals
                  rcases HNd.out with rfl | rfl | rfl | rfl
                  · skip
                    have TG := Lib.hid fun w => specGcd_of 4 0 4 (by decide) (by omega) (by omega) w
                    go_upto_region 12 with fail
                    go_cut [] (fun wx => Blk wx (wr.heap.size) [.int .i64 m1, .int .i64 n2, .int .i64 0, .int .i64 0] ∧ Acc wr wx)
                    case first =>
                      go_region_with (go_at_call 26; refine (TG.out _).mono ?_; rintro e W9 ⟨rfl, rfl⟩)
                      all_goals
                        go_wp2_with fail
                      all_goals
                        go_meet
                        and_intros
                        all_goals
                          first
                            | (refine Blk.set (vs := [.int .i64 m1, .int .i64 n2, .int .i64 0, .int .i64 q]) ?_ rfl; (repeat' (first | (with_reducible first | assumption | refine Blk.drew ?_ | refine Blk.drewN ?_ _ | apply Blk.set | (refine Blk.new ?_; focus (first | rfl | (simp; done))) | refine Blk.alloc ?_ _ | refine Blk.other ?_ ?_ _) | exact eqL rfl | (refine neB ?_; omega))); done)
                            | ((repeat' (first | (with_reducible first | assumption | refine Blk.drew ?_ | refine Blk.drewN ?_ _ | apply Blk.set | (refine Blk.new ?_; focus (first | rfl | (simp; done))) | refine Blk.alloc ?_ _ | refine Blk.other ?_ ?_ _) | exact eqL rfl | (refine neB ?_; omega))); done)
                            | ((show Acc wr _); (repeat' (first | (with_reducible first | assumption | exact Acc.refl _ | refine Acc.drew ?_ | refine Acc.drewN ?_ _ | refine Acc.alloc ?_ _ | refine Acc.setCell ?_ ?_ _) | (refine leB ?_; omega))); done)
                    case rest =>
                      obtain ⟨Bs, kawc⟩ := hcut
                      have cs := Bs.cell
                      have fs := Bs.free
                      have ls_wc := Bs.lt
                      have kawd : Acc w wc := Acc.call ka kawc
                      have ksz : w.heap.size ≤ wc.heap.size := kawd.size
                      go_wp2_with fail
                      go_roundw
                      case rel =>
                        refine ⟨k + 1, by go_num, hk1, (show Acc w _ by repeat' (first | (with_reducible first | assumption | exact Acc.refl _ | refine Acc.drew ?_ | refine Acc.drewN ?_ _ | refine Acc.alloc ?_ _ | refine Acc.setCell ?_ ?_ _) | (refine leB ?_; omega))), (fun h => by cases h), ?_⟩
                        rw [HS.out, putE_ne0 (s := ((m1, n2, 0), q)) (r := ((m1, m2, m3), u)) HNE.out (show q % 1 = 0 by omega)]
                        exact own_keep HC3.out (show Acc wr _ by repeat' (first | (with_reducible first | assumption | exact Acc.refl _ | refine Acc.drew ?_ | refine Acc.drewN ?_ _ | refine Acc.alloc ?_ _ | refine Acc.setCell ?_ ?_ _) | (refine leB ?_; omega)))
                      case measure => simp [intOf]; omega
                  · skip
                    have TG := Lib.hid fun w => specGcd_of 4 1 1 (by decide) (by omega) (by omega) w
                    go_upto_region 12 with fail
                    go_cut [] (fun wx => Blk wx (wr.heap.size) [.int .i64 m1, .int .i64 n2, .int .i64 1, .int .i64 ((q) % 4)] ∧ Acc wr wx)
                    case first =>
                      go_region_with (go_at_call 26; refine (TG.out _).mono ?_; rintro e W9 ⟨rfl, rfl⟩)
                      all_goals
                        go_wp2_with fail
                      all_goals
                        go_meet
                        and_intros
                        all_goals
                          first
                            | (refine Blk.set (vs := [.int .i64 m1, .int .i64 n2, .int .i64 1, .int .i64 q]) ?_ rfl; (repeat' (first | (with_reducible first | assumption | refine Blk.drew ?_ | refine Blk.drewN ?_ _ | apply Blk.set | (refine Blk.new ?_; focus (first | rfl | (simp; done))) | refine Blk.alloc ?_ _ | refine Blk.other ?_ ?_ _) | exact eqL rfl | (refine neB ?_; omega))); done)
                            | ((repeat' (first | (with_reducible first | assumption | refine Blk.drew ?_ | refine Blk.drewN ?_ _ | apply Blk.set | (refine Blk.new ?_; focus (first | rfl | (simp; done))) | refine Blk.alloc ?_ _ | refine Blk.other ?_ ?_ _) | exact eqL rfl | (refine neB ?_; omega))); done)
                            | ((show Acc wr _); (repeat' (first | (with_reducible first | assumption | exact Acc.refl _ | refine Acc.drew ?_ | refine Acc.drewN ?_ _ | refine Acc.alloc ?_ _ | refine Acc.setCell ?_ ?_ _) | (refine leB ?_; omega))); done)
                    case rest =>
                      obtain ⟨Bs, kawc⟩ := hcut
                      have cs := Bs.cell
                      have fs := Bs.free
                      have ls_wc := Bs.lt
                      have kawd : Acc w wc := Acc.call ka kawc
                      have ksz : w.heap.size ≤ wc.heap.size := kawd.size
                      by_cases hz : (q) % 4 = 0
                      · skip
                        go_wp2_with fail
                        go_roundw
                        case rel =>
                          refine ⟨k + 1, by go_num, hk1, (show Acc w _ by repeat' (first | (with_reducible first | assumption | exact Acc.refl _ | refine Acc.drew ?_ | refine Acc.drewN ?_ _ | refine Acc.alloc ?_ _ | refine Acc.setCell ?_ ?_ _) | (refine leB ?_; omega))), (fun h => by cases h), ?_⟩
                          rw [HS.out, putE_ne0 (s := ((m1, n2, 1), q)) (r := ((m1, m2, m3), u)) HNE.out (show q % 4 = 0 by omega)]
                          exact own_keep HC3.out (show Acc wr _ by repeat' (first | (with_reducible first | assumption | exact Acc.refl _ | refine Acc.drew ?_ | refine Acc.drewN ?_ _ | refine Acc.alloc ?_ _ | refine Acc.setCell ?_ ?_ _) | (refine leB ?_; omega)))
                        case measure => simp [intOf]; omega
                      · skip
                        have hzp : 0 < (q) % 4 := by omega
                        go_wp2_with (first | (at_builtin; refine wpList_append_own _ rfl _ _ 31 rfl w.heap.size 26 i0 (.agg #[.int .i64 0, .int .i64 0, .int .i64 0, .int .i64 0]) 4 32 Tryd.underlying31 hi0 hz0 hz1 hz2 rfl (by decide) _ _ _ rfl (own_keep HC3.out (show Acc wr _ by repeat' (first | (with_reducible first | assumption | exact Acc.refl _ | refine Acc.drew ?_ | refine Acc.drewN ?_ _ | refine Acc.alloc ?_ _ | refine Acc.setCell ?_ ?_ _) | (refine leB ?_; omega)))) ⟨wc.heap.size, 0, none⟩ 1 1 [.int .i64 m1, .int .i64 n2, .int .i64 1, .int .i64 ((q) % 4)] rfl rfl (news4B (show Blk _ (wc.heap.size) [.int .i64 m1, .int .i64 n2, .int .i64 1, .int .i64 ((q) % 4)] by repeat' (first | (with_reducible first | assumption | refine Blk.drew ?_ | refine Blk.drewN ?_ _ | apply Blk.set | (refine Blk.new ?_; focus (first | rfl | (simp; done) | (simp [drewN_size]; done))) | refine Blk.alloc ?_ _ | refine Blk.other ?_ ?_ _) | exact eqL rfl | (refine neB ?_; omega)))) (by intro u hu; simp at hu; rcases hu with rfl | rfl | rfl | rfl <;> rfl) (by unfold maxLen; omega) (by omega) (by first | omega | (simp; done) | (simp; omega)) ?_) | fail)
                        intro v' w' hown' hgrow hnil
                        have HNI := Lib.hid hnil
                        have HG := Lib.hid hgrow
                        clear hnil hgrow
                        go_wp2_with fail
                        go_roundw
                        case rel =>
                          refine ⟨k + 1, by go_num, hk1, ?_, (fun h => by first | exact HNI.out h | (have := (HNI.out.1 h).2; omega)), ?_⟩
                          · exact Below.grown (show Acc w _ by repeat' (first | (with_reducible first | assumption | exact Acc.refl _ | refine Acc.drew ?_ | refine Acc.drewN ?_ _ | refine Acc.alloc ?_ _ | refine Acc.setCell ?_ ?_ _) | (refine leB ?_; omega))) HG.out (by simp; omega) (fun g hg => own_rowN HC3.out hg)
                          · rw [HS.out, putE_ne1 (s := ((m1, n2, 1), q)) (r := ((m1, m2, m3), u)) HNE.out (show ¬ q % 4 = 0 by omega), List.reverse_cons, layC_append, List.reverse_cons]
                            exact hown'
                        case measure => simp [intOf]; omega
                  · skip
                    have TG := Lib.hid fun w => specGcd_of 4 2 2 (by decide) (by omega) (by omega) w
                    go_upto_region 12 with fail
                    go_cut [] (fun wx => Blk wx (wr.heap.size) [.int .i64 m1, .int .i64 n2, .int .i64 2, .int .i64 ((q) % 2)] ∧ Acc wr wx)
                    case first =>
                      go_region_with (go_at_call 26; refine (TG.out _).mono ?_; rintro e W9 ⟨rfl, rfl⟩)
                      all_goals
                        go_wp2_with fail
                      all_goals
                        go_meet
                        and_intros
                        all_goals
                          first
                            | (refine Blk.set (vs := [.int .i64 m1, .int .i64 n2, .int .i64 2, .int .i64 q]) ?_ rfl; (repeat' (first | (with_reducible first | assumption | refine Blk.drew ?_ | refine Blk.drewN ?_ _ | apply Blk.set | (refine Blk.new ?_; focus (first | rfl | (simp; done))) | refine Blk.alloc ?_ _ | refine Blk.other ?_ ?_ _) | exact eqL rfl | (refine neB ?_; omega))); done)
                            | ((repeat' (first | (with_reducible first | assumption | refine Blk.drew ?_ | refine Blk.drewN ?_ _ | apply Blk.set | (refine Blk.new ?_; focus (first | rfl | (simp; done))) | refine Blk.alloc ?_ _ | refine Blk.other ?_ ?_ _) | exact eqL rfl | (refine neB ?_; omega))); done)
                            | ((show Acc wr _); (repeat' (first | (with_reducible first | assumption | exact Acc.refl _ | refine Acc.drew ?_ | refine Acc.drewN ?_ _ | refine Acc.alloc ?_ _ | refine Acc.setCell ?_ ?_ _) | (refine leB ?_; omega))); done)
                    case rest =>
                      obtain ⟨Bs, kawc⟩ := hcut
                      have cs := Bs.cell
                      have fs := Bs.free
                      have ls_wc := Bs.lt
                      have kawd : Acc w wc := Acc.call ka kawc
                      have ksz : w.heap.size ≤ wc.heap.size := kawd.size
                      by_cases hz : (q) % 2 = 0
                      · skip
                        go_wp2_with fail
                        go_roundw
                        case rel =>
                          refine ⟨k + 1, by go_num, hk1, (show Acc w _ by repeat' (first | (with_reducible first | assumption | exact Acc.refl _ | refine Acc.drew ?_ | refine Acc.drewN ?_ _ | refine Acc.alloc ?_ _ | refine Acc.setCell ?_ ?_ _) | (refine leB ?_; omega))), (fun h => by cases h), ?_⟩
                          rw [HS.out, putE_ne0 (s := ((m1, n2, 2), q)) (r := ((m1, m2, m3), u)) HNE.out (show q % 2 = 0 by omega)]
                          exact own_keep HC3.out (show Acc wr _ by repeat' (first | (with_reducible first | assumption | exact Acc.refl _ | refine Acc.drew ?_ | refine Acc.drewN ?_ _ | refine Acc.alloc ?_ _ | refine Acc.setCell ?_ ?_ _) | (refine leB ?_; omega)))
                        case measure => simp [intOf]; omega
                      · skip
                        have hzp : 0 < (q) % 2 := by omega
                        go_wp2_with (first | (at_builtin; refine wpList_append_own _ rfl _ _ 31 rfl w.heap.size 26 i0 (.agg #[.int .i64 0, .int .i64 0, .int .i64 0, .int .i64 0]) 4 32 Tryd.underlying31 hi0 hz0 hz1 hz2 rfl (by decide) _ _ _ rfl (own_keep HC3.out (show Acc wr _ by repeat' (first | (with_reducible first | assumption | exact Acc.refl _ | refine Acc.drew ?_ | refine Acc.drewN ?_ _ | refine Acc.alloc ?_ _ | refine Acc.setCell ?_ ?_ _) | (refine leB ?_; omega)))) ⟨wc.heap.size, 0, none⟩ 1 1 [.int .i64 m1, .int .i64 n2, .int .i64 2, .int .i64 ((q) % 2)] rfl rfl (news4B (show Blk _ (wc.heap.size) [.int .i64 m1, .int .i64 n2, .int .i64 2, .int .i64 ((q) % 2)] by repeat' (first | (with_reducible first | assumption | refine Blk.drew ?_ | refine Blk.drewN ?_ _ | apply Blk.set | (refine Blk.new ?_; focus (first | rfl | (simp; done) | (simp [drewN_size]; done))) | refine Blk.alloc ?_ _ | refine Blk.other ?_ ?_ _) | exact eqL rfl | (refine neB ?_; omega)))) (by intro u hu; simp at hu; rcases hu with rfl | rfl | rfl | rfl <;> rfl) (by unfold maxLen; omega) (by omega) (by first | omega | (simp; done) | (simp; omega)) ?_) | fail)
                        intro v' w' hown' hgrow hnil
                        have HNI := Lib.hid hnil
                        have HG := Lib.hid hgrow
                        clear hnil hgrow
                        go_wp2_with fail
                        go_roundw
                        case rel =>
                          refine ⟨k + 1, by go_num, hk1, ?_, (fun h => by first | exact HNI.out h | (have := (HNI.out.1 h).2; omega)), ?_⟩
                          · exact Below.grown (show Acc w _ by repeat' (first | (with_reducible first | assumption | exact Acc.refl _ | refine Acc.drew ?_ | refine Acc.drewN ?_ _ | refine Acc.alloc ?_ _ | refine Acc.setCell ?_ ?_ _) | (refine leB ?_; omega))) HG.out (by simp; omega) (fun g hg => own_rowN HC3.out hg)
                          · rw [HS.out, putE_ne1 (s := ((m1, n2, 2), q)) (r := ((m1, m2, m3), u)) HNE.out (show ¬ q % 2 = 0 by omega), List.reverse_cons, layC_append, List.reverse_cons]
                            exact hown'
                        case measure => simp [intOf]; omega
                  · skip
                    have TG := Lib.hid fun w => specGcd_of 4 3 1 (by decide) (by omega) (by omega) w
                    go_upto_region 12 with fail
                    go_cut [] (fun wx => Blk wx (wr.heap.size) [.int .i64 m1, .int .i64 n2, .int .i64 3, .int .i64 ((q) % 4)] ∧ Acc wr wx)
                    case first =>
                      go_region_with (go_at_call 26; refine (TG.out _).mono ?_; rintro e W9 ⟨rfl, rfl⟩)
                      all_goals
                        go_wp2_with fail
                      all_goals
                        go_meet
                        and_intros
                        all_goals
                          first
                            | (refine Blk.set (vs := [.int .i64 m1, .int .i64 n2, .int .i64 3, .int .i64 q]) ?_ rfl; (repeat' (first | (with_reducible first | assumption | refine Blk.drew ?_ | refine Blk.drewN ?_ _ | apply Blk.set | (refine Blk.new ?_; focus (first | rfl | (simp; done))) | refine Blk.alloc ?_ _ | refine Blk.other ?_ ?_ _) | exact eqL rfl | (refine neB ?_; omega))); done)
                            | ((repeat' (first | (with_reducible first | assumption | refine Blk.drew ?_ | refine Blk.drewN ?_ _ | apply Blk.set | (refine Blk.new ?_; focus (first | rfl | (simp; done))) | refine Blk.alloc ?_ _ | refine Blk.other ?_ ?_ _) | exact eqL rfl | (refine neB ?_; omega))); done)
                            | ((show Acc wr _); (repeat' (first | (with_reducible first | assumption | exact Acc.refl _ | refine Acc.drew ?_ | refine Acc.drewN ?_ _ | refine Acc.alloc ?_ _ | refine Acc.setCell ?_ ?_ _) | (refine leB ?_; omega))); done)
                    case rest =>
                      obtain ⟨Bs, kawc⟩ := hcut
                      have cs := Bs.cell
                      have fs := Bs.free
                      have ls_wc := Bs.lt
                      have kawd : Acc w wc := Acc.call ka kawc
                      have ksz : w.heap.size ≤ wc.heap.size := kawd.size
                      by_cases hz : (q) % 4 = 0
                      · skip
                        go_wp2_with fail
                        go_roundw
                        case rel =>
                          refine ⟨k + 1, by go_num, hk1, (show Acc w _ by repeat' (first | (with_reducible first | assumption | exact Acc.refl _ | refine Acc.drew ?_ | refine Acc.drewN ?_ _ | refine Acc.alloc ?_ _ | refine Acc.setCell ?_ ?_ _) | (refine leB ?_; omega))), (fun h => by cases h), ?_⟩
                          rw [HS.out, putE_ne0 (s := ((m1, n2, 3), q)) (r := ((m1, m2, m3), u)) HNE.out (show q % 4 = 0 by omega)]
                          exact own_keep HC3.out (show Acc wr _ by repeat' (first | (with_reducible first | assumption | exact Acc.refl _ | refine Acc.drew ?_ | refine Acc.drewN ?_ _ | refine Acc.alloc ?_ _ | refine Acc.setCell ?_ ?_ _) | (refine leB ?_; omega)))
                        case measure => simp [intOf]; omega
                      · skip
                        have hzp : 0 < (q) % 4 := by omega
                        go_wp2_with (first | (at_builtin; refine wpList_append_own _ rfl _ _ 31 rfl w.heap.size 26 i0 (.agg #[.int .i64 0, .int .i64 0, .int .i64 0, .int .i64 0]) 4 32 Tryd.underlying31 hi0 hz0 hz1 hz2 rfl (by decide) _ _ _ rfl (own_keep HC3.out (show Acc wr _ by repeat' (first | (with_reducible first | assumption | exact Acc.refl _ | refine Acc.drew ?_ | refine Acc.drewN ?_ _ | refine Acc.alloc ?_ _ | refine Acc.setCell ?_ ?_ _) | (refine leB ?_; omega)))) ⟨wc.heap.size, 0, none⟩ 1 1 [.int .i64 m1, .int .i64 n2, .int .i64 3, .int .i64 ((q) % 4)] rfl rfl (news4B (show Blk _ (wc.heap.size) [.int .i64 m1, .int .i64 n2, .int .i64 3, .int .i64 ((q) % 4)] by repeat' (first | (with_reducible first | assumption | refine Blk.drew ?_ | refine Blk.drewN ?_ _ | apply Blk.set | (refine Blk.new ?_; focus (first | rfl | (simp; done) | (simp [drewN_size]; done))) | refine Blk.alloc ?_ _ | refine Blk.other ?_ ?_ _) | exact eqL rfl | (refine neB ?_; omega)))) (by intro u hu; simp at hu; rcases hu with rfl | rfl | rfl | rfl <;> rfl) (by unfold maxLen; omega) (by omega) (by first | omega | (simp; done) | (simp; omega)) ?_) | fail)
                        intro v' w' hown' hgrow hnil
                        have HNI := Lib.hid hnil
                        have HG := Lib.hid hgrow
                        clear hnil hgrow
                        go_wp2_with fail
                        go_roundw
                        case rel =>
                          refine ⟨k + 1, by go_num, hk1, ?_, (fun h => by first | exact HNI.out h | (have := (HNI.out.1 h).2; omega)), ?_⟩
                          · exact Below.grown (show Acc w _ by repeat' (first | (with_reducible first | assumption | exact Acc.refl _ | refine Acc.drew ?_ | refine Acc.drewN ?_ _ | refine Acc.alloc ?_ _ | refine Acc.setCell ?_ ?_ _) | (refine leB ?_; omega))) HG.out (by simp; omega) (fun g hg => own_rowN HC3.out hg)
                          · rw [HS.out, putE_ne1 (s := ((m1, n2, 3), q)) (r := ((m1, m2, m3), u)) HNE.out (show ¬ q % 4 = 0 by omega), List.reverse_cons, layC_append, List.reverse_cons]
                            exact hown'
                        case measure => simp [intOf]; omega
              · skip
                have hwb : (m3 == n3) = false := by simp [hw]
                go_upto_region 9 with fail
                first
                  | go_quiet (fail)
                  | go_region_with (fail)
                all_goals
                  rcases HNd.out with rfl | rfl | rfl | rfl
                  · skip
                    have TG := Lib.hid fun w => specGcd_of 4 0 4 (by decide) (by omega) (by omega) w
                    go_upto_region 12 with fail
                    go_cut [] (fun wx => Blk wx (wr.heap.size) [.int .i64 m1, .int .i64 m2, .int .i64 0, .int .i64 0] ∧ Acc wr wx)
                    case first =>
                      go_region_with (go_at_call 26; refine (TG.out _).mono ?_; rintro e W9 ⟨rfl, rfl⟩)
                      all_goals
                        go_wp2_with fail
                      all_goals
                        go_meet
                        and_intros
                        all_goals
                          first
                            | (refine Blk.set (vs := [.int .i64 m1, .int .i64 m2, .int .i64 0, .int .i64 q]) ?_ rfl; (repeat' (first | (with_reducible first | assumption | refine Blk.drew ?_ | refine Blk.drewN ?_ _ | apply Blk.set | (refine Blk.new ?_; focus (first | rfl | (simp; done))) | refine Blk.alloc ?_ _ | refine Blk.other ?_ ?_ _) | exact eqL rfl | (refine neB ?_; omega))); done)
                            | ((repeat' (first | (with_reducible first | assumption | refine Blk.drew ?_ | refine Blk.drewN ?_ _ | apply Blk.set | (refine Blk.new ?_; focus (first | rfl | (simp; done))) | refine Blk.alloc ?_ _ | refine Blk.other ?_ ?_ _) | exact eqL rfl | (refine neB ?_; omega))); done)
                            | ((show Acc wr _); (repeat' (first | (with_reducible first | assumption | exact Acc.refl _ | refine Acc.drew ?_ | refine Acc.drewN ?_ _ | refine Acc.alloc ?_ _ | refine Acc.setCell ?_ ?_ _) | (refine leB ?_; omega))); done)
                    case rest =>
                      obtain ⟨Bs, kawc⟩ := hcut
                      have cs := Bs.cell
                      have fs := Bs.free
                      have ls_wc := Bs.lt
                      have kawd : Acc w wc := Acc.call ka kawc
                      have ksz : w.heap.size ≤ wc.heap.size := kawd.size
                      go_wp2_with fail
                      go_roundw
                      case rel =>
                        refine ⟨k + 1, by go_num, hk1, (show Acc w _ by repeat' (first | (with_reducible first | assumption | exact Acc.refl _ | refine Acc.drew ?_ | refine Acc.drewN ?_ _ | refine Acc.alloc ?_ _ | refine Acc.setCell ?_ ?_ _) | (refine leB ?_; omega))), (fun h => by cases h), ?_⟩
                        rw [HS.out, putE_ne0 (s := ((m1, m2, 0), q)) (r := ((m1, m2, m3), u)) HNE.out (show q % 1 = 0 by omega)]
                        exact own_keep HC3.out (show Acc wr _ by repeat' (first | (with_reducible first | assumption | exact Acc.refl _ | refine Acc.drew ?_ | refine Acc.drewN ?_ _ | refine Acc.alloc ?_ _ | refine Acc.setCell ?_ ?_ _) | (refine leB ?_; omega)))
                      case measure => simp [intOf]; omega
                  · skip
                    have TG := Lib.hid fun w => specGcd_of 4 1 1 (by decide) (by omega) (by omega) w
                    go_upto_region 12 with fail
                    go_cut [] (fun wx => Blk wx (wr.heap.size) [.int .i64 m1, .int .i64 m2, .int .i64 1, .int .i64 ((q) % 4)] ∧ Acc wr wx)
                    case first =>
                      go_region_with (go_at_call 26; refine (TG.out _).mono ?_; rintro e W9 ⟨rfl, rfl⟩)
                      all_goals
                        go_wp2_with fail
                      all_goals
                        go_meet
                        and_intros
                        all_goals
                          first
                            | (refine Blk.set (vs := [.int .i64 m1, .int .i64 m2, .int .i64 1, .int .i64 q]) ?_ rfl; (repeat' (first | (with_reducible first | assumption | refine Blk.drew ?_ | refine Blk.drewN ?_ _ | apply Blk.set | (refine Blk.new ?_; focus (first | rfl | (simp; done))) | refine Blk.alloc ?_ _ | refine Blk.other ?_ ?_ _) | exact eqL rfl | (refine neB ?_; omega))); done)
                            | ((repeat' (first | (with_reducible first | assumption | refine Blk.drew ?_ | refine Blk.drewN ?_ _ | apply Blk.set | (refine Blk.new ?_; focus (first | rfl | (simp; done))) | refine Blk.alloc ?_ _ | refine Blk.other ?_ ?_ _) | exact eqL rfl | (refine neB ?_; omega))); done)
                            | ((show Acc wr _); (repeat' (first | (with_reducible first | assumption | exact Acc.refl _ | refine Acc.drew ?_ | refine Acc.drewN ?_ _ | refine Acc.alloc ?_ _ | refine Acc.setCell ?_ ?_ _) | (refine leB ?_; omega))); done)
                    case rest =>
                      obtain ⟨Bs, kawc⟩ := hcut
                      have cs := Bs.cell
                      have fs := Bs.free
                      have ls_wc := Bs.lt
                      have kawd : Acc w wc := Acc.call ka kawc
                      have ksz : w.heap.size ≤ wc.heap.size := kawd.size
                      by_cases hz : (q) % 4 = 0
                      · skip
                        go_wp2_with fail
                        go_roundw
                        case rel =>
                          refine ⟨k + 1, by go_num, hk1, (show Acc w _ by repeat' (first | (with_reducible first | assumption | exact Acc.refl _ | refine Acc.drew ?_ | refine Acc.drewN ?_ _ | refine Acc.alloc ?_ _ | refine Acc.setCell ?_ ?_ _) | (refine leB ?_; omega))), (fun h => by cases h), ?_⟩
                          rw [HS.out, putE_ne0 (s := ((m1, m2, 1), q)) (r := ((m1, m2, m3), u)) HNE.out (show q % 4 = 0 by omega)]
                          exact own_keep HC3.out (show Acc wr _ by repeat' (first | (with_reducible first | assumption | exact Acc.refl _ | refine Acc.drew ?_ | refine Acc.drewN ?_ _ | refine Acc.alloc ?_ _ | refine Acc.setCell ?_ ?_ _) | (refine leB ?_; omega)))
                        case measure => simp [intOf]; omega
                      · skip
                        have hzp : 0 < (q) % 4 := by omega
                        go_wp2_with (first | (at_builtin; refine wpList_append_own _ rfl _ _ 31 rfl w.heap.size 26 i0 (.agg #[.int .i64 0, .int .i64 0, .int .i64 0, .int .i64 0]) 4 32 Tryd.underlying31 hi0 hz0 hz1 hz2 rfl (by decide) _ _ _ rfl (own_keep HC3.out (show Acc wr _ by repeat' (first | (with_reducible first | assumption | exact Acc.refl _ | refine Acc.drew ?_ | refine Acc.drewN ?_ _ | refine Acc.alloc ?_ _ | refine Acc.setCell ?_ ?_ _) | (refine leB ?_; omega)))) ⟨wc.heap.size, 0, none⟩ 1 1 [.int .i64 m1, .int .i64 m2, .int .i64 1, .int .i64 ((q) % 4)] rfl rfl (news4B (show Blk _ (wc.heap.size) [.int .i64 m1, .int .i64 m2, .int .i64 1, .int .i64 ((q) % 4)] by repeat' (first | (with_reducible first | assumption | refine Blk.drew ?_ | refine Blk.drewN ?_ _ | apply Blk.set | (refine Blk.new ?_; focus (first | rfl | (simp; done) | (simp [drewN_size]; done))) | refine Blk.alloc ?_ _ | refine Blk.other ?_ ?_ _) | exact eqL rfl | (refine neB ?_; omega)))) (by intro u hu; simp at hu; rcases hu with rfl | rfl | rfl | rfl <;> rfl) (by unfold maxLen; omega) (by omega) (by first | omega | (simp; done) | (simp; omega)) ?_) | fail)
                        intro v' w' hown' hgrow hnil
                        have HNI := Lib.hid hnil
                        have HG := Lib.hid hgrow
                        clear hnil hgrow
                        go_wp2_with fail
                        go_roundw
                        case rel =>
                          refine ⟨k + 1, by go_num, hk1, ?_, (fun h => by first | exact HNI.out h | (have := (HNI.out.1 h).2; omega)), ?_⟩
                          · exact Below.grown (show Acc w _ by repeat' (first | (with_reducible first | assumption | exact Acc.refl _ | refine Acc.drew ?_ | refine Acc.drewN ?_ _ | refine Acc.alloc ?_ _ | refine Acc.setCell ?_ ?_ _) | (refine leB ?_; omega))) HG.out (by simp; omega) (fun g hg => own_rowN HC3.out hg)
                          · rw [HS.out, putE_ne1 (s := ((m1, m2, 1), q)) (r := ((m1, m2, m3), u)) HNE.out (show ¬ q % 4 = 0 by omega), List.reverse_cons, layC_append, List.reverse_cons]
                            exact hown'
                        case measure => simp [intOf]; omega
                  · skip
                    have TG := Lib.hid fun w => specGcd_of 4 2 2 (by decide) (by omega) (by omega) w
                    go_upto_region 12 with fail
                    go_cut [] (fun wx => Blk wx (wr.heap.size) [.int .i64 m1, .int .i64 m2, .int .i64 2, .int .i64 ((q) % 2)] ∧ Acc wr wx)
                    case first =>
                      go_region_with (go_at_call 26; refine (TG.out _).mono ?_; rintro e W9 ⟨rfl, rfl⟩)
                      all_goals
                        go_wp2_with fail
                      all_goals
                        go_meet
                        and_intros
                        all_goals
                          first
                            | (refine Blk.set (vs := [.int .i64 m1, .int .i64 m2, .int .i64 2, .int .i64 q]) ?_ rfl; (repeat' (first | (with_reducible first | assumption | refine Blk.drew ?_ | refine Blk.drewN ?_ _ | apply Blk.set | (refine Blk.new ?_; focus (first | rfl | (simp; done))) | refine Blk.alloc ?_ _ | refine Blk.other ?_ ?_ _) | exact eqL rfl | (refine neB ?_; omega))); done)
                            | ((repeat' (first | (with_reducible first | assumption | refine Blk.drew ?_ | refine Blk.drewN ?_ _ | apply Blk.set | (refine Blk.new ?_; focus (first | rfl | (simp; done))) | refine Blk.alloc ?_ _ | refine Blk.other ?_ ?_ _) | exact eqL rfl | (refine neB ?_; omega))); done)
                            | ((show Acc wr _); (repeat' (first | (with_reducible first | assumption | exact Acc.refl _ | refine Acc.drew ?_ | refine Acc.drewN ?_ _ | refine Acc.alloc ?_ _ | refine Acc.setCell ?_ ?_ _) | (refine leB ?_; omega))); done)
                    case rest =>
                      obtain ⟨Bs, kawc⟩ := hcut
                      have cs := Bs.cell
                      have fs := Bs.free
                      have ls_wc := Bs.lt
                      have kawd : Acc w wc := Acc.call ka kawc
                      have ksz : w.heap.size ≤ wc.heap.size := kawd.size
                      by_cases hz : (q) % 2 = 0
                      · skip
                        go_wp2_with fail
                        go_roundw
                        case rel =>
                          refine ⟨k + 1, by go_num, hk1, (show Acc w _ by repeat' (first | (with_reducible first | assumption | exact Acc.refl _ | refine Acc.drew ?_ | refine Acc.drewN ?_ _ | refine Acc.alloc ?_ _ | refine Acc.setCell ?_ ?_ _) | (refine leB ?_; omega))), (fun h => by cases h), ?_⟩
                          rw [HS.out, putE_ne0 (s := ((m1, m2, 2), q)) (r := ((m1, m2, m3), u)) HNE.out (show q % 2 = 0 by omega)]
                          exact own_keep HC3.out (show Acc wr _ by repeat' (first | (with_reducible first | assumption | exact Acc.refl _ | refine Acc.drew ?_ | refine Acc.drewN ?_ _ | refine Acc.alloc ?_ _ | refine Acc.setCell ?_ ?_ _) | (refine leB ?_; omega)))
                        case measure => simp [intOf]; omega
                      · skip
                        have hzp : 0 < (q) % 2 := by omega
                        go_wp2_with (first | (at_builtin; refine wpList_append_own _ rfl _ _ 31 rfl w.heap.size 26 i0 (.agg #[.int .i64 0, .int .i64 0, .int .i64 0, .int .i64 0]) 4 32 Tryd.underlying31 hi0 hz0 hz1 hz2 rfl (by decide) _ _ _ rfl (own_keep HC3.out (show Acc wr _ by repeat' (first | (with_reducible first | assumption | exact Acc.refl _ | refine Acc.drew ?_ | refine Acc.drewN ?_ _ | refine Acc.alloc ?_ _ | refine Acc.setCell ?_ ?_ _) | (refine leB ?_; omega)))) ⟨wc.heap.size, 0, none⟩ 1 1 [.int .i64 m1, .int .i64 m2, .int .i64 2, .int .i64 ((q) % 2)] rfl rfl (news4B (show Blk _ (wc.heap.size) [.int .i64 m1, .int .i64 m2, .int .i64 2, .int .i64 ((q) % 2)] by repeat' (first | (with_reducible first | assumption | refine Blk.drew ?_ | refine Blk.drewN ?_ _ | apply Blk.set | (refine Blk.new ?_; focus (first | rfl | (simp; done) | (simp [drewN_size]; done))) | refine Blk.alloc ?_ _ | refine Blk.other ?_ ?_ _) | exact eqL rfl | (refine neB ?_; omega)))) (by intro u hu; simp at hu; rcases hu with rfl | rfl | rfl | rfl <;> rfl) (by unfold maxLen; omega) (by omega) (by first | omega | (simp; done) | (simp; omega)) ?_) | fail)
                        intro v' w' hown' hgrow hnil
                        have HNI := Lib.hid hnil
                        have HG := Lib.hid hgrow
                        clear hnil hgrow
                        go_wp2_with fail
                        go_roundw
                        case rel =>
                          refine ⟨k + 1, by go_num, hk1, ?_, (fun h => by first | exact HNI.out h | (have := (HNI.out.1 h).2; omega)), ?_⟩
                          · exact Below.grown (show Acc w _ by repeat' (first | (with_reducible first | assumption | exact Acc.refl _ | refine Acc.drew ?_ | refine Acc.drewN ?_ _ | refine Acc.alloc ?_ _ | refine Acc.setCell ?_ ?_ _) | (refine leB ?_; omega))) HG.out (by simp; omega) (fun g hg => own_rowN HC3.out hg)
                          · rw [HS.out, putE_ne1 (s := ((m1, m2, 2), q)) (r := ((m1, m2, m3), u)) HNE.out (show ¬ q % 2 = 0 by omega), List.reverse_cons, layC_append, List.reverse_cons]
                            exact hown'
                        case measure => simp [intOf]; omega
                  · skip
                    have TG := Lib.hid fun w => specGcd_of 4 3 1 (by decide) (by omega) (by omega) w
                    go_upto_region 12 with fail
                    go_cut [] (fun wx => Blk wx (wr.heap.size) [.int .i64 m1, .int .i64 m2, .int .i64 3, .int .i64 ((q) % 4)] ∧ Acc wr wx)
                    case first =>
                      go_region_with (go_at_call 26; refine (TG.out _).mono ?_; rintro e W9 ⟨rfl, rfl⟩)
                      all_goals
                        go_wp2_with fail
                      all_goals
                        go_meet
                        and_intros
                        all_goals
                          first
                            | (refine Blk.set (vs := [.int .i64 m1, .int .i64 m2, .int .i64 3, .int .i64 q]) ?_ rfl; (repeat' (first | (with_reducible first | assumption | refine Blk.drew ?_ | refine Blk.drewN ?_ _ | apply Blk.set | (refine Blk.new ?_; focus (first | rfl | (simp; done))) | refine Blk.alloc ?_ _ | refine Blk.other ?_ ?_ _) | exact eqL rfl | (refine neB ?_; omega))); done)
                            | ((repeat' (first | (with_reducible first | assumption | refine Blk.drew ?_ | refine Blk.drewN ?_ _ | apply Blk.set | (refine Blk.new ?_; focus (first | rfl | (simp; done))) | refine Blk.alloc ?_ _ | refine Blk.other ?_ ?_ _) | exact eqL rfl | (refine neB ?_; omega))); done)
                            | ((show Acc wr _); (repeat' (first | (with_reducible first | assumption | exact Acc.refl _ | refine Acc.drew ?_ | refine Acc.drewN ?_ _ | refine Acc.alloc ?_ _ | refine Acc.setCell ?_ ?_ _) | (refine leB ?_; omega))); done)
                    case rest =>
                      obtain ⟨Bs, kawc⟩ := hcut
                      have cs := Bs.cell
                      have fs := Bs.free
                      have ls_wc := Bs.lt
                      have kawd : Acc w wc := Acc.call ka kawc
                      have ksz : w.heap.size ≤ wc.heap.size := kawd.size
                      by_cases hz : (q) % 4 = 0
                      · skip
                        go_wp2_with fail
                        go_roundw
                        case rel =>
                          refine ⟨k + 1, by go_num, hk1, (show Acc w _ by repeat' (first | (with_reducible first | assumption | exact Acc.refl _ | refine Acc.drew ?_ | refine Acc.drewN ?_ _ | refine Acc.alloc ?_ _ | refine Acc.setCell ?_ ?_ _) | (refine leB ?_; omega))), (fun h => by cases h), ?_⟩
                          rw [HS.out, putE_ne0 (s := ((m1, m2, 3), q)) (r := ((m1, m2, m3), u)) HNE.out (show q % 4 = 0 by omega)]
                          exact own_keep HC3.out (show Acc wr _ by repeat' (first | (with_reducible first | assumption | exact Acc.refl _ | refine Acc.drew ?_ | refine Acc.drewN ?_ _ | refine Acc.alloc ?_ _ | refine Acc.setCell ?_ ?_ _) | (refine leB ?_; omega)))
                        case measure => simp [intOf]; omega
                      · skip
                        have hzp : 0 < (q) % 4 := by omega
                        go_wp2_with (first | (at_builtin; refine wpList_append_own _ rfl _ _ 31 rfl w.heap.size 26 i0 (.agg #[.int .i64 0, .int .i64 0, .int .i64 0, .int .i64 0]) 4 32 Tryd.underlying31 hi0 hz0 hz1 hz2 rfl (by decide) _ _ _ rfl (own_keep HC3.out (show Acc wr _ by repeat' (first | (with_reducible first | assumption | exact Acc.refl _ | refine Acc.drew ?_ | refine Acc.drewN ?_ _ | refine Acc.alloc ?_ _ | refine Acc.setCell ?_ ?_ _) | (refine leB ?_; omega)))) ⟨wc.heap.size, 0, none⟩ 1 1 [.int .i64 m1, .int .i64 m2, .int .i64 3, .int .i64 ((q) % 4)] rfl rfl (news4B (show Blk _ (wc.heap.size) [.int .i64 m1, .int .i64 m2, .int .i64 3, .int .i64 ((q) % 4)] by repeat' (first | (with_reducible first | assumption | refine Blk.drew ?_ | refine Blk.drewN ?_ _ | apply Blk.set | (refine Blk.new ?_; focus (first | rfl | (simp; done) | (simp [drewN_size]; done))) | refine Blk.alloc ?_ _ | refine Blk.other ?_ ?_ _) | exact eqL rfl | (refine neB ?_; omega)))) (by intro u hu; simp at hu; rcases hu with rfl | rfl | rfl | rfl <;> rfl) (by unfold maxLen; omega) (by omega) (by first | omega | (simp; done) | (simp; omega)) ?_) | fail)
                        intro v' w' hown' hgrow hnil
                        have HNI := Lib.hid hnil
                        have HG := Lib.hid hgrow
                        clear hnil hgrow
                        go_wp2_with fail
                        go_roundw
                        case rel =>
                          refine ⟨k + 1, by go_num, hk1, ?_, (fun h => by first | exact HNI.out h | (have := (HNI.out.1 h).2; omega)), ?_⟩
                          · exact Below.grown (show Acc w _ by repeat' (first | (with_reducible first | assumption | exact Acc.refl _ | refine Acc.drew ?_ | refine Acc.drewN ?_ _ | refine Acc.alloc ?_ _ | refine Acc.setCell ?_ ?_ _) | (refine leB ?_; omega))) HG.out (by simp; omega) (fun g hg => own_rowN HC3.out hg)
                          · rw [HS.out, putE_ne1 (s := ((m1, m2, 3), q)) (r := ((m1, m2, m3), u)) HNE.out (show ¬ q % 4 = 0 by omega), List.reverse_cons, layC_append, List.reverse_cons]
                            exact hown'
                        case measure => simp [intOf]; omega
      · obtain rfl : k = ls.length := by omega
        have hk2 : ¬ (ls.length : Int) < (ls.length : Int) := by omega
        have HP : RowKit.Hid (wr.ownsRow w.heap.size 26 4 _ (shoE ls).reverse.length (layC (shoE ls).reverse)) := Lib.hid (by rw [List.length_reverse]; have := HO.out; rwa [List.take_length] at this)
        clear HO hi0 hz0 hz1 hz2
        go_wp2_with fail
        refine bodyPost_ret (by conv => lhs; simp [results, Tryd.results18, go_sem, *]) rfl ?_
        obtain ⟨g, hg1, hg2, hg3⟩ := Wr.of_own' (ls := (shoE ls).reverse) (fun l h => okS_i64 ((shoE_ok (fun s hs => okFb_mem V.out hs)).1 l (List.mem_reverse.1 h))) HNN.out HP.out
        exact ⟨_, g, rfl, hg1, hg2, hg3, ka⟩
end Go.Proofs.YtkiggkmbgkonmabDoor
