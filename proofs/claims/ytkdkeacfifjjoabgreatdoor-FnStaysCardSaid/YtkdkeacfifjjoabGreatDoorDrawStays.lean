/-
  The draw of FnStays.
-/
import Derived.Test.YtkdkeacfifjjoabGreatDoorBShort
import Derived.Test.YtkdkeacfifjjoabGreatDoorSpecG1
import Derived.Test.YtkdkeacfifjjoabGreatDoorBMath
import Derived.Test.YtkdkeacfifjjoabGreatDoorBLet
import Derived.Deep.RegionHeld3
namespace Go.Proofs.YtkdkeacfifjjoabGreatDoor
open Go.ChangeShapes Go.WideShapes Go.ChangeAt Go.RowKit
set_option linter.unusedVariables false

set_option linter.unusedSimpArgs false
theorem specDir_i64 (p q : Int) : ∃ cc sc : F3, i64T cc ∧ i64T sc ∧ ∀ w, Calls Tryz.prog 44 #[.int .i64 p, .int .i64 q] w fun e w' => e = .returned (.tuple #[.agg #[.int .i64 cc.1, .int .i64 cc.2.1, .int .i64 cc.2.2], .agg #[.int .i64 sc.1, .int .i64 sc.2.1, .int .i64 sc.2.2], .bool (dirB p q)]) ∧ Below w.heap.size w w' := by
  cases h : dirB p q with
  | true =>
    obtain ⟨n, x, y, -, -, -, -, -, -, -, -, o1, -, -, o2, -⟩ := dir_val h
    exact ⟨dirC p q, dirS p q, i64T_ok o1, i64T_ok o2, fun w => specDir_yes p q _ _ _ _ _ _ h rfl rfl w⟩
  | false => exact ⟨(0, 0, 0), (0, 0, 0), i64T_0, i64T_0, fun w => specDir_no p q h w⟩
theorem own_someS {w : World} {B : Nat} {e : TypeId} {v : Value} {ls : List L4} (h : w.ownsRow B e 4 v ls.length (layC ls)) (hn : v ≠ .slice none 0 0) : ∃ g cap, v = .slice (some ⟨g, 0, none⟩) ls.length cap ∧ B ≤ g := by
  rcases h.2 with ⟨rfl, h0⟩ | ⟨g, cap, cur, rfl, hB, _⟩
  · exact absurd rfl hn
  · exact ⟨g, cap, rfl, hB⟩
theorem Wr.blk {g g' n cap : Nat} {w : World} {ls : List L4} (h : Wr g w (.slice (some ⟨g', 0, none⟩) n cap) ls) (hp : 0 < ls.length) : g' = g := by
  obtain ⟨a, c, e, hi, h⟩ := h
  injection e with e1 e2 e3
  subst e1
  rcases h with h | ⟨ha, -⟩
  · rw [h] at hp; exact absurd hp (Nat.lt_irrefl _)
  · injection ha with ha
    injection ha
theorem Wr.head {g n cap : Nat} {w : World} {ls : List L4} (h : Wr g w (.slice (some ⟨g, 0, none⟩) n cap) ls) (hp : 0 < ls.length) : ∃ p q : Int, g < w.heap.size ∧ w.cell? ⟨g, 0, none⟩ = some (.int .i64 p) ∧ w.cell? ⟨g, 1, none⟩ = some (.int .i64 q) := by
  obtain ⟨c, off, hco, hc, hi, e0, e1, -⟩ := (Wr.lys2 h).at hp
  injection hco with hco
  injection hco with h1 h2
  subst h1 h2
  exact ⟨_, _, hc, by simpa using e0, by simpa using e1⟩
theorem Lys.take1 {w : World} {a : Option Addr} {ls : List L4} (h : Lys w a ls) (n : Nat) : Lys w a (ls.take n) := by
  refine ⟨fun l hl => h.1 l (List.mem_of_mem_take hl), ?_⟩
  rcases h.2 with rfl | ⟨c, off, e, hc, hx⟩
  · exact .inl (by simp)
  · refine .inr ⟨c, off, e, hc, fun i l hi => hx i l ?_⟩
    rw [List.getElem?_take] at hi
    split at hi
    · exact hi
    · cases hi
set_option maxRecDepth 100000 in
set_option maxHeartbeats 16000000 in
theorem drawFibreStays_any (a : Option Addr) (len cap : Nat) (w : World) (h : Code8 w a len cap) :
    Calls Tryz.prog 13 #[.slice a len cap] w (DrewLJ w) := by
  have H0 := Lib.hid (h.alloc (.cells #[.int .i64 0, .int .i64 0, .int .i64 0, .int .i64 0, .int .i64 0, .int .i64 0] 35))
  clear h
  go_enter Tryz.func13, Tryz.ntmps13
  go_wp2_with fail
  refine (open_any a len cap _ H0.out).mono ?_
  rintro e W1 ⟨b, rfl, hb1, bel, hr⟩
  have Br : Blk W1 (w.heap.size) [.int .i64 0, .int .i64 0, .int .i64 0, .int .i64 0, .int .i64 0, .int .i64 0] := Blk.keep bel (by repeat' (first | (with_reducible first | assumption | refine Blk.drew ?_ | refine Blk.drewN ?_ _ | apply Blk.set | (refine Blk.new ?_; focus (first | rfl | (simp; done))) | refine Blk.alloc ?_ _ | refine Blk.other ?_ ?_ _) | exact eqL rfl | (refine neB ?_; omega)))
  have cr := Br.cell
  have fr := Br.free
  have lr_W1 := Br.lt
  have kaW1 : Acc w W1 := by
    refine Acc.call ?_ bel
    (repeat' (first | (with_reducible first | assumption | exact Acc.refl _ | refine Acc.drew ?_ | refine Acc.drewN ?_ _ | refine Acc.alloc ?_ _ | refine Acc.setCell ?_ ?_ _) | (refine leB ?_; omega)))
  have lsW1 := kaW1.size
  have hb2 : w.heap.size < b := by
    simp at hb1
    omega
  have bwW1 := hr.1
  have HR := Lib.hid fun W (k : Below (b + 1) W1 W) => hr.keep k
  clear hb1 bel hr H0
  go_wp2_with fail
  refine (fibre_any b 0 _ (HR.out _ (by repeat' (first | (with_reducible first | assumption | exact Below.refl _ _ | refine Below.drew ?_ | refine below_alloc ?_ ?_ _ | refine below_set ?_ ?_ _) | (refine leB ?_; omega)))) (by omega)).mono ?_
  rintro e W2 ⟨v, ls, i, rfl, hnn, hown, hi, hl, ho, hq, hr⟩
  obtain ⟨g0, cap', rfl, -⟩ := own_someS hown hnn
  obtain ⟨g, hgg, hw⟩ := Wr.of_own hi hown
  have HWr := Lib.hid hw
  have hcp : ls.length ≤ cap' := own_cap hown rfl
  have hgb : g ≠ b := by omega
  have hgw : g ≠ w.heap.size := by omega
  clear hown hw hnn hi hgg
  have Br : Blk W2 (w.heap.size) [.int .i64 0, .int .i64 0, .int .i64 0, .int .i64 0, .int .i64 0, .int .i64 0] := Blk.keepo ho (neB (by omega)) (by repeat' (first | (with_reducible first | assumption | refine Blk.drew ?_ | refine Blk.drewN ?_ _ | apply Blk.set | (refine Blk.new ?_; focus (first | rfl | (simp; done))) | refine Blk.alloc ?_ _ | refine Blk.other ?_ ?_ _) | exact eqL rfl | (refine neB ?_; omega)))
  have cr := Br.cell
  have fr := Br.free
  have lr_W2 := Br.lt
  have kaW2 : Acc w W2 := by
    refine Below.trans (b := _) ?_ (ho.below ?_ (by omega))
    · show Acc w _
      (repeat' (first | (with_reducible first | assumption | exact Acc.refl _ | refine Acc.drew ?_ | refine Acc.drewN ?_ _ | refine Acc.alloc ?_ _ | refine Acc.setCell ?_ ?_ _) | (refine leB ?_; omega)))
    · (refine Nat.le_trans ?_ (Nat.le_of_lt_succ (Nat.lt_succ_of_le (Nat.le_refl _))); (first | omega | (simp; omega)))
  have lsW2 := kaW2.size
  have bwW2 : b < W2.heap.size := hr.1
  have HR := Lib.hid fun W (k : Below (b + 1) W2 W) => hr.keep k
  clear ho hr
  have kcW2 : Acc W2 W2 := Acc.refl _
  by_cases hz : (0 : Int) < (ls.length : Int)
  ·
    go_wp2_with fail
    refine (pick_any b i 2 _ (HR.out _ (by repeat' (first | (with_reducible first | assumption | exact Below.refl _ _ | refine Below.drew ?_ | refine below_alloc ?_ ?_ _ | refine below_set ?_ ?_ _) | (refine leB ?_; omega)))) (by omega) (by omega) (by omega)).mono ?_
    rintro e W3 ⟨t, rfl, t0, t1, ho, hr⟩
    have HWr := Lib.hid (Wr.only (Wr.keep HWr.out (show Acc W2 _ by repeat' (first | (with_reducible first | assumption | exact Acc.refl _ | refine Acc.drew ?_ | refine Acc.drewN ?_ _ | refine Acc.alloc ?_ _ | refine Acc.setCell ?_ ?_ _) | (refine leB ?_; omega)))) ho hgb)
    have Br : Blk W3 (w.heap.size) [.int .i64 0, .int .i64 0, .int .i64 0, .int .i64 0, .int .i64 0, .int .i64 0] := Blk.keepo ho (neB (by omega)) (by repeat' (first | (with_reducible first | assumption | refine Blk.drew ?_ | refine Blk.drewN ?_ _ | apply Blk.set | (refine Blk.new ?_; focus (first | rfl | (simp; done))) | refine Blk.alloc ?_ _ | refine Blk.other ?_ ?_ _) | exact eqL rfl | (refine neB ?_; omega)))
    have cr := Br.cell
    have fr := Br.free
    have lr_W3 := Br.lt
    have kaW3 : Acc w W3 := by
      refine Below.trans (b := _) ?_ (ho.below ?_ (by omega))
      · show Acc w _
        (repeat' (first | (with_reducible first | assumption | exact Acc.refl _ | refine Acc.drew ?_ | refine Acc.drewN ?_ _ | refine Acc.alloc ?_ _ | refine Acc.setCell ?_ ?_ _) | (refine leB ?_; omega)))
      · (refine Nat.le_trans ?_ (Nat.le_of_lt_succ (Nat.lt_succ_of_le (Nat.le_refl _))); (first | omega | (simp; omega)))
    have lsW3 := kaW3.size
    have bwW3 : b < W3.heap.size := hr.1
    have HR := Lib.hid fun W (k : Below (b + 1) W3 W) => hr.keep k
    clear ho hr
    have kcW3 : Acc W3 W3 := Acc.refl _
    by_cases h0 : t = 0
    ·
      subst h0
      obtain rfl := Wr.blk HWr.out (by omega)
      obtain ⟨p, q, hgl, e0, e1⟩ := Wr.head HWr.out (by omega)
      have HC := Lib.hid fun (W : World) (ka : Acc W3 W) => And.intro ((ka.cell (p := ⟨g0, 0, none⟩) hgl).trans e0) ((ka.cell (p := ⟨g0, 1, none⟩) hgl).trans e1)
      obtain ⟨cc, sc, Ic, Is, hd⟩ := specDir_i64 p q
      obtain ⟨v, hv⟩ : ∃ o, dirB p q = o := ⟨_, rfl⟩
      rw [hv] at hd
      have TD := Lib.hid hd
      clear hv hd
      have hc1 : (1 : Int) ≤ (cap' : Int) := by omega
      go_upto_region 4 with fail
      go_cut [6, 7, 8] (fun s6 s7 s8 wx => ∃ p6 p7 : Nat, s6 = .pointer (some ⟨p6, 0, none⟩) ∧ s7 = .pointer (some ⟨p7, 0, none⟩) ∧ s8 = .bool v ∧ Blk wx p6 [.int .i64 cc.1, .int .i64 cc.2.1, .int .i64 cc.2.2] ∧ Blk wx p7 [.int .i64 sc.1, .int .i64 sc.2.1, .int .i64 sc.2.2] ∧ Blk wx (w.heap.size) [.int .i64 0, .int .i64 0, .int .i64 0, .int .i64 0, .int .i64 0, .int .i64 0] ∧ w.heap.size < p6 ∧ w.heap.size < p7 ∧ Acc W3 wx)
      case first =>
        go_region_held3 (fun w' => w'.cell? ⟨g0, 0, none⟩ = some (.int .i64 p) ∧ w'.cell? ⟨g0, 1, none⟩ = some (.int .i64 q))
          (((try dsimp only); (exact HC.out _ (show Acc W3 _ by repeat' (first | (with_reducible first | assumption | exact Acc.refl _ | refine Acc.drew ?_ | refine Acc.drewN ?_ _ | refine Acc.alloc ?_ _ | refine Acc.setCell ?_ ?_ _) | (refine leB ?_; omega))))))
          (first
            | (go_at_call 44; refine (TD.out _).mono ?_; rintro e W9 ⟨rfl, hb⟩; (try (refine with_fact (A := Blk W9 (W3.heap.size) [.int .i64 0, .int .i64 0, .int .i64 0]) ?_ ?_; (focus (refine Blk.keep hb ?_; (repeat' (first | (with_reducible first | assumption | refine Blk.drew ?_ | refine Blk.drewN ?_ _ | apply Blk.set | (refine Blk.new ?_; focus (first | rfl | (simp; done))) | refine Blk.alloc ?_ _ | refine Blk.other ?_ ?_ _) | exact eqL rfl | (refine neB ?_; omega))); done)); intro Bc; have cc := Bc.cell; have fc := Bc.free; have lc := Bc.lt)); (try (refine with_fact (A := Blk W9 (W3.heap.size + 1) [.int .i64 0, .int .i64 0, .int .i64 0]) ?_ ?_; (focus (refine Blk.keep hb ?_; (repeat' (first | (with_reducible first | assumption | refine Blk.drew ?_ | refine Blk.drewN ?_ _ | apply Blk.set | (refine Blk.new ?_; focus (first | rfl | (simp; done))) | refine Blk.alloc ?_ _ | refine Blk.other ?_ ?_ _) | exact eqL rfl | (refine neB ?_; omega))); done)); intro Bd; have cd := Bd.cell; have fd := Bd.free; have ld := Bd.lt)); have Br : Blk W9 (w.heap.size) [.int .i64 0, .int .i64 0, .int .i64 0, .int .i64 0, .int .i64 0, .int .i64 0] := Blk.keep hb (by repeat' (first | (with_reducible first | assumption | refine Blk.drew ?_ | refine Blk.drewN ?_ _ | apply Blk.set | (refine Blk.new ?_; focus (first | rfl | (simp; done))) | refine Blk.alloc ?_ _ | refine Blk.other ?_ ?_ _) | exact eqL rfl | (refine neB ?_; omega))); have cr := Br.cell; have fr := Br.free; have lr_W9 := Br.lt; have kaW9 : Acc W3 W9 := (by refine Acc.call ?_ hb; (repeat' (first | (with_reducible first | assumption | exact Acc.refl _ | refine Acc.drew ?_ | refine Acc.drewN ?_ _ | refine Acc.alloc ?_ _ | refine Acc.setCell ?_ ?_ _) | (refine leB ?_; omega)))); clear hb; have lsW9 := kaW9.size))
        all_goals
          go_wp2_with fail
        all_goals
          go_meet
          refine ⟨_, _, rfl, rfl, rfl, ?_⟩
          and_intros
          all_goals
            first
              | ((repeat' (first | (with_reducible first | assumption | refine Blk.drew ?_ | refine Blk.drewN ?_ _ | apply Blk.set | (refine Blk.new ?_; focus (first | rfl | (simp; done))) | refine Blk.alloc ?_ _ | refine Blk.other ?_ ?_ _) | exact eqL rfl | (refine neB ?_; omega))); done)
              | (refine Blk.set (vs := [.int .i64 cc.1, .int .i64 cc.2.1, .int .i64 0]) (Blk.set (vs := [.int .i64 cc.1, .int .i64 0, .int .i64 0]) (Blk.set (vs := [.int .i64 0, .int .i64 0, .int .i64 0]) ?_ rfl) rfl) rfl; (repeat' (first | (with_reducible first | assumption | refine Blk.drew ?_ | refine Blk.drewN ?_ _ | apply Blk.set | (refine Blk.new ?_; focus (first | rfl | (simp; done))) | refine Blk.alloc ?_ _ | refine Blk.other ?_ ?_ _) | exact eqL rfl | (refine neB ?_; omega))); done)
              | (refine Blk.set (vs := [.int .i64 sc.1, .int .i64 sc.2.1, .int .i64 0]) (Blk.set (vs := [.int .i64 sc.1, .int .i64 0, .int .i64 0]) (Blk.set (vs := [.int .i64 0, .int .i64 0, .int .i64 0]) ?_ rfl) rfl) rfl; (repeat' (first | (with_reducible first | assumption | refine Blk.drew ?_ | refine Blk.drewN ?_ _ | apply Blk.set | (refine Blk.new ?_; focus (first | rfl | (simp; done))) | refine Blk.alloc ?_ _ | refine Blk.other ?_ ?_ _) | exact eqL rfl | (refine neB ?_; omega))); done)
              | ((show Acc W3 _); (repeat' (first | (with_reducible first | assumption | exact Acc.refl _ | refine Acc.drew ?_ | refine Acc.drewN ?_ _ | refine Acc.alloc ?_ _ | refine Acc.setCell ?_ ?_ _) | (refine leB ?_; omega))); done)
              | (refine leB ?_; omega)
              | (simp; omega)
      case rest =>
        obtain ⟨p6, p7, rfl, rfl, rfl, B6, B7, Br, l6, l7, kax⟩ := hcut
        have lsx := kax.size
        have kaw : Acc w wc := Acc.call kaW3 kax
        have HR := Lib.hid fun W (k : Below (b + 1) wc W) => HR.out W (Below.trans (Below.mono kax (by omega)) k)
        have HWr := Lib.hid (HWr.out.keep kax)
        have kcwc : Acc wc wc := Acc.refl _
        have bwwc : b < wc.heap.size := by omega
        have cr := Br.cell
        have fr := Br.free
        have lr_wc := Br.lt
        have c6 := B6.cell
        have f6 := B6.free
        have l6_wc := B6.lt
        have c7 := B7.cell
        have f7 := B7.free
        have l7_wc := B7.lt
        cases v with
        | true =>
          go_upto_region 6 with fail
          go_region_held3 (fun w' => (∀ k, w'.cell? ⟨p6, k, none⟩ = [.int .i64 cc.1, .int .i64 cc.2.1, .int .i64 cc.2.2][k]?) ∧ (∀ k, w'.cell? ⟨p7, k, none⟩ = [.int .i64 sc.1, .int .i64 sc.2.1, .int .i64 sc.2.2][k]?))
            (((try dsimp only); (refine ⟨Blk.cell ?_, Blk.cell ?_⟩ <;> (repeat' (first | (with_reducible first | assumption | refine Blk.drew ?_ | refine Blk.drewN ?_ _ | apply Blk.set | (refine Blk.new ?_; focus (first | rfl | (simp; done))) | refine Blk.alloc ?_ _ | refine Blk.other ?_ ?_ _) | exact eqL rfl | (refine neB ?_; omega))))))
            (first
              | fail)
          all_goals
            go_wp2_with fail
            have hl1 : (ls.take 1).length = 1 := by rw [List.length_take]; omega
            refine bodyPost_ret (v := .tuple #[.slice (some ⟨g0, 0, none⟩) 1 cap', .agg #[.int .i64 cc.1, .int .i64 cc.2.1, .int .i64 cc.2.2, .int .i64 sc.1, .int .i64 sc.2.1, .int .i64 sc.2.2]]) (by simp [results, Tryz.results13, go_sem, *]) rfl ⟨_, cap', ls.take 1, (cc, sc), by rw [hl1], (Wr.lys2 (HWr.out.only (show Only w.heap.size wc _ by repeat' (with_reducible first | exact Only.refl _ _ | refine Only.here ?_ _ | refine Only.drew ?_ | refine Only.drewN ?_ _ | refine Only.alloc ?_ _)) hgw)).take1 1, by rw [hl1]; omega, ⟨Ic, Is⟩, (show Acc w _ by repeat' (first | (with_reducible first | assumption | exact Acc.refl _ | refine Acc.drew ?_ | refine Acc.drewN ?_ _ | refine Acc.alloc ?_ _ | refine Acc.setCell ?_ ?_ _) | (refine leB ?_; omega)))⟩
        | false =>
          go_wp2_with fail
          refine (jones_any b (i + 1) _ (HR.out _ (by repeat' (first | (with_reducible first | assumption | exact Below.refl _ _ | refine Below.drew ?_ | refine below_alloc ?_ ?_ _ | refine below_set ?_ ?_ _) | (refine leB ?_; omega)))) (by omega)).mono ?_
          rintro e W4 ⟨x1, x2, x3, y1, y2, y3, j, rfl, hx1, hx2, hx3, hy1, hy2, hy3, hj, ho, hr⟩
          have HWr := Lib.hid (Wr.only (Wr.keep HWr.out (show Acc wc _ by repeat' (first | (with_reducible first | assumption | exact Acc.refl _ | refine Acc.drew ?_ | refine Acc.drewN ?_ _ | refine Acc.alloc ?_ _ | refine Acc.setCell ?_ ?_ _) | (refine leB ?_; omega)))) ho hgb)
          have Br : Blk W4 (w.heap.size) [.int .i64 0, .int .i64 0, .int .i64 0, .int .i64 0, .int .i64 0, .int .i64 0] := Blk.keepo ho (neB (by omega)) (by repeat' (first | (with_reducible first | assumption | refine Blk.drew ?_ | refine Blk.drewN ?_ _ | apply Blk.set | (refine Blk.new ?_; focus (first | rfl | (simp; done))) | refine Blk.alloc ?_ _ | refine Blk.other ?_ ?_ _) | exact eqL rfl | (refine neB ?_; omega)))
          have cr := Br.cell
          have fr := Br.free
          have lr_W4 := Br.lt
          have kaW4 : Acc w W4 := by
            refine Below.trans (b := _) ?_ (ho.below ?_ (by omega))
            · show Acc w _
              (repeat' (first | (with_reducible first | assumption | exact Acc.refl _ | refine Acc.drew ?_ | refine Acc.drewN ?_ _ | refine Acc.alloc ?_ _ | refine Acc.setCell ?_ ?_ _) | (refine leB ?_; omega)))
            · (refine Nat.le_trans ?_ (Nat.le_of_lt_succ (Nat.lt_succ_of_le (Nat.le_refl _))); (first | omega | (simp; omega)))
          have lsW4 := kaW4.size
          have bwW4 : b < W4.heap.size := hr.1
          have HR := Lib.hid fun W (k : Below (b + 1) W4 W) => hr.keep k
          clear ho hr
          have kcW4 : Acc W4 W4 := Acc.refl _
          go_wp2_with fail
          refine bodyPost_ret (v := .tuple #[.slice (some ⟨g0, 0, none⟩) ls.length cap', .agg #[.int .i64 x1, .int .i64 x2, .int .i64 x3, .int .i64 y1, .int .i64 y2, .int .i64 y3]]) (by simp [results, Tryz.results13, go_sem, *]) rfl ⟨_, cap', ls, ((x1, x2, x3), (y1, y2, y3)), rfl, Wr.lys2 (HWr.out.only (show Only w.heap.size W4 _ by repeat' (with_reducible first | exact Only.refl _ _ | refine Only.here ?_ _ | refine Only.drew ?_ | refine Only.drewN ?_ _ | refine Only.alloc ?_ _)) hgw), hl, ⟨⟨hx1, hx2, hx3⟩, hy1, hy2, hy3⟩, (show Acc w _ by repeat' (first | (with_reducible first | assumption | exact Acc.refl _ | refine Acc.drew ?_ | refine Acc.drewN ?_ _ | refine Acc.alloc ?_ _ | refine Acc.setCell ?_ ?_ _) | (refine leB ?_; omega)))⟩
    ·
      have h0b : (t == 0) = false := beq_eq_false_iff_ne.2 h0
      go_wp2_with fail
      refine (jones_any b (i + 1) _ (HR.out _ (by repeat' (first | (with_reducible first | assumption | exact Below.refl _ _ | refine Below.drew ?_ | refine below_alloc ?_ ?_ _ | refine below_set ?_ ?_ _) | (refine leB ?_; omega)))) (by omega)).mono ?_
      rintro e W4 ⟨x1, x2, x3, y1, y2, y3, j, rfl, hx1, hx2, hx3, hy1, hy2, hy3, hj, ho, hr⟩
      have HWr := Lib.hid (Wr.only (Wr.keep HWr.out (show Acc W3 _ by repeat' (first | (with_reducible first | assumption | exact Acc.refl _ | refine Acc.drew ?_ | refine Acc.drewN ?_ _ | refine Acc.alloc ?_ _ | refine Acc.setCell ?_ ?_ _) | (refine leB ?_; omega)))) ho hgb)
      have Br : Blk W4 (w.heap.size) [.int .i64 0, .int .i64 0, .int .i64 0, .int .i64 0, .int .i64 0, .int .i64 0] := Blk.keepo ho (neB (by omega)) (by repeat' (first | (with_reducible first | assumption | refine Blk.drew ?_ | refine Blk.drewN ?_ _ | apply Blk.set | (refine Blk.new ?_; focus (first | rfl | (simp; done))) | refine Blk.alloc ?_ _ | refine Blk.other ?_ ?_ _) | exact eqL rfl | (refine neB ?_; omega)))
      have cr := Br.cell
      have fr := Br.free
      have lr_W4 := Br.lt
      have kaW4 : Acc w W4 := by
        refine Below.trans (b := _) ?_ (ho.below ?_ (by omega))
        · show Acc w _
          (repeat' (first | (with_reducible first | assumption | exact Acc.refl _ | refine Acc.drew ?_ | refine Acc.drewN ?_ _ | refine Acc.alloc ?_ _ | refine Acc.setCell ?_ ?_ _) | (refine leB ?_; omega)))
        · (refine Nat.le_trans ?_ (Nat.le_of_lt_succ (Nat.lt_succ_of_le (Nat.le_refl _))); (first | omega | (simp; omega)))
      have lsW4 := kaW4.size
      have bwW4 : b < W4.heap.size := hr.1
      have HR := Lib.hid fun W (k : Below (b + 1) W4 W) => hr.keep k
      clear ho hr
      have kcW4 : Acc W4 W4 := Acc.refl _
      go_wp2_with fail
      refine bodyPost_ret (v := .tuple #[.slice (some ⟨g0, 0, none⟩) ls.length cap', .agg #[.int .i64 x1, .int .i64 x2, .int .i64 x3, .int .i64 y1, .int .i64 y2, .int .i64 y3]]) (by simp [results, Tryz.results13, go_sem, *]) rfl ⟨_, cap', ls, ((x1, x2, x3), (y1, y2, y3)), rfl, Wr.lys2 (HWr.out.only (show Only w.heap.size W4 _ by repeat' (with_reducible first | exact Only.refl _ _ | refine Only.here ?_ _ | refine Only.drew ?_ | refine Only.drewN ?_ _ | refine Only.alloc ?_ _)) hgw), hl, ⟨⟨hx1, hx2, hx3⟩, hy1, hy2, hy3⟩, (show Acc w _ by repeat' (first | (with_reducible first | assumption | exact Acc.refl _ | refine Acc.drew ?_ | refine Acc.drewN ?_ _ | refine Acc.alloc ?_ _ | refine Acc.setCell ?_ ?_ _) | (refine leB ?_; omega)))⟩
  ·
    go_wp2_with fail
    refine (jones_any b i _ (HR.out _ (by repeat' (first | (with_reducible first | assumption | exact Below.refl _ _ | refine Below.drew ?_ | refine below_alloc ?_ ?_ _ | refine below_set ?_ ?_ _) | (refine leB ?_; omega)))) (by omega)).mono ?_
    rintro e W3 ⟨x1, x2, x3, y1, y2, y3, j, rfl, hx1, hx2, hx3, hy1, hy2, hy3, hj, ho, hr⟩
    have HWr := Lib.hid (Wr.only (Wr.keep HWr.out (show Acc W2 _ by repeat' (first | (with_reducible first | assumption | exact Acc.refl _ | refine Acc.drew ?_ | refine Acc.drewN ?_ _ | refine Acc.alloc ?_ _ | refine Acc.setCell ?_ ?_ _) | (refine leB ?_; omega)))) ho hgb)
    have Br : Blk W3 (w.heap.size) [.int .i64 0, .int .i64 0, .int .i64 0, .int .i64 0, .int .i64 0, .int .i64 0] := Blk.keepo ho (neB (by omega)) (by repeat' (first | (with_reducible first | assumption | refine Blk.drew ?_ | refine Blk.drewN ?_ _ | apply Blk.set | (refine Blk.new ?_; focus (first | rfl | (simp; done))) | refine Blk.alloc ?_ _ | refine Blk.other ?_ ?_ _) | exact eqL rfl | (refine neB ?_; omega)))
    have cr := Br.cell
    have fr := Br.free
    have lr_W3 := Br.lt
    have kaW3 : Acc w W3 := by
      refine Below.trans (b := _) ?_ (ho.below ?_ (by omega))
      · show Acc w _
        (repeat' (first | (with_reducible first | assumption | exact Acc.refl _ | refine Acc.drew ?_ | refine Acc.drewN ?_ _ | refine Acc.alloc ?_ _ | refine Acc.setCell ?_ ?_ _) | (refine leB ?_; omega)))
      · (refine Nat.le_trans ?_ (Nat.le_of_lt_succ (Nat.lt_succ_of_le (Nat.le_refl _))); (first | omega | (simp; omega)))
    have lsW3 := kaW3.size
    have bwW3 : b < W3.heap.size := hr.1
    have HR := Lib.hid fun W (k : Below (b + 1) W3 W) => hr.keep k
    clear ho hr
    have kcW3 : Acc W3 W3 := Acc.refl _
    go_wp2_with fail
    refine bodyPost_ret (v := .tuple #[.slice (some ⟨g0, 0, none⟩) ls.length cap', .agg #[.int .i64 x1, .int .i64 x2, .int .i64 x3, .int .i64 y1, .int .i64 y2, .int .i64 y3]]) (by simp [results, Tryz.results13, go_sem, *]) rfl ⟨_, cap', ls, ((x1, x2, x3), (y1, y2, y3)), rfl, Wr.lys2 (HWr.out.only (show Only w.heap.size W3 _ by repeat' (with_reducible first | exact Only.refl _ _ | refine Only.here ?_ _ | refine Only.drew ?_ | refine Only.drewN ?_ _ | refine Only.alloc ?_ _)) hgw), hl, ⟨⟨hx1, hx2, hx3⟩, hy1, hy2, hy3⟩, (show Acc w _ by repeat' (first | (with_reducible first | assumption | exact Acc.refl _ | refine Acc.drew ?_ | refine Acc.drewN ?_ _ | refine Acc.alloc ?_ _ | refine Acc.setCell ?_ ?_ _) | (refine leB ?_; omega)))⟩
end Go.Proofs.YtkdkeacfifjjoabGreatDoor
